import PyProof.Rows.All
import Wide.All
import OpenK.AllK
import Wide.FinOn
import PySem.Challenge.RW_precread_k03_tellings_added
import HandS.ForMost
import HandS.WordsExc
import HandS.TryOnly
import HandS.HotCalls
import HandS.IsInst
import HandS.ExcIs
import HandS.AnyAll
import HandS.EndTab
import HandS.FStr
import HandS.Replace
import HandS.Small
import HandS.TryMany
import HandS.Zip
import KE.KDictZip
import HandS.EndOwn
import HandS.Deep
import HandS.GenOver
import HandS.Nested
import HandS.TupAny
import PyProof.DelItemList
import HandS.Iter
import HandS.Style
import HandS.ReplaceLit
import KE.KWords
import HandS.ReplaceList
import HandS.ExcCtx
import PyProof.EnumMake
set_option Elab.async false
set_option linter.all false
set_option maxRecDepth 100000
namespace Eng
open PySem PySem.Spec
open PyProof.Rows L2
abbrev St := L2.St
abbrev D := PyData

/-! ### tracked data -/
mutual
inductive Tr (H : Hp) : V → PyData → Prop
  | non : Tr H .non .none
  | bl (b : Bool) : Tr H (.bl b) (.bool b)
  | int (i : Int) : Tr H (.int i) (.int i)
  | str (x : Str) : Tr H (.str x) (.str x)
  | lst {a : Addr} {xs : List V} {ds : List PyData} : H a = some (.lst xs) → TrAll H xs ds → Tr H (.ref a) (.list ds)
  | tup {a : Addr} {xs : List V} {ds : List PyData} : H a = some (.tup xs) → TrAll H xs ds → Tr H (.ref a) (.tuple ds)
inductive TrAll (H : Hp) : List V → List PyData → Prop
  | nil : TrAll H [] []
  | cons {v : V} {vs : List V} {d : PyData} {ds : List PyData} : Tr H v d → TrAll H vs ds → TrAll H (v :: vs) (d :: ds)
end
mutual
def lf : PyData → Bool
  | .none => true
  | .bool _ => true
  | .int _ => true
  | .str _ => true
  | .list _ => false
  | .tuple ds => lfs ds
  | .dict _ => false
def lfs : List PyData → Bool
  | [] => true
  | d :: ds => lf d && lfs ds
end
def SeqLe (H H' : Hp) : Prop := (∀ a xs, H a = some (.lst xs) → H' a = some (.lst xs)) ∧ ∀ a xs, H a = some (.tup xs) → H' a = some (.tup xs)
mutual
theorem Tr.mono {H H' : Hp} (s : SeqLe H H') : ∀ (d : PyData) (v : V), Tr H v d → Tr H' v d
  | .none, _, h => by cases h; exact .non
  | .bool b, _, h => by cases h; exact .bl b
  | .int i, _, h => by cases h; exact .int i
  | .str x, _, h => by cases h; exact .str x
  | .list ds, _, h => by
    cases h with
    | lst e t => exact .lst (s.1 _ _ e) (TrAll.mono s ds _ t)
  | .tuple ds, _, h => by
    cases h with
    | tup e t => exact .tup (s.2 _ _ e) (TrAll.mono s ds _ t)
  | .dict _, _, h => by cases h
theorem TrAll.mono {H H' : Hp} (s : SeqLe H H') : ∀ (ds : List PyData) (vs : List V), TrAll H vs ds → TrAll H' vs ds
  | [], _, h => by cases h; exact .nil
  | d :: ds, _, h => by
    cases h with
    | cons a t => exact .cons (Tr.mono s d _ a) (TrAll.mono s ds _ t)
end
mutual
theorem Tr.lfm {H H' : Hp} (s : ∀ a xs, H a = some (.tup xs) → H' a = some (.tup xs)) : ∀ (d : PyData) (v : V), Tr H v d → lf d = true → Tr H' v d
  | .none, _, h, _ => by cases h; exact .non
  | .bool b, _, h, _ => by cases h; exact .bl b
  | .int i, _, h, _ => by cases h; exact .int i
  | .str x, _, h, _ => by cases h; exact .str x
  | .list ds, _, h, l => by simp [lf] at l
  | .tuple ds, _, h, l => by
    cases h with
    | tup e t => exact .tup (s _ _ e) (TrAll.lfm s ds _ t (by simpa [lf] using l))
  | .dict _, _, h, _ => by cases h
theorem TrAll.lfm {H H' : Hp} (s : ∀ a xs, H a = some (.tup xs) → H' a = some (.tup xs)) : ∀ (ds : List PyData) (vs : List V), TrAll H vs ds → lfs ds = true → TrAll H' vs ds
  | [], _, h, _ => by cases h; exact .nil
  | d :: ds, _, h, l => by
    cases h with
    | cons a t =>
      rw [lfs, Bool.and_eq_true] at l
      exact .cons (Tr.lfm s d _ a l.1) (TrAll.lfm s ds _ t l.2)
end
mutual
theorem Tr.dp {K : PySem.W.Frag} {H : Hp} : ∀ (d : PyData) (v : V), Tr H v d → Dp K H v d
  | .none, _, h => by cases h; exact .non
  | .bool b, _, h => by cases h; exact .bl b
  | .int i, _, h => by cases h; exact .int i
  | .str x, _, h => by cases h; exact .str x
  | .list ds, _, h => by
    cases h with
    | lst e t => exact .lst (SqL.of e) (TrAll.dp ds _ t)
  | .tuple ds, _, h => by
    cases h with
    | tup e t => exact .tup (SqT.of e) (TrAll.dp ds _ t)
  | .dict _, _, h => by cases h
theorem TrAll.dp {K : PySem.W.Frag} {H : Hp} : ∀ (ds : List PyData) (vs : List V), TrAll H vs ds → DpAll K H vs ds
  | [], _, h => by cases h; exact .nil
  | d :: ds, _, h => by
    cases h with
    | cons a t => exact .cons (Tr.dp d _ a) (TrAll.dp ds _ t)
end
theorem TrAll.length {H : Hp} : ∀ {vs : List V} {ds : List PyData}, TrAll H vs ds → vs.length = ds.length
  | _, [], h => by cases h; rfl
  | _, _ :: _, h => by
    cases h with
    | cons _ t => simp [TrAll.length t]
theorem TrAll.get {H : Hp} : ∀ {ds : List PyData} {vs : List V} {i : Nat} {d : PyData}, TrAll H vs ds → ds[i]? = some d → ∃ v, vs[i]? = some v ∧ Tr H v d
  | [], _, _, _, _, e => by simp at e
  | d :: ds, _, 0, _, h, e => by
    cases h with
    | cons a t => simp at e; subst e; exact ⟨_, rfl, a⟩
  | d :: ds, _, i + 1, _, h, e => by
    cases h with
    | cons a t => simpa using TrAll.get (i := i) t (by simpa using e)
theorem TrAll.getV {H : Hp} {ds : List PyData} {vs : List V} {i : Nat} {v : V} (h : TrAll H vs ds) (e : vs[i]? = some v) : ∃ d, ds[i]? = some d ∧ Tr H v d := by
  have hl := h.length
  have hi : i < ds.length := by rw [← hl]; exact (List.getElem?_eq_some_iff.mp e).1
  obtain ⟨w, hw, t⟩ := h.get (List.getElem?_eq_getElem hi)
  rw [e] at hw; cases hw
  exact ⟨_, List.getElem?_eq_getElem hi, t⟩
theorem TrAll.append {H : Hp} : ∀ {ds es : List PyData} {vs ws : List V}, TrAll H vs ds → TrAll H ws es → TrAll H (vs ++ ws) (ds ++ es)
  | [], _, _, _, h, t => by cases h; exact t
  | _ :: _, _, _, _, h, t => by
    cases h with
    | cons a b => exact .cons a (TrAll.append b t)
theorem TrAll.take {H : Hp} : ∀ {ds : List PyData} {vs : List V} (n : Nat), TrAll H vs ds → TrAll H (vs.take n) (ds.take n)
  | [], _, _, h => by cases h; simp; exact .nil
  | _ :: _, _, 0, h => by simp; exact .nil
  | _ :: _, _, n + 1, h => by
    cases h with
    | cons a b => exact .cons a (TrAll.take n b)
theorem TrAll.drop {H : Hp} : ∀ {ds : List PyData} {vs : List V} (n : Nat), TrAll H vs ds → TrAll H (vs.drop n) (ds.drop n)
  | [], _, _, h => by cases h; simp; exact .nil
  | _ :: _, _, 0, h => h
  | _ :: _, _, n + 1, h => by
    cases h with
    | cons a b => exact TrAll.drop n b
theorem TrAll.set {H : Hp} : ∀ {ds : List PyData} {vs : List V} (i : Nat) {v : V} {d : PyData}, TrAll H vs ds → Tr H v d → TrAll H (vs.set i v) (ds.set i d)
  | [], _, _, _, _, h, _ => by cases h; simp; exact .nil
  | _ :: _, _, 0, _, _, h, t => by
    cases h with
    | cons a b => exact .cons t b
  | _ :: _, _, i + 1, _, _, h, t => by
    cases h with
    | cons a b => exact .cons a (TrAll.set i b t)
theorem TrAll.dropLast {H : Hp} : ∀ {ds : List PyData} {vs : List V}, TrAll H vs ds → TrAll H vs.dropLast ds.dropLast
  | [], _, h => by cases h; exact .nil
  | [_], _, h => by
    cases h with
    | cons a b => cases b; exact .nil
  | _ :: _ :: _, _, h => by
    cases h with
    | cons a b =>
      cases b with
      | cons a2 b2 => exact .cons a (TrAll.dropLast (.cons a2 b2))
theorem TrAll.one {H : Hp} {v : V} {d : PyData} (h : Tr H v d) : TrAll H [v] [d] := .cons h .nil
theorem TrAll.strs {H : Hp} : ∀ {vs : List V} {xs : List Str}, TrAll H vs (xs.map PyData.str) → vs = xs.map V.str
  | _, [], h => by cases h; rfl
  | _, _ :: _, h => by
    cases h with
    | cons a t => cases a; rw [TrAll.strs t]; rfl
theorem TrAll.ints {H : Hp} : ∀ {vs : List V} {xs : List Int}, TrAll H vs (xs.map PyData.int) → vs = xs.map V.int
  | _, [], h => by cases h; rfl
  | _, _ :: _, h => by
    cases h with
    | cons a t => cases a; rw [TrAll.ints t]; rfl
theorem trAll_strs {H : Hp} : ∀ (xs : List Str), TrAll H (xs.map V.str) (xs.map PyData.str)
  | [] => .nil
  | x :: xs => .cons (.str x) (trAll_strs xs)
theorem trAll_ints {H : Hp} : ∀ (xs : List Int), TrAll H (xs.map V.int) (xs.map PyData.int)
  | [] => .nil
  | x :: xs => .cons (.int x) (trAll_ints xs)

/-! ### masks -/
def mask (P : List Addr) (H : Hp) : Hp := fun a => if a ∈ P then none else H a
theorem mask_in {P : List Addr} {H : Hp} {a : Addr} (h : a ∈ P) : mask P H a = none := if_pos h
theorem mask_out {P : List Addr} {H : Hp} {a : Addr} (h : a ∉ P) : mask P H a = H a := if_neg h
theorem mask_some {P : List Addr} {H : Hp} {a : Addr} {o : HO} (h : mask P H a = some o) : a ∉ P ∧ H a = some o := by
  by_cases hp : a ∈ P
  · rw [mask_in hp] at h; cases h
  · rw [mask_out hp] at h; exact ⟨hp, h⟩
theorem mask_le {P : List Addr} {H : Hp} : SeqLe (mask P H) H := ⟨fun _ _ h => (mask_some h).2, fun _ _ h => (mask_some h).2⟩
theorem mask_anti {P P' : List Addr} {H : Hp} (s : ∀ a ∈ P', a ∈ P) : SeqLe (mask P H) (mask P' H) :=
  ⟨fun a _ h => by rw [mask_out fun z => (mask_some h).1 (s a z)]; exact (mask_some h).2, fun a _ h => by rw [mask_out fun z => (mask_some h).1 (s a z)]; exact (mask_some h).2⟩
theorem SeqLe.trans {H H1 H2 : Hp} (a : SeqLe H H1) (b : SeqLe H1 H2) : SeqLe H H2 := ⟨fun x y h => b.1 x y (a.1 x y h), fun x y h => b.2 x y (a.2 x y h)⟩
theorem SeqLe.refl (H : Hp) : SeqLe H H := ⟨fun _ _ h => h, fun _ _ h => h⟩
theorem mask_nil (H : Hp) : mask [] H = H := by funext a; exact mask_out (by simp)

/-! ### heaps that grow -/
/-- all that was tracked is as it was, but for the code objects' tables -/
def Sm (H H' : Hp) : Prop := ∀ a o, H a = some o → H' a = some o ∨ ∃ ps ps', o = .tbl ps ∧ H' a = some (.tbl ps')
theorem Sm.refl (H : Hp) : Sm H H := fun _ _ h => .inl h
theorem Sm.trans {H H1 H2 : Hp} (a : Sm H H1) (b : Sm H1 H2) : Sm H H2 := fun x o h => by
  rcases a x o h with h1 | ⟨ps, ps', rfl, h1⟩
  · exact b x o h1
  · rcases b x _ h1 with h2 | ⟨qs, qs', e, h2⟩
    · exact .inr ⟨ps, ps', rfl, h2⟩
    · exact .inr ⟨ps, qs', rfl, h2⟩
theorem Sm.lst {H H' : Hp} (s : Sm H H') {a : Addr} {xs : List V} (h : H a = some (.lst xs)) : H' a = some (.lst xs) := by
  rcases s a _ h with z | ⟨_, _, e, _⟩
  · exact z
  · cases e
theorem Sm.tup {H H' : Hp} (s : Sm H H') {a : Addr} {xs : List V} (h : H a = some (.tup xs)) : H' a = some (.tup xs) := by
  rcases s a _ h with z | ⟨_, _, e, _⟩
  · exact z
  · cases e
theorem Sm.frz {H H' : Hp} (s : Sm H H') {a : Addr} {ob : Obj} {u : HO} (h : H a = some (.frz ob u)) : H' a = some (.frz ob u) := by
  rcases s a _ h with z | ⟨_, _, e, _⟩
  · exact z
  · cases e
theorem Sm.none {H H' : Hp} (s : Sm H H') {a : Addr} (h : H' a = Option.none) : H a = Option.none := by
  cases e : H a with
  | none => rfl
  | some o =>
    rcases s a o e with z | ⟨_, _, _, z⟩ <;> (rw [h] at z; cases z)
theorem Sm.some {H H' : Hp} (s : Sm H H') {a : Addr} (h : H a ≠ Option.none) : H' a ≠ Option.none := fun z => h (s.none z)
theorem Sm.seq {H H' : Hp} (s : Sm H H') : SeqLe H H' := ⟨fun _ _ h => s.lst h, fun _ _ h => s.tup h⟩
theorem Sm.mask {H H' : Hp} (s : Sm H H') (P : List Addr) : SeqLe (mask P H) (mask P H') :=
  ⟨fun a _ h => by rw [mask_out (mask_some h).1]; exact s.lst (mask_some h).2, fun a _ h => by rw [mask_out (mask_some h).1]; exact s.tup (mask_some h).2⟩
theorem Sm.upd {H : Hp} {p : Addr} {o : HO} (h : H p = Option.none) : Sm H (upd H p o) := fun a u e => .inl (by rw [upd_ne (ne_of_none e h)]; exact e)
abbrev TabG := GxR.TabG
def Tab (T : List Addr) (H : Hp) : Prop := ∀ p ∈ T, TabG H p
theorem Tab.sm {T : List Addr} {H H' : Hp} (t : Tab T H) (h : ∀ p ∈ T, H' p = H p) : Tab T H' := fun p hp => by
  obtain ⟨ps, e, k⟩ := t p hp
  exact ⟨ps, by rw [h p hp]; exact e, k⟩
theorem Tab.upd {T : List Addr} {H : Hp} {p : Addr} {o : HO} (t : Tab T H) (h : ∀ ps, H p ≠ some (.tbl ps)) : Tab T (upd H p o) := fun q hq => by
  obtain ⟨ps, e, k⟩ := t q hq
  have : q ≠ p := fun z => h ps (z ▸ e)
  exact ⟨ps, by rw [upd_ne this]; exact e, k⟩
theorem Tab.new {T : List Addr} {H : Hp} {p : Addr} {o : HO} (t : Tab T H) (h : H p = none) : Tab T (L2.upd H p o) := t.upd fun ps e => by rw [h] at e; cases e

/-! ### results, modes, cells -/
inductive Rs (α : Type) where
  | ok (a : α)
  | er (c : Str)
  | no
def Rs.bind {α β : Type} : Rs α → (α → Rs β) → Rs β
  | .ok a, k => k a
  | .er c, _ => .er c
  | .no, _ => .no
/-- how a value is held: a new list, data that stands apart from the lists that are owned, an owned list itself, data that may be one, the script or an object of the module -/
inductive Md where
  | fr | cl | ow | vw | fz
  deriving DecidableEq
inductive Cell where
  | un
  | val (d : D)
  | own (ds : List D)
  | fz (d : D)
abbrev CV := List Cell
inductive Out where
  | nx (ρ : CV)
  | rt (d : D) (m : Md) (ρ : CV)
  | bk (ρ : CV)
  | ct (ρ : CV)
  | er (c : Str) (ρ : CV)
  | ex (c : Str)
  | no
/-- flat items of a frozen or written list or tuple -/
inductive Fl : List V → List PyData → Prop
  | nil : Fl [] []
  | int {i : Int} {vs ds} : Fl vs ds → Fl (.int i :: vs) (.int i :: ds)
  | str {x : Str} {vs ds} : Fl vs ds → Fl (.str x :: vs) (.str x :: ds)
inductive Fz (K : PySem.W.Frag) (H : Hp) : V → PyData → Prop
  | lst {a : Addr} {xs : List V} {ds : List PyData} : ((∃ o, H a = some (.frz o (.lst xs))) ∨ ∃ (o : Obj) (its : Array Value) (n : Nat), K.lookup a = some o ∧ o.cls = .type "list" ∧ o.dict = none ∧ o.data = .seq its n ∧ its.size ≤ sizeLine ∧ Vals xs its.toList) → Fl xs ds → Fz K H (.ref a) (.list ds)
  | tup {a : Addr} {xs : List V} {ds : List PyData} : (∃ (o : Obj) (its : Array Value) (n : Nat), K.lookup a = some o ∧ o.cls = .type "tuple" ∧ o.data = .seq its n ∧ its.size ≤ sizeLine ∧ Vals xs its.toList) → Fl xs ds → Fz K H (.ref a) (.tuple ds)
theorem Fl.tr {H : Hp} : ∀ {vs : List V} {ds : List PyData}, Fl vs ds → TrAll H vs ds
  | _, _, .nil => .nil
  | _, _, .int t => .cons (.int _) t.tr
  | _, _, .str t => .cons (.str _) t.tr
theorem Fz.sm {K : PySem.W.Frag} {H H' : Hp} (s : Sm H H') {v : V} {d : D} (h : Fz K H v d) : Fz K H' v d := by
  cases h with
  | lst e f =>
    rcases e with ⟨o, e⟩ | e
    · exact .lst (.inl ⟨o, s.frz e⟩) f
    · exact .lst (.inr e) f
  | tup e f => exact .tup e f
theorem Fz.dp {K : PySem.W.Frag} {H : Hp} {v : V} {d : D} (h : Fz K H v d) : Dp K H v d := by
  cases h with
  | lst e f =>
    rcases e with ⟨o, e⟩ | e
    · exact .lst (.inl (.inr ⟨o, e⟩)) (TrAll.dp _ _ f.tr)
    · exact .lst (.inr e) (TrAll.dp _ _ f.tr)
  | tup e f => exact .tup (.inr e) (TrAll.dp _ _ f.tr)
/-- the value of an expression: Pm the addresses of owned lists, H ahead, H' behind -/
def VR (K : PySem.W.Frag) (Pm : List Addr) (H H' : Hp) : Md → V → D → Prop
  | .fr, v, d => ∃ p vs ds, v = .ref p ∧ d = .list ds ∧ H p = none ∧ H' p = some (.lst vs) ∧ TrAll (mask (p :: Pm) H') vs ds
  | .cl, v, d => Tr (mask Pm H') v d
  | .ow, v, d => ∃ p vs ds, v = .ref p ∧ d = .list ds ∧ p ∈ Pm ∧ H' p = some (.lst vs) ∧ TrAll (mask Pm H') vs ds
  | .vw, v, d => Tr H' v d
  | .fz, v, d => Fz K H' v d
/-- the same as an operand -/
def OV (K : PySem.W.Frag) (Pm : List Addr) (H : Hp) : Md → V → D → Prop
  | .fr, v, d => Tr (mask Pm H) v d
  | .cl, v, d => Tr (mask Pm H) v d
  | .ow, v, d => ∃ p vs ds, v = .ref p ∧ d = .list ds ∧ p ∈ Pm ∧ H p = some (.lst vs) ∧ TrAll (mask Pm H) vs ds
  | .vw, v, d => Tr H v d
  | .fz, v, d => Fz K H v d
section
variable {K : PySem.W.Frag} {T : List Addr} {Pm : List Addr} {H H' H1 : Hp} {m : Md} {v : V} {d : D}
/-- what may change: a list, an instance -/
def Chg (o : HO) : Prop := (∃ vs, o = .lst vs) ∨ ∃ C dx fs, o = .ins C dx fs
def Lsts (P : List Addr) (H : Hp) : Prop := ∀ p ∈ P, ∃ o, H p = some o ∧ Chg o
theorem chg_sm {a : Addr} {o : HO} (s : Sm H H') (c : Chg o) (h : H a = some o) : H' a = some o := by
  rcases s a o h with z | ⟨_, _, e, _⟩
  · exact z
  · subst e
    rcases c with ⟨_, z⟩ | ⟨_, _, _, z⟩ <;> cases z
theorem Lsts.sm {P : List Addr} (l : Lsts P H) (s : Sm H H') : Lsts P H' := fun p hp => let ⟨o, e, c⟩ := l p hp; ⟨o, chg_sm s c e, c⟩
theorem Chg.lst {vs : List V} : Chg (.lst vs) := .inl ⟨_, rfl⟩
theorem VR.ov (l : Lsts Pm H) (h : VR K Pm H H' m v d) : OV K Pm H' m v d := by
  cases m with
  | fr =>
    obtain ⟨p, vs, ds, rfl, rfl, h0, h1, t⟩ := h
    have np : p ∉ Pm := fun z => by
      obtain ⟨o, e, _⟩ := l p z
      rw [h0] at e; cases e
    exact .lst (by rw [mask_out np]; exact h1) (TrAll.mono (mask_anti fun a ha => List.mem_cons_of_mem _ ha) _ _ t)
  | cl => exact h
  | ow => exact h
  | vw => exact h
  | fz => exact h
theorem OV.sm (s : Sm H H') (h : OV K Pm H m v d) : OV K Pm H' m v d := by
  cases m with
  | fr => exact Tr.mono (s.mask Pm) _ _ h
  | cl => exact Tr.mono (s.mask Pm) _ _ h
  | ow =>
    obtain ⟨p, vs, ds, rfl, rfl, h0, h1, t⟩ := h
    exact ⟨p, vs, ds, rfl, rfl, h0, s.lst h1, TrAll.mono (s.mask Pm) _ _ t⟩
  | vw => exact Tr.mono s.seq _ _ h
  | fz => exact Fz.sm s h
theorem OV.tr (h : OV K Pm H m v d) (n : m ≠ .fz) : Tr H v d := by
  cases m with
  | fr => exact Tr.mono mask_le _ _ h
  | cl => exact Tr.mono mask_le _ _ h
  | ow =>
    obtain ⟨p, vs, ds, rfl, rfl, h0, h1, t⟩ := h
    exact .lst h1 (TrAll.mono mask_le _ _ t)
  | vw => exact h
  | fz => exact absurd rfl n
theorem OV.dp (h : OV K Pm H m v d) : Dp K H v d := by
  by_cases n : m = .fz
  · subst n; exact Fz.dp h
  · exact Tr.dp _ _ (h.tr n)
def isCl : Md → Bool
  | .fr => true
  | .cl => true
  | _ => false
theorem OV.clean (h : OV K Pm H m v d) (c : isCl m = true) : Tr (mask Pm H) v d := by
  cases m <;> first | exact h | cases c
/-- items apart from the owned lists -/
def itCl : Md → Bool
  | .vw => false
  | _ => true
theorem mask_tup (l : Lsts Pm H) : ∀ a xs, H a = some (.tup xs) → mask Pm H a = some (.tup xs) := fun a xs e => by
  rw [mask_out fun z => by
    obtain ⟨o, e2, c⟩ := l a z
    rw [e] at e2; cases e2
    rcases c with ⟨_, y⟩ | ⟨_, _, _, y⟩ <;> cases y]
  exact e
theorem Tr.lfMask (l : Lsts Pm H) (h : Tr H v d) (f : lf d = true) : Tr (mask Pm H) v d := Tr.lfm (mask_tup l) _ _ h f
theorem TrAll.lfMask (l : Lsts Pm H) {vs : List V} {ds : List D} (h : TrAll H vs ds) (f : lfs ds = true) : TrAll (mask Pm H) vs ds := TrAll.lfm (mask_tup l) _ _ h f
end
end Eng

set_option Elab.async false
set_option linter.all false
set_option maxRecDepth 100000
namespace Eng
open PySem PySem.Spec
open PyProof.Rows L2

/-! ### the state: base, owned addresses, slots -/
/-- an object whose attributes are known: its slot, the number of slots, its class, the names, whether it may change -/
structure Obc where
  k : Nat
  nl : Nat
  C : Addr
  fs : List Str
  wr : Bool
structure Bs where
  H0 : Hp
  M : List Addr
  io : List (Nat × Addr)
  ch : List Addr
  ob : Option Obc := none
  oa : Option Addr := none
structure Cf where
  K : PySem.W.Frag
  T : List Addr
  mg : Str → Option Value
  ios : List Nat
  ob : Option Obc := none
/-- H0: the heap at the entry; M: lists that must not be reached by data; io: the slots of lists that the caller lets change; ch: what may change; P: the owned lists -/
structure RE0 (K : PySem.W.Frag) (T : List Addr) (B : Bs) (P : List Addr) (H : Hp) (σ : St) (ρ : CV) : Prop where
  len : σ.length = ρ.length
  val : ∀ (i : Nat) (d : D), ρ[i]? = some (.val d) → ∃ v, σ[i]? = some (some v) ∧ Tr (mask (B.M ++ P) H) v d
  own : ∀ (i : Nat) (ds : List D), ρ[i]? = some (.own ds) → ∃ p vs, σ[i]? = some (some (.ref p)) ∧ p ∈ P ∧ (i ∉ B.io.map (·.1) → p ∉ B.M) ∧ H p = some (.lst vs) ∧ TrAll (mask (B.M ++ P) H) vs ds
  fz : ∀ (i : Nat) (d : D), ρ[i]? = some (.fz d) → ∃ v, σ[i]? = some (some v) ∧ Fz K H v d
  sep : ∀ (i j : Nat) (ds es : List D) (p : Addr), i ≠ j → ρ[i]? = some (.own ds) → ρ[j]? = some (.own es) → σ[i]? = some (some (.ref p)) → σ[j]? ≠ some (some (.ref p))
  keep : ∀ (a : Addr) (o : HO), B.H0 a = some o → a ∉ B.ch → H a = some o ∨ ∃ ps ps', o = .tbl ps ∧ H a = some (.tbl ps')
  new : ∀ p ∈ P, p ∈ B.ch ∨ B.H0 p = none
  lst : Lsts (B.M ++ P) H
  iol : Lsts B.ch H
  io0 : ∀ p ∈ B.ch, B.H0 p ≠ none
  ios : ∀ q ∈ B.io, σ[q.1]? = some (some (.ref q.2))
  ioo : ∀ q ∈ B.io, ∃ ds, ρ[q.1]? = some (Cell.own ds)
  tab : Tab T H
section
variable {K : PySem.W.Frag} {T : List Addr} {B : Bs} {P P' : List Addr} {H H' H1 : Hp} {σ σ' : St} {ρ ρ' : CV}
theorem RE0.fresh0 (r : RE0 K T B P H σ ρ) {a : Addr} (h : H a = none) : B.H0 a = none := by
  cases e : B.H0 a with
  | none => rfl
  | some o =>
    by_cases hi : a ∈ B.ch
    · obtain ⟨o, e2, _⟩ := r.iol a hi
      rw [h] at e2; cases e2
    · rcases r.keep a o e hi with z | ⟨_, _, _, z⟩ <;> (rw [h] at z; cases z)
theorem RE0.sm (r : RE0 K T B P H σ ρ) (s : Sm H H') (t : Tab T H') : RE0 K T B P H' σ ρ where
  len := r.len
  val := fun i d e => let ⟨v, h1, h2⟩ := r.val i d e; ⟨v, h1, Tr.mono (s.mask _) _ _ h2⟩
  own := fun i ds e => let ⟨p, vs, h1, h2, hm, h3, h4⟩ := r.own i ds e; ⟨p, vs, h1, h2, hm, s.lst h3, TrAll.mono (s.mask _) _ _ h4⟩
  fz := fun i d e => let ⟨v, h1, h2⟩ := r.fz i d e; ⟨v, h1, h2.sm s⟩
  sep := r.sep
  keep := fun a o e hi => by
    rcases r.keep a o e hi with z | ⟨ps, ps', rfl, z⟩
    · exact s a o z
    · rcases s a _ z with z2 | ⟨_, qs, _, z2⟩
      · exact .inr ⟨ps, ps', rfl, z2⟩
      · exact .inr ⟨ps, qs, rfl, z2⟩
  new := r.new
  lst := r.lst.sm s
  iol := r.iol.sm s
  io0 := r.io0
  ios := r.ios
  ioo := r.ioo
  tab := t
/-- a slot holds data -/
theorem RE0.setVal (r : RE0 K T B P H σ ρ) {i : Nat} {v : V} {d : D} (hi : i ∉ B.io.map (·.1)) (t : Tr (mask (B.M ++ P) H) v d) : RE0 K T B P H (σ.set i (some v)) (ρ.set i (.val d)) where
  len := by rw [List.length_set, List.length_set]; exact r.len
  val := fun j e h => by
    by_cases hj : i = j
    · subst hj
      have hl : i < ρ.length := by
        have := (List.getElem?_eq_some_iff.mp h).1
        rwa [List.length_set] at this
      rw [List.getElem?_set_self hl] at h
      cases h
      exact ⟨v, List.getElem?_set_self (by rw [r.len]; exact hl), t⟩
    · rw [List.getElem?_set_ne hj] at h
      rw [List.getElem?_set_ne hj]
      exact r.val j e h
  own := fun j e h => by
    by_cases hj : i = j
    · subst hj
      have hl : i < ρ.length := by
        have := (List.getElem?_eq_some_iff.mp h).1
        rwa [List.length_set] at this
      rw [List.getElem?_set_self hl] at h
      cases h
    · rw [List.getElem?_set_ne hj] at h
      rw [List.getElem?_set_ne hj]
      exact r.own j e h
  fz := fun j e h => by
    by_cases hj : i = j
    · subst hj
      have hl : i < ρ.length := by
        have := (List.getElem?_eq_some_iff.mp h).1
        rwa [List.length_set] at this
      rw [List.getElem?_set_self hl] at h
      cases h
    · rw [List.getElem?_set_ne hj] at h
      rw [List.getElem?_set_ne hj]
      exact r.fz j e h
  sep := fun j k ds es p hjk h1 h2 h3 => by
    have nj : i ≠ j := fun e => by
      subst e
      have hl : i < ρ.length := by
        have := (List.getElem?_eq_some_iff.mp h1).1
        rwa [List.length_set] at this
      rw [List.getElem?_set_self hl] at h1; cases h1
    have nk : i ≠ k := fun e => by
      subst e
      have hl : i < ρ.length := by
        have := (List.getElem?_eq_some_iff.mp h2).1
        rwa [List.length_set] at this
      rw [List.getElem?_set_self hl] at h2; cases h2
    rw [List.getElem?_set_ne nj] at h1 h3
    rw [List.getElem?_set_ne nk] at h2 ⊢
    exact r.sep j k ds es p hjk h1 h2 h3
  keep := r.keep
  new := r.new
  lst := r.lst
  iol := r.iol
  io0 := r.io0
  ios := fun q hq => by
    have n : i ≠ q.1 := fun e => hi (List.mem_map.mpr ⟨q, hq, e.symm⟩)
    rw [List.getElem?_set_ne n]
    exact r.ios q hq
  ioo := fun q hq => by
    have n : i ≠ q.1 := fun e => hi (List.mem_map.mpr ⟨q, hq, e.symm⟩)
    rw [List.getElem?_set_ne n]
    exact r.ioo q hq
  tab := r.tab
/-- a slot holds what is not known -/
theorem RE0.setUn (r : RE0 K T B P H σ ρ) {i : Nat} {o : Option V} (hi : i ∉ B.io.map (·.1)) : RE0 K T B P H (σ.set i o) (ρ.set i .un) where
  len := by rw [List.length_set, List.length_set]; exact r.len
  val := fun j e h => by
    by_cases hj : i = j
    · subst hj
      have hl : i < ρ.length := by
        have := (List.getElem?_eq_some_iff.mp h).1
        rwa [List.length_set] at this
      rw [List.getElem?_set_self hl] at h
      cases h
    · rw [List.getElem?_set_ne hj] at h
      rw [List.getElem?_set_ne hj]
      exact r.val j e h
  own := fun j e h => by
    by_cases hj : i = j
    · subst hj
      have hl : i < ρ.length := by
        have := (List.getElem?_eq_some_iff.mp h).1
        rwa [List.length_set] at this
      rw [List.getElem?_set_self hl] at h
      cases h
    · rw [List.getElem?_set_ne hj] at h
      rw [List.getElem?_set_ne hj]
      exact r.own j e h
  fz := fun j e h => by
    by_cases hj : i = j
    · subst hj
      have hl : i < ρ.length := by
        have := (List.getElem?_eq_some_iff.mp h).1
        rwa [List.length_set] at this
      rw [List.getElem?_set_self hl] at h
      cases h
    · rw [List.getElem?_set_ne hj] at h
      rw [List.getElem?_set_ne hj]
      exact r.fz j e h
  sep := fun j k ds es p hjk h1 h2 h3 => by
    have nj : i ≠ j := fun e => by
      subst e
      have hl : i < ρ.length := by
        have := (List.getElem?_eq_some_iff.mp h1).1
        rwa [List.length_set] at this
      rw [List.getElem?_set_self hl] at h1; cases h1
    have nk : i ≠ k := fun e => by
      subst e
      have hl : i < ρ.length := by
        have := (List.getElem?_eq_some_iff.mp h2).1
        rwa [List.length_set] at this
      rw [List.getElem?_set_self hl] at h2; cases h2
    rw [List.getElem?_set_ne nj] at h1 h3
    rw [List.getElem?_set_ne nk] at h2 ⊢
    exact r.sep j k ds es p hjk h1 h2 h3
  keep := r.keep
  new := r.new
  lst := r.lst
  iol := r.iol
  io0 := r.io0
  ios := fun q hq => by
    have n : i ≠ q.1 := fun e => hi (List.mem_map.mpr ⟨q, hq, e.symm⟩)
    rw [List.getElem?_set_ne n]
    exact r.ios q hq
  ioo := fun q hq => by
    have n : i ≠ q.1 := fun e => hi (List.mem_map.mpr ⟨q, hq, e.symm⟩)
    rw [List.getElem?_set_ne n]
    exact r.ioo q hq
  tab := r.tab
/-- a slot holds the script or a written object -/
theorem RE0.setFz (r : RE0 K T B P H σ ρ) {i : Nat} {v : V} {d : D} (hi : i ∉ B.io.map (·.1)) (t : Fz K H v d) : RE0 K T B P H (σ.set i (some v)) (ρ.set i (.fz d)) := by
  have u := r.setUn (o := some v) hi
  refine ⟨by rw [List.length_set, List.length_set]; exact r.len, fun j e h => ?_, fun j e h => ?_, fun j e h => ?_, fun j k ds es p hjk h1 h2 h3 => ?_, r.keep, r.new, r.lst, r.iol, r.io0, u.ios, fun q hq => ?_, r.tab⟩
  · by_cases hj : i = j
    · subst hj
      have hl : i < ρ.length := by
        have := (List.getElem?_eq_some_iff.mp h).1
        rwa [List.length_set] at this
      rw [List.getElem?_set_self hl] at h
      cases h
    · rw [List.getElem?_set_ne hj] at h
      rw [List.getElem?_set_ne hj]
      exact r.val j e h
  · by_cases hj : i = j
    · subst hj
      have hl : i < ρ.length := by
        have := (List.getElem?_eq_some_iff.mp h).1
        rwa [List.length_set] at this
      rw [List.getElem?_set_self hl] at h
      cases h
    · rw [List.getElem?_set_ne hj] at h
      rw [List.getElem?_set_ne hj]
      exact r.own j e h
  · by_cases hj : i = j
    · subst hj
      have hl : i < ρ.length := by
        have := (List.getElem?_eq_some_iff.mp h).1
        rwa [List.length_set] at this
      rw [List.getElem?_set_self hl] at h
      cases h
      exact ⟨v, List.getElem?_set_self (by rw [r.len]; exact hl), t⟩
    · rw [List.getElem?_set_ne hj] at h
      rw [List.getElem?_set_ne hj]
      exact r.fz j e h
  · have nj : i ≠ j := fun e => by
      subst e
      have hl : i < ρ.length := by
        have := (List.getElem?_eq_some_iff.mp h1).1
        rwa [List.length_set] at this
      rw [List.getElem?_set_self hl] at h1; cases h1
    have nk : i ≠ k := fun e => by
      subst e
      have hl : i < ρ.length := by
        have := (List.getElem?_eq_some_iff.mp h2).1
        rwa [List.length_set] at this
      rw [List.getElem?_set_self hl] at h2; cases h2
    rw [List.getElem?_set_ne nj] at h1 h3
    rw [List.getElem?_set_ne nk] at h2 ⊢
    exact r.sep j k ds es p hjk h1 h2 h3
  · have n : i ≠ q.1 := fun e => hi (List.mem_map.mpr ⟨q, hq, e.symm⟩)
    rw [List.getElem?_set_ne n]
    exact r.ioo q hq
/-- a slot holds a new list -/
theorem RE0.setOwn (r : RE0 K T B P H σ ρ) (s : Sm H H') (tb : Tab T H') {i : Nat} {p : Addr} {vs : List V} {ds : List D} (hi : i ∉ B.io.map (·.1)) (hp : H p = none) (hp' : H' p = some (.lst vs)) (t : TrAll (mask (p :: (B.M ++ P)) H') vs ds) :
    RE0 K T B (p :: P) H' (σ.set i (some (.ref p))) (ρ.set i (.own ds)) := by
  have u := (r.sm s tb).setUn (o := some (.ref p)) hi
  have le : SeqLe (mask (B.M ++ P) H) (mask (B.M ++ p :: P) H') := by
    have key : ∀ a, a ∉ B.M ++ P → H a ≠ none → a ∉ B.M ++ p :: P := fun a h1 h2 z => by
      simp only [List.mem_append, List.mem_cons] at z h1
      rcases z with z | rfl | z
      · exact h1 (.inl z)
      · exact h2 hp
      · exact h1 (.inr z)
    refine ⟨fun a xs e => ?_, fun a xs e => ?_⟩
    · obtain ⟨h1, h2⟩ := mask_some e
      rw [mask_out (key a h1 (by rw [h2]; simp))]
      exact s.lst h2
    · obtain ⟨h1, h2⟩ := mask_some e
      rw [mask_out (key a h1 (by rw [h2]; simp))]
      exact s.tup h2
  have nM : p ∉ B.M := fun z => by
    obtain ⟨o, e, _⟩ := r.lst p (List.mem_append_left _ z)
    rw [hp] at e; cases e
  have old : ∀ (j : Nat) (ds : List D), ρ[j]? = some (.own ds) → σ[j]? ≠ some (some (.ref p)) := fun j ds e z => by
    obtain ⟨q, vs, h1, _, _, h3, _⟩ := r.own j ds e
    rw [z] at h1
    cases h1
    rw [hp] at h3; cases h3
  have here : ∀ {j : Nat} {c : Cell}, i = j → (ρ.set i (.own ds))[j]? = some c → c = .own ds ∧ (σ.set i (some (V.ref p)))[j]? = some (some (.ref p)) := fun {j c} hj h => by
    subst hj
    have hl : i < ρ.length := by
      have := (List.getElem?_eq_some_iff.mp h).1
      rwa [List.length_set] at this
    rw [List.getElem?_set_self hl] at h
    exact ⟨(Option.some.inj h).symm, List.getElem?_set_self (by rw [r.len]; exact hl)⟩
  refine ⟨by rw [List.length_set, List.length_set]; exact r.len, fun j e h => ?_, fun j e h => ?_, fun j e h => ?_, fun j k es fs q hjk h1 h2 h3 => ?_, u.keep, fun q hq => ?_, fun q hq => ?_, u.iol, r.io0, u.ios, fun q hq => ?_, tb⟩
  · by_cases hj : i = j
    · cases (here hj h).1
    · rw [List.getElem?_set_ne hj] at h
      rw [List.getElem?_set_ne hj]
      obtain ⟨v, h1, h2⟩ := r.val j e h
      exact ⟨v, h1, Tr.mono le _ _ h2⟩
  · by_cases hj : i = j
    · obtain ⟨h1, h2⟩ := here hj h
      cases h1
      refine ⟨p, vs, h2, List.mem_cons_self, fun _ => nM, hp', TrAll.mono (mask_anti fun a ha => ?_) _ _ t⟩
      simp only [List.mem_append, List.mem_cons] at ha ⊢
      rcases ha with z | z | z
      · exact .inr (.inl z)
      · exact .inl z
      · exact .inr (.inr z)
    · rw [List.getElem?_set_ne hj] at h
      rw [List.getElem?_set_ne hj]
      obtain ⟨q, ws, h1, h2, h3, h4, h5⟩ := r.own j e h
      exact ⟨q, ws, h1, List.mem_cons_of_mem _ h2, h3, s.lst h4, TrAll.mono le _ _ h5⟩
  · by_cases hj : i = j
    · cases (here hj h).1
    · rw [List.getElem?_set_ne hj] at h
      rw [List.getElem?_set_ne hj]
      obtain ⟨v, h1, h2⟩ := r.fz j e h
      exact ⟨v, h1, h2.sm s⟩
  · by_cases hj : i = j
    · obtain ⟨_, g2⟩ := here hj h1
      have nk : i ≠ k := fun z => hjk (hj.symm.trans z)
      rw [List.getElem?_set_ne nk] at h2 ⊢
      rw [g2] at h3
      cases h3
      exact old k fs h2
    · by_cases hk : i = k
      · obtain ⟨_, g2⟩ := here hk h2
        rw [List.getElem?_set_ne hj] at h1 h3
        rw [g2]
        intro z
        cases z
        exact old j es h1 h3
      · rw [List.getElem?_set_ne hj] at h1 h3
        rw [List.getElem?_set_ne hk] at h2 ⊢
        exact r.sep j k es fs q hjk h1 h2 h3
  · rcases List.mem_cons.mp hq with (rfl | hq)
    · exact .inr (r.fresh0 hp)
    · exact r.new q hq
  · simp only [List.mem_append, List.mem_cons] at hq
    rcases hq with z | rfl | z
    · exact (r.lst.sm s) q (List.mem_append_left _ z)
    · exact ⟨_, hp', .lst⟩
    · exact (r.lst.sm s) q (List.mem_append_right _ z)
  · have n : i ≠ q.1 := fun e => hi (List.mem_map.mpr ⟨q, hq, e.symm⟩)
    rw [List.getElem?_set_ne n]
    exact r.ioo q hq
/-- an owned list is no more changed -/
theorem RE0.share (r : RE0 K T B P H σ ρ) {i : Nat} {ds : List D} {p : Addr} (hi : i ∉ B.io.map (·.1)) (h : ρ[i]? = some (.own ds)) (hp : σ[i]? = some (some (.ref p))) : RE0 K T B (P.filter (· ≠ p)) H σ (ρ.set i (.val (.list ds))) ∧ ∀ a ∈ P, a ≠ p → a ∈ P.filter (· ≠ p) := by
  obtain ⟨p', vs, h1, h2, h3, h4, h5⟩ := r.own i ds h
  rw [hp] at h1
  cases h1
  have h1 := hp
  refine ⟨?_, fun a ha n => List.mem_filter.mpr ⟨ha, by simpa using n⟩⟩
  have hl : i < ρ.length := (List.getElem?_eq_some_iff.mp h).1
  have nM := h3 hi
  have sub : ∀ a ∈ B.M ++ P.filter (· ≠ p), a ∈ B.M ++ P := fun a ha => by
    simp only [List.mem_append, List.mem_filter] at ha ⊢
    rcases ha with z | z
    · exact .inl z
    · exact .inr z.1
  have le : SeqLe (mask (B.M ++ P) H) (mask (B.M ++ P.filter (· ≠ p)) H) := mask_anti sub
  have np : p ∉ B.M ++ P.filter (· ≠ p) := fun z => by
    simp only [List.mem_append, List.mem_filter] at z
    rcases z with z | z
    · exact nM z
    · simpa using z.2
  have here : ∀ {j : Nat} {c : Cell}, i = j → (ρ.set i (.val (.list ds)))[j]? = some c → c = .val (.list ds) := fun {j c} hj e => by
    subst hj
    rw [List.getElem?_set_self hl] at e
    exact (Option.some.inj e).symm
  refine ⟨by rw [List.length_set]; exact r.len, fun j e g => ?_, fun j e g => ?_, fun j e g => ?_, fun j k es fs q hjk g1 g2 g3 => ?_, r.keep, fun q hq => r.new q (List.mem_filter.mp hq).1, fun q hq => r.lst q (sub q hq), r.iol, r.io0, r.ios, fun q hq => ?_, r.tab⟩
  · by_cases hj : i = j
    · have z := here hj g
      cases z
      subst hj
      exact ⟨.ref p, h1, .lst (by rw [mask_out np]; exact h4) (TrAll.mono le _ _ h5)⟩
    · rw [List.getElem?_set_ne hj] at g
      obtain ⟨v, g1, g2⟩ := r.val j e g
      exact ⟨v, g1, Tr.mono le _ _ g2⟩
  · by_cases hj : i = j
    · cases here hj g
    · rw [List.getElem?_set_ne hj] at g
      obtain ⟨q, ws, g1, g2, g3, g4, g5⟩ := r.own j e g
      refine ⟨q, ws, g1, List.mem_filter.mpr ⟨g2, ?_⟩, g3, g4, TrAll.mono le _ _ g5⟩
      have : q ≠ p := fun z => by
        subst z
        exact r.sep i j ds e q hj h g h1 g1
      simpa using this
  · by_cases hj : i = j
    · cases here hj g
    · rw [List.getElem?_set_ne hj] at g
      exact r.fz j e g
  · have nj : i ≠ j := fun e => by cases here e g1
    have nk : i ≠ k := fun e => by cases here e g2
    rw [List.getElem?_set_ne nj] at g1
    rw [List.getElem?_set_ne nk] at g2
    exact r.sep j k es fs q hjk g1 g2 g3
  · have n : i ≠ q.1 := fun e => hi (List.mem_map.mpr ⟨q, hq, e.symm⟩)
    rw [List.getElem?_set_ne n]
    exact r.ioo q hq
end

/-! ### the slots and behind them the attributes of an object -/
def vw (B : Bs) (H : Hp) (σ : St) : St := match B.ob with
  | none => σ
  | some c => match σ[c.k]? with
    | some (some (.ref o)) => (match H o with
      | some (.ins _ _ fs) => σ ++ fs.map fun f => some f.2
      | _ => σ ++ List.replicate c.fs.length none)
    | _ => σ ++ List.replicate c.fs.length none
/-- the object stands as it should: at its slot, or nothing is there yet -/
def ViewOk (B : Bs) (P : List Addr) (H : Hp) (σ : St) : Prop := ∀ c, B.ob = some c → σ.length = c.nl ∧ c.k < c.nl ∧ ((B.oa = none ∧ σ[c.k]? = some none) ∨
  ∃ o dx vs, (∀ a, B.oa = some a → c.k = 0 → o = a) ∧ σ[c.k]? = some (some (.ref o)) ∧ H o = some (.ins c.C dx (c.fs.zip vs)) ∧ vs.length = c.fs.length ∧ (c.wr = true → o ∈ P))
def Bs.ro (B : Bs) (i : Nat) : Prop := i ∈ B.io.map (·.1) ∨ ∃ c, B.ob = some c ∧ (i = c.k ∨ c.nl ≤ i)
def Bs.lc (B : Bs) (i : Nat) : Prop := ∀ c, B.ob = some c → i < c.nl
def Cf.ro (C : Cf) (i : Nat) : Bool := C.ios.contains i || (match C.ob with
  | none => false
  | some c => i == c.k || decide (c.nl ≤ i))
def Cf.lc (C : Cf) (i : Nat) : Bool := match C.ob with
  | none => true
  | some c => decide (i < c.nl)
structure Lk (B : Bs) (C : Cf) : Prop where
  io : B.io.map (·.1) = C.ios
  ob : B.ob = C.ob
theorem Lk.ro {B : Bs} {C : Cf} (l : Lk B C) {i : Nat} (h : C.ro i = false) : ¬ B.ro i := by
  unfold Cf.ro at h
  rw [Bool.or_eq_false_iff] at h
  rintro (z | ⟨c, e, z⟩)
  · rw [l.io] at z
    have h1 := h.1
    rw [List.contains_iff_mem.mpr z] at h1
    cases h1
  · rw [l.ob] at e
    have h2 := h.2
    rw [e] at h2
    dsimp only at h2
    rw [Bool.or_eq_false_iff] at h2
    rcases z with z | z
    · have h3 := h2.1
      rw [z, beq_self_eq_true] at h3
      cases h3
    · exact absurd z (of_decide_eq_false h2.2)
theorem Lk.lc {B : Bs} {C : Cf} (l : Lk B C) {i : Nat} (h : C.lc i = true) : B.lc i := by
  intro c e
  rw [l.ob] at e
  unfold Cf.lc at h
  rw [e] at h
  exact of_decide_eq_true h
theorem Bs.ro_io {B : Bs} {i : Nat} (h : ¬ B.ro i) : i ∉ B.io.map (·.1) := fun z => h (.inl z)
theorem Bs.ro_lc {B : Bs} {i : Nat} (h : ¬ B.ro i) : B.lc i := fun c e => by
  rcases Nat.lt_or_ge i c.nl with z | z
  · exact z
  · exact absurd (.inr ⟨c, e, .inr z⟩) h
theorem zip_snd {α β : Type} : ∀ {xs : List α} {ys : List β}, ys.length = xs.length → (xs.zip ys).map (·.2) = ys
  | [], [], _ => rfl
  | x :: xs, y :: ys, h => by
    have := zip_snd (xs := xs) (ys := ys) (by simpa using h)
    simp [this]
  | [], _ :: _, h => (by simp at h)
  | _ :: _, [], h => (by simp at h)
theorem vw_none {B : Bs} (h : B.ob = none) (H : Hp) (σ : St) : vw B H σ = σ := by
  unfold vw
  rw [h]
/-- the view is the slots and something behind them, which hangs on the object's slot and its attributes alone -/
theorem vw_app {B : Bs} {c : Obc} (h : B.ob = some c) (H : Hp) (σ : St) : ∃ ext, vw B H σ = σ ++ ext ∧ ∀ (σ2 : St) (H2 : Hp), σ2[c.k]? = σ[c.k]? → (∀ o, σ[c.k]? = some (some (.ref o)) → (∀ C dx fs, H o = some (.ins C dx fs) → H2 o = H o) ∧ (∀ C dx fs, H2 o = some (.ins C dx fs) → H2 o = H o)) → vw B H2 σ2 = σ2 ++ ext := by
  have key : ∀ (σ : St) (H : Hp), vw B H σ = match σ[c.k]? with
      | some (some (.ref o)) => (match H o with
        | some (.ins _ _ fs) => σ ++ fs.map fun f => some f.2
        | _ => σ ++ List.replicate c.fs.length none)
      | _ => σ ++ List.replicate c.fs.length none := fun σ H => by
    unfold vw
    rw [h]
  rw [key]
  split
  · rename_i o e
    split
    · rename_i C dx fs e2
      refine ⟨_, rfl, fun σ2 H2 h1 h2 => ?_⟩
      rw [key, h1, e]
      dsimp only
      rw [(h2 o e).1 _ _ _ e2, e2]
    · rename_i hn
      refine ⟨_, rfl, fun σ2 H2 h1 h2 => ?_⟩
      rw [key, h1, e]
      dsimp only
      split
      · rename_i C dx fs e2
        have e3 := (h2 o e).2 _ _ _ e2
        rw [e2] at e3
        exact absurd e3.symm (hn _ _ _)
      · rfl
  · rename_i hn
    refine ⟨_, rfl, fun σ2 H2 h1 h2 => ?_⟩
    rw [key, h1]
    split
    · rename_i o e
      exact absurd e (hn _)
    · rfl
theorem vw_get {B : Bs} {H : Hp} {σ : St} {P : List Addr} {i : Nat} (ok : ViewOk B P H σ) (hl : B.lc i) : (vw B H σ)[i]? = σ[i]? := by
  cases h : B.ob with
  | none => rw [vw_none h]
  | some c =>
    obtain ⟨ext, e, _⟩ := vw_app h H σ
    have := hl c h
    have h2 := (ok c h).1
    rw [e, List.getElem?_append_left (by omega)]
theorem vw_set {B : Bs} {H : Hp} {σ : St} {P : List Addr} {i : Nat} {v : Option V} (ok : ViewOk B P H σ) (hi : ¬ B.ro i) : vw B H (σ.set i v) = (vw B H σ).set i v := by
  cases h : B.ob with
  | none => rw [vw_none h, vw_none h]
  | some c =>
    obtain ⟨ext, e, k⟩ := vw_app h H σ
    have nk : i ≠ c.k := fun z => hi (.inr ⟨c, h, .inl z⟩)
    have hl := Bs.ro_lc hi c h
    have h2 := (ok c h).1
    rw [e, k _ H (List.getElem?_set_ne nk) (fun o _ => ⟨fun _ _ _ _ => rfl, fun _ _ _ _ => rfl⟩), List.set_append_left _ _ (by omega)]
theorem ViewOk.set {B : Bs} {H : Hp} {σ : St} {P : List Addr} {i : Nat} {v : Option V} (ok : ViewOk B P H σ) (hi : ¬ B.ro i) : ViewOk B P H (σ.set i v) := fun c h => by
  have nk : i ≠ c.k := fun z => hi (.inr ⟨c, h, .inl z⟩)
  obtain ⟨h1, h2, h3⟩ := ok c h
  rw [List.length_set, List.getElem?_set_ne nk]
  exact ⟨h1, h2, h3⟩
/-- heaps that tell the same of the instances there -/
def InsEq (H H' : Hp) : Prop := ∀ a C dx fs, H a = some (.ins C dx fs) → H' a = H a
theorem InsEq.sm {H H' : Hp} (s : Sm H H') : InsEq H H' := fun a C dx fs e => (chg_sm s (.inr ⟨_, _, _, rfl⟩) e).trans e.symm
theorem InsEq.upd {H : Hp} {p : Addr} {o : HO} (h : ∀ C dx fs, H p ≠ some (.ins C dx fs)) : InsEq H (upd H p o) := fun a C dx fs e => upd_ne fun z => h _ _ _ (z ▸ e)
theorem vw_eq {B : Bs} {H H' : Hp} {σ : St} {P : List Addr} (ok : ViewOk B P H σ) (s : InsEq H H') : vw B H' σ = vw B H σ := by
  cases h : B.ob with
  | none => rw [vw_none h, vw_none h]
  | some c =>
    obtain ⟨ext, e, k⟩ := vw_app h H σ
    rw [e]
    refine k σ H' rfl fun o eo => ?_
    rcases (ok c h).2.2 with ⟨_, z⟩ | ⟨o', dx, vs, _, z, w, _⟩
    · rw [z] at eo; cases eo
    · rw [z] at eo
      cases eo
      exact ⟨fun _ _ _ _ => s _ _ _ _ w, fun _ _ _ _ => s _ _ _ _ w⟩
theorem ViewOk.eq {B : Bs} {H H' : Hp} {σ : St} {P P' : List Addr} (ok : ViewOk B P H σ) (s : InsEq H H') (hP : ∀ a C dx fs, a ∈ P → H a = some (.ins C dx fs) → a ∈ P') : ViewOk B P' H' σ := fun c h => by
  obtain ⟨h1, h2, h3⟩ := ok c h
  refine ⟨h1, h2, ?_⟩
  rcases h3 with z | ⟨o, dx, vs, z1, z2, z3, z4, z5⟩
  · exact .inl z
  · exact .inr ⟨o, dx, vs, z1, z2, (s _ _ _ _ z3).trans z3, z4, fun w => hP _ _ _ _ (z5 w) z3⟩
structure RE (K : PySem.W.Frag) (T : List Addr) (B : Bs) (P : List Addr) (H : Hp) (σ : St) (ρ : CV) : Prop where
  vok : ViewOk B P H σ
  z : RE0 K T B P H (vw B H σ) ρ
section
variable {K : PySem.W.Frag} {T : List Addr} {B : Bs} {P P' : List Addr} {H H' H1 : Hp} {σ σ' : St} {ρ ρ' : CV}
theorem RE.of0 (h : B.ob = none) (r : RE0 K T B P H σ ρ) : RE K T B P H σ ρ := ⟨fun c e => (by rw [h] at e; cases e), by rw [vw_none h]; exact r⟩
theorem RE.to0 (h : B.ob = none) (r : RE K T B P H σ ρ) : RE0 K T B P H σ ρ := by
  have := r.z
  rwa [vw_none h] at this
theorem RE.lst (r : RE K T B P H σ ρ) : Lsts (B.M ++ P) H := r.z.lst
theorem RE.tab (r : RE K T B P H σ ρ) : Tab T H := r.z.tab
theorem RE.keep (r : RE K T B P H σ ρ) : ∀ (a : Addr) (o : HO), B.H0 a = some o → a ∉ B.ch → H a = some o ∨ ∃ ps ps', o = .tbl ps ∧ H a = some (.tbl ps') := r.z.keep
theorem RE.new (r : RE K T B P H σ ρ) : ∀ p ∈ P, p ∈ B.ch ∨ B.H0 p = none := r.z.new
theorem RE.iol (r : RE K T B P H σ ρ) : Lsts B.ch H := r.z.iol
theorem RE.io0 (r : RE K T B P H σ ρ) : ∀ p ∈ B.ch, B.H0 p ≠ none := r.z.io0
theorem RE.ioo (r : RE K T B P H σ ρ) : ∀ q ∈ B.io, ∃ ds, ρ[q.1]? = some (Cell.own ds) := r.z.ioo
theorem RE.fresh0 (r : RE K T B P H σ ρ) {a : Addr} (h : H a = none) : B.H0 a = none := r.z.fresh0 h
theorem RE.val (r : RE K T B P H σ ρ) {i : Nat} {d : D} (hl : B.lc i) (e : ρ[i]? = some (.val d)) : ∃ v, σ[i]? = some (some v) ∧ Tr (mask (B.M ++ P) H) v d := by
  have := r.z.val i d e
  rwa [vw_get r.vok hl] at this
theorem RE.own (r : RE K T B P H σ ρ) {i : Nat} {ds : List D} (hl : B.lc i) (e : ρ[i]? = some (.own ds)) : ∃ p vs, σ[i]? = some (some (.ref p)) ∧ p ∈ P ∧ (i ∉ B.io.map (·.1) → p ∉ B.M) ∧ H p = some (.lst vs) ∧ TrAll (mask (B.M ++ P) H) vs ds := by
  have := r.z.own i ds e
  rwa [vw_get r.vok hl] at this
theorem RE.fz (r : RE K T B P H σ ρ) {i : Nat} {d : D} (hl : B.lc i) (e : ρ[i]? = some (.fz d)) : ∃ v, σ[i]? = some (some v) ∧ Fz K H v d := by
  have := r.z.fz i d e
  rwa [vw_get r.vok hl] at this
/-- an owned list that is no list of the caller's -/
theorem RE.ownOut (r : RE K T B P H σ ρ) {i : Nat} {ds : List D} (hi : ¬ B.ro i) (e : ρ[i]? = some (.own ds)) : ∃ p vs, σ[i]? = some (some (.ref p)) ∧ p ∈ P ∧ p ∉ B.M ∧ p ∉ B.io.map (·.2) ∧ H p = some (.lst vs) ∧ TrAll (mask (B.M ++ P) H) vs ds := by
  obtain ⟨p, vs, h1, h2, h3, h4, h5⟩ := r.z.own i ds e
  refine ⟨p, vs, by rwa [vw_get r.vok (Bs.ro_lc hi)] at h1, h2, h3 (Bs.ro_io hi), fun z => ?_, h4, h5⟩
  obtain ⟨q, hq, e2⟩ := List.mem_map.mp z
  obtain ⟨fs, e3⟩ := r.z.ioo q hq
  have ne : i ≠ q.1 := fun z => Bs.ro_io hi (List.mem_map.mpr ⟨q, hq, z.symm⟩)
  refine r.z.sep i q.1 ds fs p ne e e3 h1 ?_
  rw [r.z.ios q hq, e2]
theorem RE.sm (r : RE K T B P H σ ρ) (s : Sm H H') (t : Tab T H') : RE K T B P H' σ ρ :=
  ⟨r.vok.eq (.sm s) fun _ _ _ _ h _ => h, by rw [vw_eq r.vok (.sm s)]; exact r.z.sm s t⟩
theorem RE.setVal (r : RE K T B P H σ ρ) {i : Nat} {v : V} {d : D} (hi : ¬ B.ro i) (t : Tr (mask (B.M ++ P) H) v d) : RE K T B P H (σ.set i (some v)) (ρ.set i (.val d)) :=
  ⟨r.vok.set hi, by rw [vw_set r.vok hi]; exact r.z.setVal (Bs.ro_io hi) t⟩
theorem RE.setUn (r : RE K T B P H σ ρ) {i : Nat} {o : Option V} (hi : ¬ B.ro i) : RE K T B P H (σ.set i o) (ρ.set i .un) :=
  ⟨r.vok.set hi, by rw [vw_set r.vok hi]; exact r.z.setUn (Bs.ro_io hi)⟩
theorem RE.setFz (r : RE K T B P H σ ρ) {i : Nat} {v : V} {d : D} (hi : ¬ B.ro i) (t : Fz K H v d) : RE K T B P H (σ.set i (some v)) (ρ.set i (.fz d)) :=
  ⟨r.vok.set hi, by rw [vw_set r.vok hi]; exact r.z.setFz (Bs.ro_io hi) t⟩
theorem RE.setOwn (r : RE K T B P H σ ρ) (s : Sm H H') (tb : Tab T H') {i : Nat} {p : Addr} {vs : List V} {ds : List D} (hi : ¬ B.ro i) (hp : H p = none) (hp' : H' p = some (.lst vs)) (t : TrAll (mask (p :: (B.M ++ P)) H') vs ds) :
    RE K T B (p :: P) H' (σ.set i (some (.ref p))) (ρ.set i (.own ds)) := by
  have ok := r.vok.eq (P' := p :: P) (.sm s) fun _ _ _ _ h _ => List.mem_cons_of_mem _ h
  exact ⟨ok.set hi, by rw [vw_set ok hi, vw_eq r.vok (.sm s)]; exact r.z.setOwn s tb (Bs.ro_io hi) hp hp' t⟩
theorem RE.share (r : RE K T B P H σ ρ) {i : Nat} {ds : List D} (hi : ¬ B.ro i) (h : ρ[i]? = some (.own ds)) : ∃ P', RE K T B P' H σ (ρ.set i (.val (.list ds))) := by
  obtain ⟨p, vs, h1, h2, h3, h4, h5⟩ := r.z.own i ds h
  obtain ⟨r', hP⟩ := r.z.share (Bs.ro_io hi) h h1
  refine ⟨_, r.vok.eq (fun _ _ _ _ _ => rfl) fun a C dx fs ha e => ?_, r'⟩
  refine hP a ha fun z => ?_
  rw [z, h4] at e
  cases e
end
section
variable {K : PySem.W.Frag} {Pm : List Addr} {H H' H1 : Hp} {m : Md} {v : V} {d : D}
theorem VR.sm (s : Sm H H1) (h : VR K Pm H1 H' m v d) : VR K Pm H H' m v d := by
  cases m with
  | fr =>
    obtain ⟨p, vs, ds, e1, e2, h0, h1, t⟩ := h
    exact ⟨p, vs, ds, e1, e2, s.none h0, h1, t⟩
  | cl => exact h
  | ow => exact h
  | vw => exact h
  | fz => exact h
end

/-! ### readings -/
section
variable (C : Cf) (W : WX)
def ER (σ : St) (H : Hp) (Pm : List Addr) (Q : VK) : Rs (D × Md) → Prop
  | .ok (d, m) => ∀ v H', Sm H H' → Tab C.T H' → VR C.K Pm H H' m v d → Q v H'
  | .er c => ∀ A H', C.mg c = some (.ref A) → Sm H H' → Tab C.T H' → W (.ref A) none σ H'
  | .no => False
def tE (f : CV → Rs (D × Md)) : TE := fun σ H Q => ∃ B P ρ, Lk B C ∧ RE C.K C.T B P H σ ρ ∧ ER C W σ H (B.M ++ P) Q (f ρ)
def OVs (K : PySem.W.Frag) (Pm : List Addr) (H : Hp) : List V → List (D × Md) → Prop
  | [], [] => True
  | v :: vs, d :: ds => OV K Pm H d.2 v d.1 ∧ OVs K Pm H vs ds
  | _, _ => False
def AR (σ : St) (H : Hp) (Pm : List Addr) (Q : List V → Hp → Prop) : Rs (List (D × Md)) → Prop
  | .ok ds => ∀ vs H', Sm H H' → Tab C.T H' → OVs C.K Pm H' vs ds → Q vs H'
  | .er c => ∀ A H', C.mg c = some (.ref A) → Sm H H' → Tab C.T H' → W (.ref A) none σ H'
  | .no => False
def tA (f : CV → Rs (List (D × Md))) : TA := fun σ H Q => ∃ B P ρ, Lk B C ∧ RE C.K C.T B P H σ ρ ∧ AR C W σ H (B.M ++ P) Q (f ρ)
def BR (σ : St) (H : Hp) (Q : Bool → Hp → Prop) : Rs Bool → Prop
  | .ok b => ∀ H', Sm H H' → Tab C.T H' → Q b H'
  | .er c => ∀ A H', C.mg c = some (.ref A) → Sm H H' → Tab C.T H' → W (.ref A) none σ H'
  | .no => False
def tT (f : CV → Rs Bool) : TT := fun σ H Q => ∃ B P ρ, Lk B C ∧ RE C.K C.T B P H σ ρ ∧ BR C W σ H Q (f ρ)
end
section
variable {C : Cf} {W : WX} {σ : St} {H H1 H' : Hp} {Pm : List Addr} {Q Q' : VK}
theorem ER.sm {r : Rs (D × Md)} (s : Sm H H1) (h : ER C W σ H Pm Q r) : ER C W σ H1 Pm Q r := by
  cases r with
  | ok a => obtain ⟨d, m⟩ := a; exact fun v H' s' t vr => h v H' (s.trans s') t (vr.sm s)
  | er c => exact fun A H' hm s' t => h A H' hm (s.trans s') t
  | no => exact h
theorem AR.sm {Q : List V → Hp → Prop} {r : Rs (List (D × Md))} (s : Sm H H1) (h : AR C W σ H Pm Q r) : AR C W σ H1 Pm Q r := by
  cases r with
  | ok a => exact fun v H' s' t vr => h v H' (s.trans s') t vr
  | er c => exact fun A H' hm s' t => h A H' hm (s.trans s') t
  | no => exact h
theorem BR.sm {Q : Bool → Hp → Prop} {r : Rs Bool} (s : Sm H H1) (h : BR C W σ H Q r) : BR C W σ H1 Q r := by
  cases r with
  | ok a => exact fun H' s' t => h H' (s.trans s') t
  | er c => exact fun A H' hm s' t => h A H' hm (s.trans s') t
  | no => exact h
theorem OVs.sm {K : PySem.W.Frag} {H H1 : Hp} (s : Sm H H1) : ∀ {vs : List V} {ds : List (D × Md)}, OVs K Pm H vs ds → OVs K Pm H1 vs ds
  | [], [], _ => trivial
  | _ :: _, _ :: _, h => ⟨h.1.sm s, OVs.sm s h.2⟩
  | [], _ :: _, h => h
  | _ :: _, [], h => h
end

/-! ### rules -/
theorem PE.imp {X : Cx} {e : Expr} {t t' : TE} (h : PE X e t) (i : ∀ σ H Q, t' σ H Q → t σ H Q) : PE X e t' := ⟨fun pins s σ H Q I w => h.run pins s σ H Q I (i σ H Q w)⟩
theorem PT.imp {X : Cx} {e : Expr} {t t' : TT} (h : PT X e t) (i : ∀ σ H Q, t' σ H Q → t σ H Q) : PT X e t' := ⟨fun pins s σ H Q I w => h.run pins s σ H Q I (i σ H Q w)⟩
theorem PW.imp {X : Cx} {e : Expr} {t t' : TT} (h : PW X e t) (i : ∀ σ H Q, t' σ H Q → t σ H Q) : PW X e t' := ⟨fun wh pins s σ H Q I w => h.run wh pins s σ H Q I (i σ H Q w)⟩
theorem PA.imp {X : Cx} {e : List Expr} {t t' : TA} (h : PA X e t) (i : ∀ σ H Q, t' σ H Q → t σ H Q) : PA X e t' := ⟨fun pos pins s σ H Q I w => h.run pos pins s σ H Q I (i σ H Q w)⟩
theorem PS.imp {X : Cx} {e : Stmt} {t t' : TS} (h : PS X e t) (i : ∀ D σ H, t' D σ H → t D σ H) : PS X e t' := ⟨fun pins s σ H D I w => h.run pins s σ H D I (i D σ H w)⟩
theorem PSs.imp {X : Cx} {e : List Stmt} {t t' : TS} (h : PSs X e t) (i : ∀ D σ H, t' D σ H → t D σ H) : PSs X e t' := ⟨fun pins s σ H D I w => h.run pins s σ H D I (i D σ H w)⟩

section
variable {X : Cx} {C : Cf} {W : WX} {a b e : Expr} {es : List Expr} {f g : CV → Rs (D × Md)} {pos : Pos}
/-- the general step: an operand, then what follows it -/
theorem tE_then {σ : St} {H : Hp} {B : Bs} {P : List Addr} {ρ : CV} {k : D × Md → Rs (D × Md)} {Q : VK} {Q' : VK} (hio : Lk B C) (re : RE C.K C.T B P H σ ρ) (h : ER C W σ H (B.M ++ P) Q ((f ρ).bind k))
    (hQ : ∀ d m v H1, Sm H H1 → RE C.K C.T B P H1 σ ρ → VR C.K (B.M ++ P) H H1 m v d → ER C W σ H1 (B.M ++ P) Q (k (d, m)) → Q' v H1) : tE C W f σ H Q' := by
  refine ⟨B, P, ρ, hio, re, ?_⟩
  cases e : f ρ with
  | ok a =>
    obtain ⟨d, m⟩ := a
    rw [e] at h
    exact fun v H1 s t vr => hQ d m v H1 s (re.sm s t) vr (h.sm s)
  | er c =>
    rw [e] at h
    exact h
  | no =>
    rw [e] at h
    exact h
def ofO {α : Type} : Option α → Rs α
  | some a => .ok a
  | none => .no
def mVar (i : Nat) : CV → Rs (D × Md) := fun ρ => match ρ[i]? with
  | some (.val d) => .ok (d, .cl)
  | some (.own ds) => .ok (.list ds, .ow)
  | some (.fz d) => .ok (d, .fz)
  | _ => .no
theorem se_var (i : Nat) {x : Str} (hN : X.N[i]? = some x := by rfl) (hlc : C.lc i = true := by rfl) (hv : Vis X.env.scope x := by first | exact Or.inl rfl | exact Or.inr (Or.inl rfl) | exact Or.inr (Or.inr rfl)) (hd : (x == ("__debug__" : Str)) = false := by decide)
    (hcd : (x == ("__classdict__" : Str)) = false := by decide) : PE X (.Name x pos) (tE C W (mVar i)) := by
  refine PE.imp (pe_var (i := i) hN hv hd hcd) fun σ H Q h => ?_
  obtain ⟨B, P, ρ, hb, re, h⟩ := h
  have hl := hb.lc hlc
  unfold mVar at h
  split at h
  · rename_i d e
    obtain ⟨v, e1, t⟩ := re.val hl e
    exact ⟨v, e1, h v H (Sm.refl H) re.tab t⟩
  · rename_i ds e
    obtain ⟨p, vs, e1, hp, _, e2, t⟩ := re.own hl e
    exact ⟨.ref p, e1, h _ H (Sm.refl H) re.tab ⟨p, vs, ds, rfl, rfl, List.mem_append_right _ hp, e2, t⟩⟩
  · rename_i d e
    obtain ⟨v, e1, t⟩ := re.fz hl e
    exact ⟨v, e1, h v H (Sm.refl H) re.tab t⟩
  · exact h.elim
def mK (d : D) : CV → Rs (D × Md) := fun _ => .ok (d, .cl)
theorem se_const {e : Expr} {v : V} {d : D} (h : PE X e (tC v)) (t : ∀ H, Tr H v d) : PE X e (tE C W (mK d)) := by
  refine PE.imp h fun σ H Q h => ?_
  obtain ⟨B, P, ρ, _, re, h⟩ := h
  exact h v H (Sm.refl H) re.tab (t _)
theorem se_int {i : Int} {j : Nat} : PE X (.Constant (.int i) j pos) (tE C W (mK (.int i))) := se_const pe_int fun _ => .int i
theorem se_bool {i : Bool} {j : Nat} : PE X (.Constant (.bool i) j pos) (tE C W (mK (.bool i))) := se_const pe_bl fun _ => .bl i
theorem se_str {i : Str} {j : Nat} : PE X (.Constant (.str i) j pos) (tE C W (mK (.str i))) := se_const pe_str fun _ => .str i
theorem se_none {j : Nat} : PE X (.Constant .none j pos) (tE C W (mK .none)) := se_const pe_non fun _ => .non
/-- a module's constant -/
theorem se_globI {x : Str} {i : Int} (hm : ∃ t, X.mg x = some (.int i t)) (hg : Gl X x := by rfl) (hd : (x == ("__debug__" : Str)) = false := by decide) : PE X (.Name x pos) (tE C W (mK (.int i))) := by
  obtain ⟨t, hm⟩ := hm
  exact se_const (pe_glob hg hm (v := .int i) ⟨t, rfl⟩ hd) fun _ => .int i
theorem se_globS {x : Str} {i : Str} (hm : ∃ t, X.mg x = some (.str i t)) (hg : Gl X x := by rfl) (hd : (x == ("__debug__" : Str)) = false := by decide) : PE X (.Name x pos) (tE C W (mK (.str i))) := by
  obtain ⟨t, hm⟩ := hm
  exact se_const (pe_glob hg hm (v := .str i) ⟨t, rfl⟩ hd) fun _ => .str i
def mFz (d : D) : CV → Rs (D × Md) := fun _ => .ok (d, .fz)
theorem se_globF {x : Str} {A : Addr} {d : D} (hm : X.mg x = some (.ref A)) (hz : ∀ H, Fz C.K H (.ref A) d) (hg : Gl X x := by rfl) (hd : (x == ("__debug__" : Str)) = false := by decide) : PE X (.Name x pos) (tE C W (mFz d)) := by
  refine PE.imp (pe_glob hg hm (v := .ref A) rfl hd) fun σ H Q h => ?_
  obtain ⟨B, P, ρ, _, re, h⟩ := h
  exact h _ H (Sm.refl H) re.tab (hz H)

/-! operators of two operands -/
def mBin (h : D × Md → D × Md → Option (D × Md)) (f g : CV → Rs (D × Md)) : CV → Rs (D × Md) := fun ρ => (f ρ).bind fun x => (g ρ).bind fun y => ofO (h x y)
def OpOk (C : Cf) (r : R2) (h : D × Md → D × Md → Option (D × Md)) : Prop :=
  ∀ (Pm : List Addr) (H : Hp) (x y : V) (dx dy d : D × Md) (Q : VK), Lsts Pm H → Tab C.T H → OV C.K Pm H dx.2 x dx.1 → OV C.K Pm H dy.2 y dy.1 → h dx dy = some d →
    (∀ v H', Sm H H' → Tab C.T H' → VR C.K Pm H H' d.2 v d.1 → Q v H') → r x y H Q
theorem OpOk.or {r r' : R2} {h h' : D × Md → D × Md → Option (D × Md)} (a : OpOk C r h) (b : OpOk C r' h') : OpOk C (fun x y H Q => r x y H Q ∨ r' x y H Q) (fun x y => (h x y).or (h' x y)) := by
  intro Pm H x y dx dy d Q l t ox oy e q
  replace e : (h dx dy).or (h' dx dy) = some d := e
  cases e1 : h dx dy with
  | some z =>
    rw [e1] at e
    exact .inl (a Pm H x y dx dy d Q l t ox oy (by rw [e1]; exact e) q)
  | none =>
    rw [e1] at e
    exact .inr (b Pm H x y dx dy d Q l t ox oy e q)
theorem tBin {r : R2} {h : D × Md → D × Md → Option (D × Md)} (ok : OpOk C r h) {ta tb : TE} (σ : St) (H : Hp) (Q : VK) (w : tE C W (mBin h f g) σ H Q) : tOp r (tE C W f) (tE C W g) σ H Q := by
  obtain ⟨B, P, ρ, hio, re, w⟩ := w
  refine tE_then hio re w fun d m v H1 s re1 vr w1 => ?_
  have o1 := VR.ov re.lst vr
  refine tE_then hio re1 w1 fun d2 m2 v2 H2 s2 re2 vr2 w2 => ?_
  have o2 := VR.ov re1.lst vr2
  cases e : h (d, m) (d2, m2) with
  | none => rw [e] at w2; exact w2.elim
  | some z =>
    rw [e] at w2
    exact ok (B.M ++ P) H2 v v2 (d, m) (d2, m2) z Q re2.lst re2.tab (o1.sm s2) o2 e w2
theorem se_bin {op : Operator} {r : R2} {h : D × Md → D × Md → Option (D × Md)} (ho : OpR X (binaryOp op) r) (ok : OpOk C r h) (ha : PE X a (tE C W f)) (hb : PE X b (tE C W g)) : PE X (.BinOp a op b pos) (tE C W (mBin h f g)) :=
  PE.imp (pe_op ho ha hb) fun σ H Q w => tBin (ta := tE C W f) (tb := tE C W g) ok σ H Q w
theorem se_ix {r : R2} {h : D × Md → D × Md → Option (D × Md)} (ho : IxR X r) (ok : OpOk C r h) (ha : PE X a (tE C W f)) (hb : PE X b (tE C W g)) (hs : PlainIx b) : PE X (.Subscript a b pos) (tE C W (mBin h f g)) :=
  PE.imp (pe_ix ho ha hb hs) fun σ H Q w => tBin (ta := tE C W f) (tb := tE C W g) ok σ H Q w
/-- of one operand -/
def mUn (h : D × Md → Option (D × Md)) (f : CV → Rs (D × Md)) : CV → Rs (D × Md) := fun ρ => (f ρ).bind fun x => ofO (h x)
def UnOk (C : Cf) (r : V → Hp → VK → Prop) (h : D × Md → Option (D × Md)) : Prop :=
  ∀ (Pm : List Addr) (H : Hp) (x : V) (dx d : D × Md) (Q : VK), Lsts Pm H → Tab C.T H → OV C.K Pm H dx.2 x dx.1 → h dx = some d →
    (∀ v H', Sm H H' → Tab C.T H' → VR C.K Pm H H' d.2 v d.1 → Q v H') → r x H Q
theorem tUn1 {r : V → Hp → VK → Prop} {h : D × Md → Option (D × Md)} (ok : UnOk C r h) (σ : St) (H : Hp) (Q : VK) (w : tE C W (mUn h f) σ H Q) : tUn r (tE C W f) σ H Q := by
  obtain ⟨B, P, ρ, hio, re, w⟩ := w
  refine tE_then hio re w fun d m v H1 s re1 vr w1 => ?_
  have o1 := VR.ov re.lst vr
  cases e : h (d, m) with
  | none => rw [e] at w1; exact w1.elim
  | some z =>
    rw [e] at w1
    exact ok (B.M ++ P) H1 v (d, m) z Q re1.lst re1.tab o1 e w1
theorem se_un {op : UnaryOp} {r : V → Hp → VK → Prop} {h : D × Md → Option (D × Md)} (ho : UnR X (unaryOp op) r) (ok : UnOk C r h) (ha : PE X a (tE C W f)) : PE X (.UnaryOp op a pos) (tE C W (mUn h f)) :=
  PE.imp (pe_un ho ha) fun σ H Q w => tUn1 ok σ H Q w

/-! comparisons -/
def mCmp (h : D × Md → D × Md → Option Bool) (f g : CV → Rs (D × Md)) : CV → Rs Bool := fun ρ => (f ρ).bind fun x => (g ρ).bind fun y => ofO (h x y)
def CmpOk (C : Cf) (r : R2) (h : D × Md → D × Md → Option Bool) : Prop :=
  ∀ (Pm : List Addr) (H : Hp) (x y : V) (dx dy : D × Md) (k : Bool) (Q : VK), Lsts Pm H → OV C.K Pm H dx.2 x dx.1 → OV C.K Pm H dy.2 y dy.1 → h dx dy = some k → Q (.bl k) H → r x y H Q
theorem CmpOk.or {r r' : R2} {h h' : D × Md → D × Md → Option Bool} (a : CmpOk C r h) (b : CmpOk C r' h') : CmpOk C (fun x y H Q => r x y H Q ∨ r' x y H Q) (fun x y => (h x y).or (h' x y)) := by
  intro Pm H x y dx dy d Q l ox oy e q
  replace e : (h dx dy).or (h' dx dy) = some d := e
  cases e1 : h dx dy with
  | some z =>
    rw [e1] at e
    exact .inl (a Pm H x y dx dy d Q l ox oy (by rw [e1]; exact e) q)
  | none =>
    rw [e1] at e
    exact .inr (b Pm H x y dx dy d Q l ox oy e q)
theorem tT_then {σ : St} {H : Hp} {B : Bs} {P : List Addr} {ρ : CV} {k : D × Md → Rs Bool} {Q : Bool → Hp → Prop} {Q' : VK} (hio : Lk B C) (re : RE C.K C.T B P H σ ρ) (h : BR C W σ H Q ((f ρ).bind k))
    (hQ : ∀ d m v H1, Sm H H1 → RE C.K C.T B P H1 σ ρ → VR C.K (B.M ++ P) H H1 m v d → BR C W σ H1 Q (k (d, m)) → Q' v H1) : tE C W f σ H Q' := by
  refine ⟨B, P, ρ, hio, re, ?_⟩
  cases e : f ρ with
  | ok a =>
    obtain ⟨d, m⟩ := a
    rw [e] at h
    exact fun v H1 s t vr => hQ d m v H1 s (re.sm s t) vr (h.sm s)
  | er c =>
    rw [e] at h
    exact h
  | no =>
    rw [e] at h
    exact h
theorem tCmp1 {r : R2} {h : D × Md → D × Md → Option Bool} (ok : CmpOk C r h) {σ : St} {H : Hp} {Q : Bool → Hp → Prop} {Q' : VK} {B : Bs} {P : List Addr} {ρ : CV} (hio : Lk B C) (re : RE C.K C.T B P H σ ρ)
    (w : BR C W σ H Q (mCmp h f g ρ)) (hq : ∀ k H1, Q k H1 → Q' (.bl k) H1) : tOp r (tE C W f) (tE C W g) σ H Q' := by
  refine tT_then hio re w fun d m v H1 s re1 vr w1 => ?_
  have o1 := VR.ov re.lst vr
  refine tT_then hio re1 w1 fun d2 m2 v2 H2 s2 re2 vr2 w2 => ?_
  have o2 := VR.ov re1.lst vr2
  cases e : h (d, m) (d2, m2) with
  | none => rw [e] at w2; exact w2.elim
  | some z =>
    rw [e] at w2
    exact ok (B.M ++ P) H2 v v2 (d, m) (d2, m2) z Q' re2.lst (o1.sm s2) o2 e (hq _ _ (w2 H2 (Sm.refl _) re2.tab))
theorem st_cmp {op : CmpOp} {r : R2} {h : D × Md → D × Md → Option Bool} (ho : OpR X (compareOp op) r) (ok : CmpOk C r h) (ha : PE X a (tE C W f)) (hb : PE X b (tE C W g)) (hm : behindInMarks op b = false := by first | exact nomark _ | rfl) : PT X (.Compare a [op] [b] pos) (tT C W (mCmp h f g)) :=
  PT.imp (pt_cmpR ho ha hb hm) fun σ H Q w => by
    obtain ⟨B, P, ρ, hio, re, w⟩ := w
    exact tCmp1 ok hio re w fun k H1 q => ⟨k, rfl, q⟩
def mVal (f : CV → Rs Bool) : CV → Rs (D × Md) := fun ρ => (f ρ).bind fun b => .ok (.bool b, .cl)
theorem ER_val {σ : St} {H : Hp} {Pm : List Addr} {Q : VK} {r : Rs Bool} (h : ER C W σ H Pm Q (r.bind fun b => .ok (.bool b, .cl))) : BR C W σ H (fun b H1 => Q (.bl b) H1) r := by
  cases r with
  | ok b => exact fun H' s t => h _ H' s t (.bl b)
  | er c => exact h
  | no => exact h
theorem se_cmp {op : CmpOp} {r : R2} {h : D × Md → D × Md → Option Bool} (ho : OpR X (compareOp op) r) (ok : CmpOk C r h) (ha : PE X a (tE C W f)) (hb : PE X b (tE C W g)) (hm : behindInMarks op b = false := by first | exact nomark _ | rfl) : PE X (.Compare a [op] [b] pos) (tE C W (mVal (mCmp h f g))) :=
  PE.imp (pe_cmpR ho ha hb hm) fun σ H Q w => by
    obtain ⟨B, P, ρ, hio, re, w⟩ := w
    exact tCmp1 ok hio re (ER_val w) fun k H1 q => q
/-- a < b < c -/
def mChain (h h' : D × Md → D × Md → Option Bool) (f g k : CV → Rs (D × Md)) : CV → Rs Bool := fun ρ => (f ρ).bind fun x => (g ρ).bind fun y => (ofO (h x y)).bind fun b => if b then (k ρ).bind fun z => ofO (h' y z) else .ok false
theorem tChain1 {c : Expr} {k : CV → Rs (D × Md)} {r r' : R2} {h h' : D × Md → D × Md → Option Bool} (ok : CmpOk C r h) (ok' : CmpOk C r' h') {σ : St} {H : Hp} {Q : Bool → Hp → Prop} {Q' : VK} {B : Bs} {P : List Addr} {ρ : CV} (hio : Lk B C) (re : RE C.K C.T B P H σ ρ)
    (w : BR C W σ H Q (mChain h h' f g k ρ)) (hq : ∀ k H1, Q k H1 → Q' (.bl k) H1) : tChain r r' (tE C W f) (tE C W g) (tE C W k) σ H Q' := by
  refine tT_then hio re w fun d m v H1 s re1 vr w1 => ?_
  have o1 := VR.ov re.lst vr
  refine tT_then hio re1 w1 fun d2 m2 v2 H2 s2 re2 vr2 w2 => ?_
  have o2 := VR.ov re1.lst vr2
  cases e : h (d, m) (d2, m2) with
  | none => rw [e] at w2; exact w2.elim
  | some z =>
    rw [e] at w2
    refine ok (B.M ++ P) H2 v v2 (d, m) (d2, m2) z _ re2.lst (o1.sm s2) o2 e ⟨z, rfl, ?_⟩
    cases z with
    | false => exact hq _ _ (w2 H2 (Sm.refl _) re2.tab)
    | true =>
      simp only [if_true]
      refine tT_then hio re2 w2 fun d3 m3 v3 H3 s3 re3 vr3 w3 => ?_
      have o3 := VR.ov re2.lst vr3
      cases e' : h' (d2, m2) (d3, m3) with
      | none => rw [e'] at w3; exact w3.elim
      | some z =>
        rw [e'] at w3
        exact ok' (B.M ++ P) H3 v2 v3 (d2, m2) (d3, m3) z Q' re3.lst (o2.sm s3) o3 e' (hq _ _ (w3 H3 (Sm.refl _) re3.tab))
theorem se_chain {c : Expr} {k : CV → Rs (D × Md)} {op op' : CmpOp} {r r' : R2} {h h' : D × Md → D × Md → Option Bool} (ho : OpR X (compareOp op) r) (ho' : OpR X (compareOp op') r') (ok : CmpOk C r h) (ok' : CmpOk C r' h') (ha : PE X a (tE C W f)) (hb : PE X b (tE C W g)) (hc : PE X c (tE C W k))
    (hm : lastMarks [op, op'] [b, c] = false := by rfl) : PE X (.Compare a [op, op'] [b, c] pos) (tE C W (mVal (mChain h h' f g k))) :=
  PE.imp (pe_chain ho ho' ha hb hc hm) fun σ H Q w => by
    obtain ⟨B, P, ρ, hio, re, w⟩ := w
    exact tChain1 (c := c) ok ok' hio re (ER_val w) fun k H1 q => q
theorem st_chain {c : Expr} {k : CV → Rs (D × Md)} {op op' : CmpOp} {r r' : R2} {h h' : D × Md → D × Md → Option Bool} (ho : OpR X (compareOp op) r) (ho' : OpR X (compareOp op') r') (ok : CmpOk C r h) (ok' : CmpOk C r' h') (ha : PE X a (tE C W f)) (hb : PE X b (tE C W g)) (hc : PE X c (tE C W k))
    (hm : lastMarks [op, op'] [b, c] = false := by rfl) : PT X (.Compare a [op, op'] [b, c] pos) (tT C W (mChain h h' f g k)) :=
  PT.imp (pt_chain ho ho' ha hb hc hm) fun σ H Q w => by
    obtain ⟨B, P, ρ, hio, re, w⟩ := w
    exact tChain1 (c := c) ok ok' hio re w fun k H1 q => ⟨k, rfl, q⟩
/-- a value that is a truth, as a test -/
def mBool (f : CV → Rs (D × Md)) : CV → Rs Bool := fun ρ => (f ρ).bind fun x => match x.1 with
  | .bool b => .ok b
  | _ => .no
theorem st_val (ha : PE X e (tE C W f)) (he : ∀ whole, isTrue e X.env whole = (do let v ← whole; standAt e.pos; holding [v] (truthy v)) := by intro _; rfl) : PT X e (tT C W (mBool f)) :=
  PT.imp (pt_val ha he) fun σ H Q w => by
    obtain ⟨B, P, ρ, hio, re, w⟩ := w
    refine tT_then hio re w fun d m v H1 s re1 vr w1 => ?_
    have o1 := VR.ov re.lst vr
    cases d <;> try exact w1.elim
    rename_i k
    by_cases n : m = .fz
    · subst n
      cases o1
    · have t := o1.tr n
      cases t
      exact ⟨k, rfl, w1 H1 (Sm.refl _) re1.tab⟩

/-! and, or, not -/
variable {rest : List Expr} {u t : CV → Rs Bool}
theorem BR_then {σ : St} {H : Hp} {B : Bs} {P : List Addr} {ρ : CV} {k : Bool → Rs Bool} {Q Q' : Bool → Hp → Prop} (hio : Lk B C) (re : RE C.K C.T B P H σ ρ) (h : BR C W σ H Q ((t ρ).bind k))
    (hQ : ∀ d H1, Sm H H1 → RE C.K C.T B P H1 σ ρ → BR C W σ H1 Q (k d) → Q' d H1) : tT C W t σ H Q' := by
  refine ⟨B, P, ρ, hio, re, ?_⟩
  cases e : t ρ with
  | ok a =>
    rw [e] at h
    exact fun H1 s tb => hQ a H1 s (re.sm s tb) (h.sm s)
  | er c => rw [e] at h; exact h
  | no => rw [e] at h; exact h
def mAnd (t u : CV → Rs Bool) : CV → Rs Bool := fun ρ => (t ρ).bind fun b => if b then u ρ else .ok false
def mOr (t u : CV → Rs Bool) : CV → Rs Bool := fun ρ => (t ρ).bind fun b => if b then .ok true else u ρ
def mNot (t : CV → Rs Bool) : CV → Rs Bool := fun ρ => (t ρ).bind fun b => .ok (!b)
theorem sw_and1 (ha : PT X a (tT C W t)) : PW X (.BoolOp .And [a] pos) (tT C W t) := pw_and1 ha
theorem sw_or1 (ha : PT X a (tT C W t)) : PW X (.BoolOp .Or [a] pos) (tT C W t) := pw_or1 ha
theorem sw_and (ha : PT X a (tT C W t)) (hb : PW X (.BoolOp .And (b :: rest) pos) (tT C W u)) : PW X (.BoolOp .And (a :: b :: rest) pos) (tT C W (mAnd t u)) :=
  PW.imp (pw_and ha hb) fun σ H Q w => by
    obtain ⟨B, P, ρ, hio, re, w⟩ := w
    refine BR_then hio re w fun c H1 s re1 w1 => ?_
    cases c with
    | true => exact iteT ⟨B, P, ρ, hio, re1, w1⟩
    | false => exact iteF (w1 H1 (Sm.refl _) re1.tab)
theorem sw_or (ha : PT X a (tT C W t)) (hb : PW X (.BoolOp .Or (b :: rest) pos) (tT C W u)) : PW X (.BoolOp .Or (a :: b :: rest) pos) (tT C W (mOr t u)) :=
  PW.imp (pw_or ha hb) fun σ H Q w => by
    obtain ⟨B, P, ρ, hio, re, w⟩ := w
    refine BR_then hio re w fun c H1 s re1 w1 => ?_
    cases c with
    | true => exact iteT (w1 H1 (Sm.refl _) re1.tab)
    | false => exact iteF ⟨B, P, ρ, hio, re1, w1⟩
theorem st_not (ha : PT X a (tT C W t)) : PT X (.UnaryOp .Not a pos) (tT C W (mNot t)) :=
  PT.imp (pt_not ha) fun σ H Q w => by
    obtain ⟨B, P, ρ, hio, re, w⟩ := w
    exact BR_then hio re w fun c H1 s re1 w1 => w1 H1 (Sm.refl _) re1.tab
/-- as values: both sides truths -/
def mAndV (f g : CV → Rs (D × Md)) : CV → Rs (D × Md) := fun ρ => (mBool f ρ).bind fun b => if b then g ρ else .ok (.bool false, .cl)
def mOrV (f g : CV → Rs (D × Md)) : CV → Rs (D × Md) := fun ρ => (mBool f ρ).bind fun b => if b then .ok (.bool true, .cl) else g ρ
theorem tE_bool {σ : St} {H : Hp} {B : Bs} {P : List Addr} {ρ : CV} {k : Bool → Rs (D × Md)} {Q Q' : VK} (hio : Lk B C) (re : RE C.K C.T B P H σ ρ) (h : ER C W σ H (B.M ++ P) Q ((mBool f ρ).bind k))
    (hQ : ∀ b H1, Sm H H1 → RE C.K C.T B P H1 σ ρ → ER C W σ H1 (B.M ++ P) Q (k b) → Q' (.bl b) H1) : tE C W f σ H Q' := by
  have h' : ER C W σ H (B.M ++ P) Q ((f ρ).bind fun x => match x.1 with | .bool b => k b | _ => .no) := by
    unfold mBool at h
    cases e : f ρ with
    | ok x =>
      obtain ⟨d, m⟩ := x
      rw [e] at h
      cases d <;> exact h
    | er c => rw [e] at h; exact h
    | no => rw [e] at h; exact h
  refine tE_then hio re h' fun d m v H1 s re1 vr w1 => ?_
  have o1 := VR.ov re.lst vr
  cases d <;> try exact w1.elim
  rename_i b
  by_cases n : m = .fz
  · subst n; cases o1
  · have t := o1.tr n
    cases t
    exact hQ b H1 s re1 w1
theorem se_one {op : BoolOp} (h : PE X a (tE C W f)) : PE X (.BoolOp op [a] pos) (tE C W f) := pe_one h
theorem se_and (ha : PE X a (tE C W f)) (hb : PE X (.BoolOp .And (b :: rest) pos) (tE C W g)) : PE X (.BoolOp .And (a :: b :: rest) pos) (tE C W (mAndV f g)) :=
  PE.imp (pe_and ha hb) fun σ H Q w => by
    obtain ⟨B, P, ρ, hio, re, w⟩ := w
    refine tE_bool hio re w fun c H1 s re1 w1 => ⟨c, rfl, ?_⟩
    cases c with
    | true => exact iteT ⟨B, P, ρ, hio, re1, w1⟩
    | false => exact iteF (w1 _ H1 (Sm.refl _) re1.tab (.bl false))
theorem se_or (ha : PE X a (tE C W f)) (hb : PE X (.BoolOp .Or (b :: rest) pos) (tE C W g)) : PE X (.BoolOp .Or (a :: b :: rest) pos) (tE C W (mOrV f g)) :=
  PE.imp (pe_or ha hb) fun σ H Q w => by
    obtain ⟨B, P, ρ, hio, re, w⟩ := w
    refine tE_bool hio re w fun c H1 s re1 w1 => ⟨c, rfl, ?_⟩
    cases c with
    | true => exact iteT (w1 _ H1 (Sm.refl _) re1.tab (.bl true))
    | false => exact iteF ⟨B, P, ρ, hio, re1, w1⟩
theorem se_not (ha : PE X a (tE C W f)) : PE X (.UnaryOp .Not a pos) (tE C W (mVal (mNot (mBool f)))) :=
  PE.imp (pe_not ha) fun σ H Q w => by
    obtain ⟨B, P, ρ, hio, re, w⟩ := w
    have w' : ER C W σ H (B.M ++ P) Q ((mBool f ρ).bind fun b => .ok (.bool (!b), .cl)) := by
      unfold mVal mNot at w
      cases e : mBool f ρ <;> (rw [e] at w; exact w)
    exact tE_bool hio re w' fun c H1 s re1 w1 => ⟨c, rfl, w1 _ H1 (Sm.refl _) re1.tab (.bl _)⟩
/-- a if t else b -/
def mIf (t : CV → Rs Bool) (f g : CV → Rs (D × Md)) : CV → Rs (D × Md) := fun ρ => (t ρ).bind fun b => if b then f ρ else g ρ
theorem tT_thenE {σ : St} {H : Hp} {B : Bs} {P : List Addr} {ρ : CV} {Pm : List Addr} {k : Bool → Rs (D × Md)} {Q : VK} {Q' : Bool → Hp → Prop} (hio : Lk B C) (re : RE C.K C.T B P H σ ρ) (h : ER C W σ H Pm Q ((t ρ).bind k))
    (hQ : ∀ d H1, Sm H H1 → RE C.K C.T B P H1 σ ρ → ER C W σ H1 Pm Q (k d) → Q' d H1) : tT C W t σ H Q' := by
  refine ⟨B, P, ρ, hio, re, ?_⟩
  cases e : t ρ with
  | ok a =>
    rw [e] at h
    exact fun H1 s tb => hQ a H1 s (re.sm s tb) (h.sm s)
  | er c => rw [e] at h; exact h
  | no => rw [e] at h; exact h
theorem se_if {c : Expr} (hc : PT X c (tT C W t)) (ha : PE X a (tE C W f)) (hb : PE X b (tE C W g)) : PE X (.IfExp c a b pos) (tE C W (mIf t f g)) :=
  PE.imp (pe_ifExp hc ha hb) fun σ H Q w => by
    obtain ⟨B, P, ρ, hio, re, w⟩ := w
    refine tT_thenE hio re w fun d H1 s re1 w1 => ?_
    cases d with
    | true => exact iteT ⟨B, P, ρ, hio, re1, w1⟩
    | false => exact iteF ⟨B, P, ρ, hio, re1, w1⟩

/-! arguments -/
def mNil : CV → Rs (List (D × Md)) := fun _ => .ok []
def mCons (f : CV → Rs (D × Md)) (g : CV → Rs (List (D × Md))) : CV → Rs (List (D × Md)) := fun ρ => (f ρ).bind fun x => (g ρ).bind fun xs => .ok (x :: xs)
variable {fa : CV → Rs (List (D × Md))}
theorem tA_thenE {σ : St} {H : Hp} {B : Bs} {P : List Addr} {ρ : CV} {k : D × Md → Rs (List (D × Md))} {Q : List V → Hp → Prop} {Q' : VK} (hio : Lk B C) (re : RE C.K C.T B P H σ ρ) (h : AR C W σ H (B.M ++ P) Q ((f ρ).bind k))
    (hQ : ∀ d m v H1, Sm H H1 → RE C.K C.T B P H1 σ ρ → VR C.K (B.M ++ P) H H1 m v d → AR C W σ H1 (B.M ++ P) Q (k (d, m)) → Q' v H1) : tE C W f σ H Q' := by
  refine ⟨B, P, ρ, hio, re, ?_⟩
  cases e : f ρ with
  | ok a =>
    obtain ⟨d, m⟩ := a
    rw [e] at h
    exact fun v H1 s t vr => hQ d m v H1 s (re.sm s t) vr (h.sm s)
  | er c => rw [e] at h; exact h
  | no => rw [e] at h; exact h
theorem sa_nil : PA X [] (tA C W mNil) := PA.imp pa_nil fun σ H Q w => by
  obtain ⟨B, P, ρ, hio, re, w⟩ := w
  exact w [] H (Sm.refl _) re.tab trivial
theorem sa_cons (ha : PE X e (tE C W f)) (hr : PA X es (tA C W fa)) (hs : starEach (e :: es) X.env = (false, eval e X.env) :: starEach es X.env := by rfl) : PA X (e :: es) (tA C W (mCons f fa)) := PA.imp (pa_cons ha hr hs) fun σ H Q w => by
  obtain ⟨B, P, ρ, hio, re, w⟩ := w
  refine tA_thenE hio re w fun d m v H1 s re1 vr w1 => ?_
  have o1 := VR.ov re.lst vr
  refine ⟨B, P, ρ, hio, re1, ?_⟩
  cases e : fa ρ with
  | ok xs =>
    rw [e] at w1
    exact fun vs H2 s2 t2 ovs => w1 (v :: vs) H2 s2 t2 ⟨o1.sm s2, ovs⟩
  | er c => rw [e] at w1; exact w1
  | no => rw [e] at w1; exact w1
end
end Eng

set_option Elab.async false
set_option linter.all false
set_option maxRecDepth 100000
set_option maxHeartbeats 1234567
namespace Eng
open PySem PySem.Spec
open PyProof.Rows L2

/-! ### what an operand of a known form is -/
section
variable {K : PySem.W.Frag} {Pm : List Addr} {H : Hp} {m : Md} {x : V}
theorem OV.int {i : Int} (h : OV K Pm H m x (.int i)) : x = .int i := by
  by_cases n : m = .fz
  · subst n; cases h
  · have t := h.tr n; cases t; rfl
theorem OV.str {i : Str} (h : OV K Pm H m x (.str i)) : x = .str i := by
  by_cases n : m = .fz
  · subst n; cases h
  · have t := h.tr n; cases t; rfl
theorem OV.bool {i : Bool} (h : OV K Pm H m x (.bool i)) : x = .bl i := by
  by_cases n : m = .fz
  · subst n; cases h
  · have t := h.tr n; cases t; rfl
theorem OV.none (h : OV K Pm H m x .none) : x = .non := by
  by_cases n : m = .fz
  · subst n; cases h
  · have t := h.tr n; cases t; rfl
theorem OV.list {ds : List D} (h : OV K Pm H m x (.list ds)) (n : m ≠ .fz) : ∃ p vs, x = .ref p ∧ H p = some (.lst vs) ∧ TrAll H vs ds ∧ (itCl m = true → TrAll (mask Pm H) vs ds) := by
  cases m with
  | fr =>
    cases h with
    | lst e t => exact ⟨_, _, rfl, (mask_some e).2, TrAll.mono mask_le _ _ t, fun _ => t⟩
  | cl =>
    cases h with
    | lst e t => exact ⟨_, _, rfl, (mask_some e).2, TrAll.mono mask_le _ _ t, fun _ => t⟩
  | ow =>
    obtain ⟨p, vs, ds', rfl, e, _, h1, t⟩ := h
    cases e
    exact ⟨_, _, rfl, h1, TrAll.mono mask_le _ _ t, fun _ => t⟩
  | vw =>
    cases h with
    | lst e t => exact ⟨_, _, rfl, e, t, fun z => by cases z⟩
  | fz => exact absurd rfl n
theorem OV.seqL {ds : List D} (h : OV K Pm H m x (.list ds)) : ∃ p vs, x = .ref p ∧ SqL K H p vs ∧ TrAll H vs ds ∧ (itCl m = true → TrAll (mask Pm H) vs ds) := by
  by_cases n : m = .fz
  · subst n
    cases h with
    | lst e f =>
      refine ⟨_, _, rfl, ?_, f.tr, fun _ => f.tr⟩
      rcases e with ⟨o, e⟩ | e
      · exact .inl (.inr ⟨o, e⟩)
      · exact .inr e
  · obtain ⟨p, vs, e, h1, t, c⟩ := h.list n
    exact ⟨p, vs, e, SqL.of h1, t, c⟩
theorem OV.seqT {ds : List D} (h : OV K Pm H m x (.tuple ds)) : ∃ p vs, x = .ref p ∧ SqT K H p vs ∧ TrAll H vs ds ∧ (itCl m = true → TrAll (mask Pm H) vs ds) := by
  cases m with
  | fr =>
    cases h with
    | tup e t => exact ⟨_, _, rfl, SqT.of (mask_some e).2, TrAll.mono mask_le _ _ t, fun _ => t⟩
  | cl =>
    cases h with
    | tup e t => exact ⟨_, _, rfl, SqT.of (mask_some e).2, TrAll.mono mask_le _ _ t, fun _ => t⟩
  | ow => obtain ⟨p, vs, ds', rfl, e, _⟩ := h; cases e
  | vw =>
    cases h with
    | tup e t => exact ⟨_, _, rfl, SqT.of e, t, fun z => by cases z⟩
  | fz =>
    cases h with
    | tup e f => exact ⟨_, _, rfl, .inr e, f.tr, fun _ => f.tr⟩
end
theorem mask_newL {Pm : List Addr} {H : Hp} {p : Addr} {o : HO} (h : H p = none) : SeqLe (mask Pm H) (mask (p :: Pm) (upd H p o)) := by
  have key : ∀ a u, mask Pm H a = some u → mask (p :: Pm) (upd H p o) a = some u := fun a u e => by
    obtain ⟨h1, h2⟩ := mask_some e
    have ne : a ≠ p := fun z => by rw [z, h] at h2; cases h2
    rw [mask_out (by simp only [List.mem_cons, not_or]; exact ⟨ne, h1⟩), upd_ne ne]
    exact h2
  exact ⟨fun a xs e => key a _ e, fun a xs e => key a _ e⟩
theorem mask_new {Pm : List Addr} {H : Hp} {p : Addr} {o : HO} (h : H p = none) : SeqLe (mask Pm H) (mask Pm (upd H p o)) := (Sm.upd h).mask Pm
theorem lst_ne {Pm : List Addr} {H : Hp} (l : Lsts Pm H) {p : Addr} (h : H p = none) : p ∉ Pm := fun z => by
  obtain ⟨o, e, _⟩ := l p z
  rw [h] at e; cases e
/-- a new list -/
theorem new_fr {C : Cf} {Pm : List Addr} {H : Hp} {vs : List V} {ds : List D} {Q : VK} {p : Addr} (tb : Tab C.T H) (hp : H p = none) (t : TrAll (mask Pm H) vs ds)
    (q : ∀ v H', Sm H H' → Tab C.T H' → VR C.K Pm H H' .fr v (.list ds) → Q v H') : Q (.ref p) (upd H p (.lst vs)) :=
  q _ _ (Sm.upd hp) (tb.new hp) ⟨p, vs, ds, rfl, rfl, hp, upd_same, TrAll.mono (mask_newL hp) _ _ t⟩
theorem new_tup {C : Cf} {Pm : List Addr} {H : Hp} {vs : List V} {ds : List D} {Q : VK} {p : Addr} (l : Lsts Pm H) (tb : Tab C.T H) (hp : H p = none) (t : TrAll (mask Pm H) vs ds)
    (q : ∀ v H', Sm H H' → Tab C.T H' → VR C.K Pm H H' .cl v (.tuple ds) → Q v H') : Q (.ref p) (upd H p (.tup vs)) :=
  q _ _ (Sm.upd hp) (tb.new hp) (.tup (by rw [mask_out (lst_ne l hp), upd_same]) (TrAll.mono (mask_new hp) _ _ t))

/-! ### + - * // % -/
def hAdd (x y : D × Md) : Option (D × Md) := match x.1, y.1 with
  | .int i, .int j => some (.int (i + j), .cl)
  | .str a, .str b => if a.length + b.length ≤ sizeLine then some (.str (a ++ b), .cl) else none
  | .list a, .list b => if x.2 ≠ .fz ∧ y.2 ≠ .fz ∧ a.length + b.length ≤ sizeLine ∧ ((itCl x.2 = true ∧ itCl y.2 = true) ∨ (lfs a = true ∧ lfs b = true)) then some (.list (a ++ b), .fr) else none
  | _, _ => none
def rAdd3 : R2 := fun x y H Q => ((∃ i j, x = .int i ∧ y = .int j ∧ Q (.int (i + j)) H) ∨ (∃ i j, x = .str i ∧ y = .str j ∧ i.length + j.length ≤ sizeLine ∧ Q (.str (i ++ j)) H)) ∨ rCat x y H Q
theorem op_add3 {X : Cx} : OpR X (binaryOp .Add) rAdd3 := (op_add.or op_add_str).or op_cat
theorem ok_add {C : Cf} : OpOk C rAdd3 hAdd := by
  rintro Pm H x y ⟨dx, mx⟩ ⟨dy, my⟩ d Q l tb ox oy e q
  unfold hAdd at e
  dsimp only at e ox oy
  split at e
  · cases e
    exact .inl (.inl ⟨_, _, ox.int, oy.int, q _ H (Sm.refl _) tb (.int _)⟩)
  · split at e
    · rename_i hz
      cases e
      exact .inl (.inr ⟨_, _, ox.str, oy.str, hz, q _ H (Sm.refl _) tb (.str _)⟩)
    · cases e
  · split at e
    · rename_i hz
      cases e
      obtain ⟨n1, n2, hz, hc⟩ := hz
      obtain ⟨p, vs, rfl, h1, t1, c1⟩ := ox.list n1
      obtain ⟨p2, vs2, rfl, h2, t2, c2⟩ := oy.list n2
      refine .inr ⟨p, p2, vs, vs2, rfl, rfl, h1, h2, by rw [t1.length, t2.length]; exact hz, fun r hr => ?_⟩
      refine new_fr tb hr (TrAll.append ?_ ?_) q
      · rcases hc with ⟨z, _⟩ | ⟨z, _⟩
        · exact c1 z
        · exact TrAll.lfMask l t1 z
      · rcases hc with ⟨_, z⟩ | ⟨_, z⟩
        · exact c2 z
        · exact TrAll.lfMask l t2 z
    · cases e
  · cases e
def hSub (x y : D × Md) : Option (D × Md) := match x.1, y.1 with
  | .int i, .int j => some (.int (i - j), .cl)
  | _, _ => none
theorem ok_sub {C : Cf} : OpOk C (rI0 fun i j => .int (i - j)) hSub := by
  rintro Pm H x y ⟨dx, mx⟩ ⟨dy, my⟩ d Q l tb ox oy e q
  unfold hSub at e
  dsimp only at e ox oy
  split at e
  · cases e
    exact ⟨_, _, ox.int, oy.int, q _ H (Sm.refl _) tb (.int _)⟩
  · cases e
def mulOk (i j : Int) : Bool := (decide (-(2 ^ 64) < i) && decide (i < 2 ^ 64)) || (decide (-(2 ^ 64) < j) && decide (j < 2 ^ 64))
def hMul (x y : D × Md) : Option (D × Md) := match x.1, y.1 with
  | .int i, .int j => if mulOk i j = true then some (.int (i * j), .cl) else none
  | .list a, .int k => if x.2 ≠ .fz ∧ 0 ≤ k ∧ k < 1000 ∧ a.length * k.toNat ≤ sizeLine ∧ (itCl x.2 = true ∨ lfs a = true) then some (.list (List.replicate k.toNat a).flatten, .fr) else none
  | _, _ => none
def rMul2 : R2 := fun x y H Q => rI CMul (fun i j => .int (i * j)) x y H Q ∨ rRep x y H Q
theorem op_mul2 {X : Cx} : OpR X (binaryOp .Mult) rMul2 := op_mul.or op_rep
theorem TrAll.rep {H : Hp} {vs : List V} {ds : List D} (h : TrAll H vs ds) : ∀ k : Nat, TrAll H (List.replicate k vs).flatten (List.replicate k ds).flatten
  | 0 => .nil
  | k + 1 => by
    rw [List.replicate_succ (n := _), List.replicate_succ, List.flatten_cons, List.flatten_cons]
    exact h.append (TrAll.rep h k)
theorem ok_mul {C : Cf} : OpOk C rMul2 hMul := by
  rintro Pm H x y ⟨dx, mx⟩ ⟨dy, my⟩ d Q l tb ox oy e q
  unfold hMul at e
  dsimp only at e ox oy
  split at e
  · split at e
    · rename_i hz
      cases e
      refine .inl ⟨_, _, ox.int, oy.int, ?_, q _ H (Sm.refl _) tb (.int _)⟩
      simp only [mulOk, Bool.or_eq_true, Bool.and_eq_true, decide_eq_true_eq] at hz
      exact hz
    · cases e
  · split at e
    · rename_i hz
      cases e
      obtain ⟨n1, k0, k1, hz, hc⟩ := hz
      obtain ⟨p, vs, rfl, h1, t1, c1⟩ := ox.list n1
      refine .inr ⟨p, _, vs, rfl, oy.int, h1, by omega, by omega, by rw [t1.length]; exact hz, fun r hr => ?_⟩
      refine new_fr tb hr (TrAll.rep ?_ _) q
      rcases hc with z | z
      · exact c1 z
      · exact TrAll.lfMask l t1 z
    · cases e
  · cases e
def hDiv (x y : D × Md) : Option (D × Md) := match x.1, y.1 with
  | .int i, .int j => if 0 < j ∧ j < 1073741824 then some (.int (i / j), .cl) else none
  | _, _ => none
theorem ok_div {C : Cf} : OpOk C (rI CDiv fun i j => .int (i / j)) hDiv := by
  rintro Pm H x y ⟨dx, mx⟩ ⟨dy, my⟩ d Q l tb ox oy e q
  unfold hDiv at e
  dsimp only at e ox oy
  split at e
  · split at e
    · rename_i hz
      cases e
      exact ⟨_, _, ox.int, oy.int, hz, q _ H (Sm.refl _) tb (.int _)⟩
    · cases e
  · cases e
def hMod (x y : D × Md) : Option (D × Md) := match x.1, y.1 with
  | .int i, .int j => if 0 < j then some (.int (i % j), .cl) else none
  | _, _ => none
theorem ok_mod {C : Cf} : OpOk C (rI (fun _ j => 0 < j) fun i j => .int (i % j)) hMod := by
  rintro Pm H x y ⟨dx, mx⟩ ⟨dy, my⟩ d Q l tb ox oy e q
  unfold hMod at e
  dsimp only at e ox oy
  split at e
  · split at e
    · rename_i hz
      cases e
      exact ⟨_, _, ox.int, oy.int, hz, q _ H (Sm.refl _) tb (.int _)⟩
    · cases e
  · cases e
def hNeg (x : D × Md) : Option (D × Md) := match x.1 with
  | .int i => some (.int (-i), .cl)
  | _ => none
theorem ok_neg {C : Cf} : UnOk C (rU fun i => .int (-i)) hNeg := by
  rintro Pm H x ⟨dx, mx⟩ d Q l tb ox e q
  unfold hNeg at e
  dsimp only at e ox
  split at e
  · cases e
    exact ⟨_, ox.int, q _ H (Sm.refl _) tb (.int _)⟩
  · cases e

/-! ### subscripts -/
theorem atI_tr {H : Hp} {vs : List V} {ds : List D} {i : Int} {d : D} (t : TrAll H vs ds) (e : atI ds i = some d) : ∃ v, atI vs i = some v ∧ Tr H v d := by
  unfold atI at e ⊢
  rw [t.length]
  cases h : ixN ds.length i with
  | none => rw [h] at e; cases e
  | some j => rw [h] at e; exact t.get e
theorem atI_both {H H2 : Hp} {vs : List V} {ds : List D} {i : Int} {v : V} {d : D} (t : TrAll H vs ds) (e : atI vs i = some v) (e2 : atI ds i = some d) : Tr H v d := by
  obtain ⟨w, h1, h2⟩ := atI_tr t e2
  rw [e] at h1; cases h1
  exact h2
def itMode (m : Md) (d : D) : Md := if itCl m then .cl else if lf d then .cl else .vw
def hIx (x y : D × Md) : Option (D × Md) := match x.1, y.1 with
  | .list ds, .int i => (atI ds i).map fun d => (d, itMode x.2 d)
  | .tuple ds, .int i => (atI ds i).map fun d => (d, itMode x.2 d)
  | .str s, .int i => if s.length ≤ sizeLine then (atI s.cps.toList i).map fun c => (.str ⟨#[c]⟩, .cl) else none
  | _, _ => none
def rIx3 (K : PySem.W.Frag) : R2 := fun x y H Q => (rIxL K x y H Q ∨ rIxT K x y H Q) ∨ rIxS x y H Q
theorem ix_3 {X : Cx} : IxR X (rIx3 X.K) := (ix_list.or ix_tup).or ix_str
theorem item_vr {C : Cf} {Pm : List Addr} {H : Hp} {m : Md} {vs : List V} {ds : List D} {i : Int} {v : V} {d : D} (l : Lsts Pm H) (t : TrAll H vs ds) (c : itCl m = true → TrAll (mask Pm H) vs ds) (e : atI vs i = some v) (e2 : atI ds i = some d) :
    VR C.K Pm H H (itMode m d) v d := by
  have td := atI_both (H2 := H) t e e2
  unfold itMode
  split
  · rename_i hc
    exact atI_both (H2 := H) (c hc) e e2
  · split
    · rename_i hl
      exact td.lfMask l hl
    · exact td
theorem ok_ix {C : Cf} : OpOk C (rIx3 C.K) hIx := by
  rintro Pm H x y ⟨dx, mx⟩ ⟨dy, my⟩ d Q l tb ox oy e q
  unfold hIx at e
  dsimp only at e ox oy
  split at e
  · obtain ⟨d', e1, rfl⟩ := Option.map_eq_some_iff.mp e
    obtain ⟨p, vs, rfl, hs, t, c⟩ := ox.seqL
    obtain ⟨v, e2, _⟩ := atI_tr t e1
    exact .inl (.inl ⟨p, vs, _, v, rfl, oy.int, hs, e2, q v H (Sm.refl _) tb (item_vr l t c e2 e1)⟩)
  · obtain ⟨d', e1, rfl⟩ := Option.map_eq_some_iff.mp e
    obtain ⟨p, vs, rfl, hs, t, c⟩ := ox.seqT
    obtain ⟨v, e2, _⟩ := atI_tr t e1
    exact .inl (.inr ⟨p, vs, _, v, rfl, oy.int, hs, e2, q v H (Sm.refl _) tb (item_vr l t c e2 e1)⟩)
  · split at e
    · rename_i hz
      obtain ⟨c, e1, rfl⟩ := Option.map_eq_some_iff.mp e
      exact .inr ⟨_, _, c, ox.str, oy.int, hz, e1, q _ H (Sm.refl _) tb (.str _)⟩
    · cases e
  · cases e

/-! ### slices -/
def cut {α : Type} (xs : List α) (lo hi : Option Int) : List α := (xs.drop (HT.sIx xs.length 0 lo)).take (HT.sIx xs.length xs.length hi - HT.sIx xs.length 0 lo)
section
variable (C : Cf) (W : WX)
def PR (σ : St) (H : Hp) (Q : Option Int → Hp → Prop) : Rs (Option Int) → Prop
  | .ok b => ∀ H', Sm H H' → Tab C.T H' → Q b H'
  | .er c => ∀ A H', C.mg c = some (.ref A) → Sm H H' → Tab C.T H' → W (.ref A) none σ H'
  | .no => False
def tO (f : CV → Rs (Option Int)) : TO := fun σ H Q => ∃ B P ρ, Lk B C ∧ RE C.K C.T B P H σ ρ ∧ PR C W σ H Q (f ρ)
end
section
variable {X : Cx} {C : Cf} {W : WX} {a e : Expr} {f : CV → Rs (D × Md)} {lo hi : CV → Rs (Option Int)} {le he : Option Expr} {pos p2 : Pos}
theorem PR.sm {σ : St} {H H1 : Hp} {Q : Option Int → Hp → Prop} {r : Rs (Option Int)} (s : Sm H H1) (h : PR C W σ H Q r) : PR C W σ H1 Q r := by
  cases r with
  | ok a => exact fun H' s' t => h H' (s.trans s') t
  | er c => exact fun A H' hm s' t => h A H' hm (s.trans s') t
  | no => exact h
def mNoP : CV → Rs (Option Int) := fun _ => .ok none
def mPart (f : CV → Rs (D × Md)) : CV → Rs (Option Int) := fun ρ => (f ρ).bind fun x => match x.1 with
  | .int i => .ok (some i)
  | _ => .no
theorem PO.imp {e : Option Expr} {t t' : TO} (h : PO X e t) (i : ∀ σ H Q, t' σ H Q → t σ H Q) : PO X e t' := ⟨fun pins s σ H Q I w => h.run pins s σ H Q I (i σ H Q w)⟩
theorem so_none : PO X none (tO C W mNoP) := PO.imp po_none fun σ H Q w => by
  obtain ⟨B, P, ρ, hio, re, w⟩ := w
  exact w H (Sm.refl _) re.tab
theorem so_some (ha : PE X e (tE C W f)) : PO X (some e) (tO C W (mPart f)) := PO.imp (po_some ha) fun σ H Q w => by
  obtain ⟨B, P, ρ, hio, re, w⟩ := w
  unfold mPart at w
  refine ⟨B, P, ρ, hio, re, ?_⟩
  cases ef : f ρ with
  | ok a =>
    obtain ⟨d, m⟩ := a
    rw [ef] at w
    intro v H1 s t vr
    have o := VR.ov re.lst vr
    cases d <;> try exact w.elim
    exact ⟨_, o.int, w H1 s t⟩
  | er c => rw [ef] at w; exact w
  | no => rw [ef] at w; exact w
def hSl (x : D × Md) (l h : Option Int) : Option (D × Md) := match x.1 with
  | .str s => if s.length ≤ sizeLine then some (.str (cutS s l h), .cl) else none
  | .list ds => if itCl x.2 = true ∨ lfs ds = true then some (.list (cut ds l h), .fr) else none
  | _ => none
def mSl (f : CV → Rs (D × Md)) (lo hi : CV → Rs (Option Int)) : CV → Rs (D × Md) := fun ρ => (f ρ).bind fun x => (lo ρ).bind fun l => (hi ρ).bind fun h => ofO (hSl x l h)
theorem TrAll.cut {H : Hp} {vs : List V} {ds : List D} (t : TrAll H vs ds) (l h : Option Int) : TrAll H (cutV vs l h) (Eng.cut ds l h) := by
  have e : cutV vs l h = Eng.cut vs l h := rfl
  rw [e]
  unfold Eng.cut
  rw [t.length]
  exact (t.drop _).take _
theorem tO_then {σ : St} {H : Hp} {B : Bs} {P : List Addr} {ρ : CV} {Pm : List Addr} {k : Option Int → Rs (D × Md)} {Q : VK} {Q' : Option Int → Hp → Prop} (hio : Lk B C) (re : RE C.K C.T B P H σ ρ) (h : ER C W σ H Pm Q ((lo ρ).bind k))
    (hQ : ∀ d H1, Sm H H1 → RE C.K C.T B P H1 σ ρ → ER C W σ H1 Pm Q (k d) → Q' d H1) : tO C W lo σ H Q' := by
  refine ⟨B, P, ρ, hio, re, ?_⟩
  cases e : lo ρ with
  | ok a =>
    rw [e] at h
    exact fun H1 s tb => hQ a H1 s (re.sm s tb) (h.sm s)
  | er c => rw [e] at h; exact h
  | no => rw [e] at h; exact h
theorem se_sl (ha : PE X a (tE C W f)) (hl : PO X le (tO C W lo)) (hh : PO X he (tO C W hi)) (hK : X.K = C.K) : PE X (.Subscript a (.Slice le he none p2) pos) (tE C W (mSl f lo hi)) :=
  PE.imp (pe_slice (sl_list.or sl_str) ha hl hh) fun σ H Q w => by
    obtain ⟨B, P, ρ, hio, re, w⟩ := w
    refine tE_then hio re w fun d m v H1 s re1 vr w1 => ?_
    have o1 := VR.ov re.lst vr
    refine tO_then hio re1 w1 fun l H2 s2 re2 w2 => ?_
    refine tO_then hio re2 w2 fun h H3 s3 re3 w3 => ?_
    have o3 := (o1.sm s2).sm s3
    cases ez : hSl (d, m) l h with
    | none => rw [ez] at w3; exact w3.elim
    | some z =>
      rw [ez] at w3
      unfold hSl at ez
      dsimp only at ez o3
      split at ez
      · split at ez
        · rename_i hz
          cases ez
          exact .inr ⟨_, o3.str, hz, w3 _ H3 (Sm.refl _) re3.tab (.str _)⟩
        · cases ez
      · split at ez
        · rename_i hc
          cases ez
          obtain ⟨p, vs, rfl, hs, t, c⟩ := o3.seqL
          refine .inl ⟨p, vs, rfl, by rw [hK]; exact hs, fun r hr => ?_⟩
          refine new_fr (C := C) (Pm := B.M ++ P) re3.tab hr (TrAll.cut ?_ l h) w3
          rcases hc with z | z
          · exact c z
          · exact TrAll.lfMask re3.lst t z
        · cases ez
      · cases ez
end

/-! ### comparisons -/
def hLt (x y : D × Md) : Option Bool := match x.1, y.1 with | .int i, .int j => some (decide (i < j)) | _, _ => none
def hLe (x y : D × Md) : Option Bool := match x.1, y.1 with | .int i, .int j => some (decide (i ≤ j)) | .str a, .str b => some (!decide (b.cps.toList < a.cps.toList)) | _, _ => none
def hGt (x y : D × Md) : Option Bool := match x.1, y.1 with | .int i, .int j => some (decide (j < i)) | _, _ => none
def hGe (x y : D × Md) : Option Bool := match x.1, y.1 with | .int i, .int j => some (decide (j ≤ i)) | _, _ => none
theorem ok_lt {C : Cf} : CmpOk C (rI0 fun i j => .bl (decide (i < j))) hLt := by
  rintro Pm H x y ⟨dx, mx⟩ ⟨dy, my⟩ k Q l ox oy e q
  unfold hLt at e; dsimp only at e ox oy
  split at e <;> cases e
  exact ⟨_, _, ox.int, oy.int, q⟩
theorem ok_gt {C : Cf} : CmpOk C (rI0 fun i j => .bl (decide (j < i))) hGt := by
  rintro Pm H x y ⟨dx, mx⟩ ⟨dy, my⟩ k Q l ox oy e q
  unfold hGt at e; dsimp only at e ox oy
  split at e <;> cases e
  exact ⟨_, _, ox.int, oy.int, q⟩
theorem ok_ge {C : Cf} : CmpOk C (rI0 fun i j => .bl (decide (j ≤ i))) hGe := by
  rintro Pm H x y ⟨dx, mx⟩ ⟨dy, my⟩ k Q l ox oy e q
  unfold hGe at e; dsimp only at e ox oy
  split at e <;> cases e
  exact ⟨_, _, ox.int, oy.int, q⟩
def rLe2 : R2 := fun x y H Q => rI0 (fun i j => .bl (decide (i ≤ j))) x y H Q ∨ ∃ i j, x = .str i ∧ y = .str j ∧ Q (.bl (!decide (j.cps.toList < i.cps.toList))) H
theorem op_le2 {X : Cx} : OpR X (compareOp .LtE) rLe2 := op_le.or op_le_str
theorem ok_le {C : Cf} : CmpOk C rLe2 hLe := by
  rintro Pm H x y ⟨dx, mx⟩ ⟨dy, my⟩ k Q l ox oy e q
  unfold hLe at e; dsimp only at e ox oy
  split at e <;> cases e
  · exact .inl ⟨_, _, ox.int, oy.int, q⟩
  · exact .inr ⟨_, _, ox.str, oy.str, q⟩
def scD : D → D → Bool
  | .none, .none => true | .none, .int _ => true | .int _, .none => true | .none, .bool _ => true | .bool _, .none => true | .none, .str _ => true | .str _, .none => true
  | .int _, .int _ => true | .bool _, .bool _ => true | .str _, .str _ => true
  | .int _, .str _ => true | .str _, .int _ => true | .bool _, .str _ => true | .str _, .bool _ => true
  | _, _ => false
def eqS : D → D → Bool
  | .none, .none => true
  | .int a, .int b => decide (a = b)
  | .bool a, .bool b => decide (a = b)
  | .str a, .str b => decide (a = b)
  | _, _ => false
def hEq (x y : D × Md) : Option Bool := if scD x.1 y.1 = true then some (eqS x.1 y.1) else if SeqAt.shaped x.1 = true ∧ SeqAt.shaped y.1 = true then some (PyData.eqv x.1 y.1) else none
def hNe (x y : D × Md) : Option Bool := (hEq x y).map (!·)
theorem sc_v {K : PySem.W.Frag} {Pm : List Addr} {H : Hp} {x y : V} {dx dy : D} {mx my : Md} (ox : OV K Pm H mx x dx) (oy : OV K Pm H my y dy) (h : scD dx dy = true) : scal x y = true ∧ decide (x = y) = eqS dx dy := by
  cases dx <;> cases dy <;> first
    | (cases h; done)
    | (rw [ox.int, oy.int]; exact ⟨rfl, by simp [eqS]⟩)
    | (rw [ox.str, oy.str]; exact ⟨rfl, by simp [eqS]⟩)
    | (rw [ox.bool, oy.bool]; exact ⟨rfl, by simp [eqS]⟩)
    | (rw [ox.none, oy.none]; exact ⟨rfl, by simp [eqS]⟩)
    | (rw [ox.none, oy.int]; exact ⟨rfl, by simp [eqS]⟩)
    | (rw [ox.none, oy.str]; exact ⟨rfl, by simp [eqS]⟩)
    | (rw [ox.none, oy.bool]; exact ⟨rfl, by simp [eqS]⟩)
    | (rw [ox.int, oy.none]; exact ⟨rfl, by simp [eqS]⟩)
    | (rw [ox.str, oy.none]; exact ⟨rfl, by simp [eqS]⟩)
    | (rw [ox.bool, oy.none]; exact ⟨rfl, by simp [eqS]⟩)
    | (rw [ox.int, oy.str]; exact ⟨rfl, by simp [eqS]⟩)
    | (rw [ox.str, oy.int]; exact ⟨rfl, by simp [eqS]⟩)
    | (rw [ox.bool, oy.str]; exact ⟨rfl, by simp [eqS]⟩)
    | (rw [ox.str, oy.bool]; exact ⟨rfl, by simp [eqS]⟩)
def rEq2 (K : PySem.W.Frag) : R2 := fun x y H Q => rEq x y H Q ∨ rEqD K x y H Q
def rNe2 (K : PySem.W.Frag) : R2 := fun x y H Q => rNe x y H Q ∨ rNeD K x y H Q
theorem op_eq2 {X : Cx} (hu : X.A.units + 64 < cLine) : OpR X (compareOp .Eq) (rEq2 X.K) := op_eq.or (op_eqD hu)
theorem op_ne2 {X : Cx} (hu : X.A.units + 64 < cLine) : OpR X (compareOp .NotEq) (rNe2 X.K) := op_ne.or (op_neD hu)
theorem ok_eq {C : Cf} : CmpOk C (rEq2 C.K) hEq := by
  rintro Pm H x y ⟨dx, mx⟩ ⟨dy, my⟩ k Q l ox oy e q
  unfold hEq at e; dsimp only at e ox oy
  split at e
  · rename_i h
    cases e
    obtain ⟨h1, h2⟩ := sc_v ox oy h
    exact .inl ⟨h1, by rw [h2]; exact q⟩
  · split at e
    · rename_i h
      cases e
      exact .inr ⟨dx, dy, ox.dp, oy.dp, h.1, h.2, q⟩
    · cases e
theorem ok_ne {C : Cf} : CmpOk C (rNe2 C.K) hNe := by
  rintro Pm H x y ⟨dx, mx⟩ ⟨dy, my⟩ k Q l ox oy e q
  unfold hNe at e
  obtain ⟨b, e0, hb⟩ := Option.map_eq_some_iff.mp e
  subst hb
  clear e
  have e := e0
  unfold hEq at e; dsimp only at e ox oy
  split at e
  · rename_i h
    have e' := Option.some.inj e
    subst e'
    obtain ⟨h1, h2⟩ := sc_v ox oy h
    exact .inl ⟨h1, by rw [h2]; exact q⟩
  · split at e
    · rename_i h
      have e' := Option.some.inj e
      subst e'
      exact .inr ⟨dx, dy, ox.dp, oy.dp, h.1, h.2, q⟩
    · cases e
/-- is None, is not None (the right one is written None) -/
def isNoneD : D → Bool
  | .none => true
  | _ => false
def hIsN (x y : D × Md) : Option Bool := match y.1 with | .none => some (isNoneD x.1) | _ => none
def hNotN (x y : D × Md) : Option Bool := (hIsN x y).map (!·)
theorem non_v {K : PySem.W.Frag} {Pm : List Addr} {H : Hp} {x : V} {dx : D} {mx : Md} (ox : OV K Pm H mx x dx) : decide (x = .non) = isNoneD dx := by
  cases dx with
  | none => rw [ox.none]; rfl
  | bool b => rw [ox.bool]; rfl
  | int b => rw [ox.int]; rfl
  | str b => rw [ox.str]; rfl
  | list b => obtain ⟨p, vs, rfl, _⟩ := ox.seqL; rfl
  | tuple b => obtain ⟨p, vs, rfl, _⟩ := ox.seqT; rfl
  | dict b =>
    have h := ox.dp
    cases h
theorem ok_isN {C : Cf} : CmpOk C (fun x y H Q => y = .non ∧ Q (.bl (decide (x = .non))) H) hIsN := by
  rintro Pm H x y ⟨dx, mx⟩ ⟨dy, my⟩ k Q l ox oy e q
  unfold hIsN at e; dsimp only at e ox oy
  split at e
  · refine ⟨oy.none, ?_⟩
    rw [non_v ox]
    have e' := Option.some.inj e
    rw [e']
    exact q
  · cases e
theorem ok_notN {C : Cf} : CmpOk C (fun x y H Q => y = .non ∧ Q (.bl (!decide (x = .non))) H) hNotN := by
  rintro Pm H x y ⟨dx, mx⟩ ⟨dy, my⟩ k Q l ox oy e q
  unfold hNotN at e
  obtain ⟨b, e0, hb⟩ := Option.map_eq_some_iff.mp e
  subst hb
  clear e
  have e := e0
  unfold hIsN at e; dsimp only at e ox oy
  split at e
  · refine ⟨oy.none, ?_⟩
    rw [non_v ox]
    have e' := Option.some.inj e
    rw [e']
    exact q
  · cases e
/-- in: a sign in a text; a flat thing in a list or tuple of flat things -/
def flD : D → Bool
  | .none => true
  | .bool _ => true
  | .int _ => true
  | .str _ => true
  | _ => false
def eqF : D → D → Bool
  | .none, .none => true
  | .bool a, .bool b => a == b
  | .bool a, .int b => (if a then 1 else 0) == b
  | .int a, .bool b => a == (if b then 1 else 0)
  | .int a, .int b => a == b
  | .str a, .str b => a == b
  | _, _ => false
def inF (x : D) (ds : List D) : Bool := ds.any fun y => eqF y x
def hIn (x y : D × Md) : Option Bool := match x.1, y.1 with
  | .str a, .str b => if a.cps.size = 1 then some (decide (a.cps.toList.headD 0 ∈ b.cps.toList)) else none
  | d, .list ds => if flD d = true ∧ ds.all flD = true then some (inF d ds) else none
  | d, .tuple ds => if flD d = true ∧ ds.all flD = true then some (inF d ds) else none
  | _, _ => none
def hNotIn (x y : D × Md) : Option Bool := (hIn x y).map (!·)
theorem flat_v {K : PySem.W.Frag} {Pm : List Addr} {H : Hp} {x : V} {dx : D} {mx : Md} (ox : OV K Pm H mx x dx) (h : flD dx = true) : flatV x = true := by
  cases dx <;> first
    | (cases h; done)
    | (rw [ox.none]; rfl)
    | (rw [ox.bool]; rfl)
    | (rw [ox.int]; rfl)
    | (rw [ox.str]; rfl)
theorem Tr.flat {H : Hp} {x y : V} {dx dy : D} (t : Tr H x dx) (u : Tr H y dy) (h : flD dx = true) (h2 : flD dy = true) : flatV x = true ∧ eqV x y = eqF dx dy := by
  cases dx <;> cases dy <;> first
    | (cases h; done)
    | (cases h2; done)
    | (cases t; cases u; exact ⟨rfl, rfl⟩)
theorem TrAll.flat {H : Hp} {y : V} {dy : D} (u : Tr H y dy) (h2 : flD dy = true) : ∀ {vs : List V} {ds : List D}, TrAll H vs ds → ds.all flD = true → vs.all flatV = true ∧ inV y vs = inF dy ds
  | _, [], h, _ => by cases h; exact ⟨rfl, rfl⟩
  | _, d :: ds, h, f => by
    cases h with
    | cons a t =>
      (rw [List.all_cons, Bool.and_eq_true] at f)
      obtain ⟨i1, i2⟩ := TrAll.flat u h2 t f.2
      obtain ⟨j1, j2⟩ := a.flat u f.1 h2
      refine ⟨by rw [List.all_cons, j1, i1]; rfl, ?_⟩
      unfold inV inF at i2 ⊢
      rw [List.any_cons, List.any_cons, j2, i2]
def rIn3 (K : PySem.W.Frag) (neg : Bool) : R2 := fun x y H Q => (∃ (c : Nat) (z : Str), x = .str ⟨#[c]⟩ ∧ y = .str z ∧ Q (.bl (if neg then !decide (c ∈ z.cps.toList) else decide (c ∈ z.cps.toList))) H) ∨ rIn K neg x y H Q
theorem op_in3 {X : Cx} : OpR X (compareOp .In) (rIn3 X.K false) := op_in_sign.or op_in_seq
theorem op_notIn3 {X : Cx} : OpR X (compareOp .NotIn) (rIn3 X.K true) := op_notIn_sign.or op_notIn_seq
theorem one_sign {a : Str} (h : a.cps.size = 1) : a = ⟨#[a.cps.toList.headD 0]⟩ := by
  obtain ⟨⟨l⟩⟩ := a
  match l, h with
  | [c], _ => rfl
theorem in_core {C : Cf} (neg : Bool) : ∀ (Pm : List Addr) (H : Hp) (x y : V) (dx dy : D × Md) (k : Bool) (Q : VK), Lsts Pm H → OV C.K Pm H dx.2 x dx.1 → OV C.K Pm H dy.2 y dy.1 → hIn dx dy = some k → Q (.bl (if neg then !k else k)) H → rIn3 C.K neg x y H Q := by
  rintro Pm H x y ⟨dx, mx⟩ ⟨dy, my⟩ k Q l ox oy e q
  unfold hIn at e; dsimp only at e ox oy
  split at e
  · split at e
    · rename_i a b h
      cases e
      have h1 := ox.str
      rw [one_sign h] at h1
      exact .inl ⟨_, _, h1, oy.str, q⟩
    · cases e
  · split at e
    · rename_i h
      cases e
      obtain ⟨p, vs, rfl, hs, t, _⟩ := oy.seqL
      have hx : ∃ w, Tr H w dx ∧ w = x := by
        by_cases n : mx = .fz
        · subst n; cases ox <;> cases h.1
        · exact ⟨x, ox.tr n, rfl⟩
      obtain ⟨w, tw, rfl⟩ := hx
      obtain ⟨f1, f2⟩ := TrAll.flat tw h.1 t h.2
      exact .inr ⟨p, vs, rfl, .inl hs, flat_v ox h.1, f1, by rw [f2]; exact q⟩
    · cases e
  · split at e
    · rename_i h
      cases e
      obtain ⟨p, vs, rfl, hs, t, _⟩ := oy.seqT
      have hx : ∃ w, Tr H w dx ∧ w = x := by
        by_cases n : mx = .fz
        · subst n; cases ox <;> cases h.1
        · exact ⟨x, ox.tr n, rfl⟩
      obtain ⟨w, tw, rfl⟩ := hx
      obtain ⟨f1, f2⟩ := TrAll.flat tw h.1 t h.2
      exact .inr ⟨p, vs, rfl, .inr hs, flat_v ox h.1, f1, by rw [f2]; exact q⟩
    · cases e
  · cases e
theorem ok_in {C : Cf} : CmpOk C (rIn3 C.K false) hIn := fun Pm H x y dx dy k Q l ox oy e q => in_core false Pm H x y dx dy k Q l ox oy e (by simpa using q)
theorem ok_notIn {C : Cf} : CmpOk C (rIn3 C.K true) hNotIn := fun Pm H x y dx dy k Q l ox oy e q => by
  unfold hNotIn at e
  obtain ⟨b, e0, hb⟩ := Option.map_eq_some_iff.mp e
  subst hb
  exact in_core true Pm H x y dx dy b Q l ox oy e0 (by simpa using q)
end Eng

set_option Elab.async false
set_option linter.all false
set_option maxRecDepth 100000
set_option maxHeartbeats 1234567
namespace Eng
open PySem PySem.Spec
open PyProof.Rows L2

section
variable {K : PySem.W.Frag} {T : List Addr} {B : Bs} {P P' : List Addr} {H H' H1 : Hp} {σ σ' : St} {ρ ρ' : CV}
theorem mask_upd {Pm : List Addr} {p : Addr} {o : HO} (h : p ∈ Pm) : mask Pm (upd H p o) = mask Pm H := by
  funext a
  by_cases ha : a ∈ Pm
  · rw [mask_in ha, mask_in ha]
  · have ne : a ≠ p := fun z => ha (by rw [z]; exact h)
    rw [mask_out ha, mask_out ha, upd_ne ne]
theorem Fz.upd {v : V} {d : D} {p : Addr} {vs : List V} {o : HO} (h : Fz K H v d) (hp : H p = some (.lst vs)) : Fz K (L2.upd H p o) v d := by
  cases h with
  | lst e f =>
    rcases e with ⟨ob, e⟩ | e
    · refine .lst (.inl ⟨ob, ?_⟩) f
      rw [upd_ne fun z => by rw [z, hp] at e; cases e]
      exact e
    · exact .lst (.inr e) f
  | tup e f => exact .tup e f
/-- an owned list is changed -/
theorem RE0.mutOwn (r : RE0 K T B P H σ ρ) {i : Nat} {ds ds' : List D} {p : Addr} {vs vs' : List V} (h : ρ[i]? = some (.own ds)) (hs : σ[i]? = some (some (.ref p))) (hp : H p = some (.lst vs)) (t : TrAll (mask (B.M ++ P) H) vs' ds') :
    RE0 K T B P (upd H p (.lst vs')) σ (ρ.set i (.own ds')) := by
  obtain ⟨p0, vs0, h1, h2, h3, h4, h5⟩ := r.own i ds h
  rw [hs] at h1
  cases h1
  have hl : i < ρ.length := (List.getElem?_eq_some_iff.mp h).1
  have pm : p ∈ B.M ++ P := List.mem_append_right _ h2
  have me : mask (B.M ++ P) (upd H p (.lst vs')) = mask (B.M ++ P) H := mask_upd pm
  have here : ∀ {j : Nat} {c : Cell}, i = j → (ρ.set i (.own ds'))[j]? = some c → c = .own ds' := fun {j c} hj e => by
    subst hj
    rw [List.getElem?_set_self hl] at e
    exact (Option.some.inj e).symm
  have back : ∀ {j : Nat} {fs : List D}, (ρ.set i (.own ds'))[j]? = some (.own fs) → ∃ gs, ρ[j]? = some (.own gs) := fun {j fs} e => by
    by_cases hj : i = j
    · subst hj; exact ⟨ds, h⟩
    · rw [List.getElem?_set_ne hj] at e; exact ⟨fs, e⟩
  have lst : ∀ (S : List Addr), Lsts S H → Lsts S (upd H p (.lst vs')) := fun S l q hq => by
    by_cases e : q = p
    · exact ⟨_, by rw [e, upd_same], .lst⟩
    · obtain ⟨ws, g, c⟩ := l q hq
      exact ⟨ws, by rw [upd_ne e]; exact g, c⟩
  refine ⟨by rw [List.length_set]; exact r.len, fun j e g => ?_, fun j e g => ?_, fun j e g => ?_, fun j k es fs q hjk g1 g2 g3 => ?_, fun a o e hn => ?_, r.new, lst _ r.lst, lst _ r.iol, r.io0, r.ios, fun q hq => ?_, r.tab.upd fun ps e => by rw [hp] at e; cases e⟩
  · by_cases hj : i = j
    · cases here hj g
    · rw [List.getElem?_set_ne hj] at g
      rw [me]
      exact r.val j e g
  · by_cases hj : i = j
    · have z := here hj g
      cases z
      subst hj
      exact ⟨p, vs', hs, h2, h3, upd_same, by rw [me]; exact t⟩
    · rw [List.getElem?_set_ne hj] at g
      obtain ⟨q, ws, g1, g2, g3, g4, g5⟩ := r.own j e g
      have ne : q ≠ p := fun z => by
        subst z
        exact r.sep i j ds e q hj h g hs g1
      exact ⟨q, ws, g1, g2, g3, by rw [upd_ne ne]; exact g4, by rw [me]; exact g5⟩
  · by_cases hj : i = j
    · cases here hj g
    · rw [List.getElem?_set_ne hj] at g
      obtain ⟨v, g1, g2⟩ := r.fz j e g
      exact ⟨v, g1, g2.upd hp⟩
  · obtain ⟨es', g1'⟩ := back g1
    obtain ⟨fs', g2'⟩ := back g2
    exact r.sep j k es' fs' q hjk g1' g2' g3
  · have ne : a ≠ p := fun z => by
      subst z
      rcases r.new _ h2 with w | w
      · exact hn w
      · rw [e] at w; cases w
    rw [upd_ne ne]
    exact r.keep a o e hn
  · by_cases hj : i = q.1
    · exact ⟨ds', by rw [← hj]; exact List.getElem?_set_self hl⟩
    · rw [List.getElem?_set_ne hj]
      exact r.ioo q hq
/-- the state here as a base -/
def Bs.here (B : Bs) (P : List Addr) (H : Hp) : Bs := { H0 := H, M := B.M, io := B.io, ch := P, ob := B.ob, oa := B.oa }
theorem RE0.here (r : RE0 K T B P H σ ρ) : RE0 K T (B.here P H) P H σ ρ where
  len := r.len
  val := r.val
  own := r.own
  fz := r.fz
  sep := r.sep
  keep := fun a o e _ => .inl e
  new := fun p hp => .inl hp
  lst := r.lst
  iol := fun p hp => r.lst p (List.mem_append_right _ hp)
  io0 := fun p hp e => by
    obtain ⟨o, z, _⟩ := r.lst p (List.mem_append_right _ hp)
    have e' : H p = none := e
    rw [z] at e'; cases e'
  ios := r.ios
  ioo := r.ioo
  tab := r.tab
theorem RE0.back (r : RE0 K T B P H σ ρ) (r' : RE0 K T (B.here P H) P' H' σ' ρ') : RE0 K T B P' H' σ' ρ' where
  len := r'.len
  val := r'.val
  own := r'.own
  fz := r'.fz
  sep := r'.sep
  keep := fun a o e hn => by
    have na : a ∉ P := fun z => by
      rcases r.new a z with w | w
      · exact hn w
      · rw [e] at w; cases w
    rcases r.keep a o e hn with z | ⟨ps, ps', rfl, z⟩
    · exact r'.keep a o z na
    · rcases r'.keep a _ z na with z2 | ⟨_, qs, _, z2⟩
      · exact .inr ⟨ps, ps', rfl, z2⟩
      · exact .inr ⟨ps, qs, rfl, z2⟩
  new := fun p hp => by
    rcases r'.new p hp with z | z
    · exact r.new p z
    · exact .inr (r.fresh0 z)
  lst := r'.lst
  iol := fun p hp => by
    by_cases z : p ∈ P
    · exact r'.iol p z
    · obtain ⟨o, e, c⟩ := r.iol p hp
      rcases r'.keep p _ e z with w | ⟨_, _, w, _⟩
      · exact ⟨o, w, c⟩
      · subst w
        rcases c with ⟨_, y⟩ | ⟨_, _, _, y⟩ <;> cases y
  io0 := r.io0
  ios := r'.ios
  ioo := r'.ioo
  tab := r'.tab
theorem RE.mutV (r : RE K T B P H σ ρ) {i : Nat} {ds ds' : List D} {p : Addr} {vs vs' : List V} (h : ρ[i]? = some (.own ds)) (hs : (vw B H σ)[i]? = some (some (.ref p))) (hp : H p = some (.lst vs)) (t : TrAll (mask (B.M ++ P) H) vs' ds') :
    RE K T B P (upd H p (.lst vs')) σ (ρ.set i (.own ds')) := by
  have ie : InsEq H (upd H p (.lst vs')) := .upd fun _ _ _ z => by rw [hp] at z; cases z
  exact ⟨r.vok.eq ie fun _ _ _ _ h _ => h, by rw [vw_eq r.vok ie]; exact r.z.mutOwn h hs hp t⟩
/-- an owned list is changed -/
theorem RE.mutOwn (r : RE K T B P H σ ρ) {i : Nat} {ds ds' : List D} {p : Addr} {vs vs' : List V} (hl : B.lc i) (h : ρ[i]? = some (.own ds)) (hs : σ[i]? = some (some (.ref p))) (hp : H p = some (.lst vs)) (t : TrAll (mask (B.M ++ P) H) vs' ds') :
    RE K T B P (upd H p (.lst vs')) σ (ρ.set i (.own ds')) := r.mutV h (by rw [vw_get r.vok hl]; exact hs) hp t
theorem RE.here (r : RE K T B P H σ ρ) : RE K T (B.here P H) P H σ ρ := ⟨fun c e => r.vok c e, r.z.here⟩
theorem RE.back (r : RE K T B P H σ ρ) (r' : RE K T (B.here P H) P' H' σ' ρ') : RE K T B P' H' σ' ρ' := ⟨fun c e => r'.vok c e, r.z.back r'.z⟩
end

/-! ### statements -/
/-- what is returned -/
def RV (K : PySem.W.Frag) (B : Bs) (P : List Addr) (H : Hp) : Md → V → D → Prop
  | .fr, v, d => ∃ p vs ds, v = .ref p ∧ d = .list ds ∧ B.H0 p = none ∧ p ∉ B.M ++ P ∧ H p = some (.lst vs) ∧ TrAll (mask (p :: (B.M ++ P)) H) vs ds
  | .cl, v, d => Tr (mask (B.M ++ P) H) v d
  | .ow, v, d => ∃ p vs ds, v = .ref p ∧ d = .list ds ∧ p ∈ P ∧ p ∉ B.M ∧ p ∉ B.io.map (·.2) ∧ H p = some (.lst vs) ∧ TrAll (mask (B.M ++ P) H) vs ds
  | .vw, v, d => Tr H v d
  | .fz, v, d => Fz K H v d
section
variable (C : Cf) (W : WX)
def SR (D : Ends) (B : Bs) : Out → Prop
  | .nx ρ' => ∀ P' σ' H', RE C.K C.T B P' H' σ' ρ' → D.nx σ' H'
  | .rt d m ρ' => ∀ P' σ' H' v, RE C.K C.T B P' H' σ' ρ' → RV C.K B P' H' m v d → D.rt v H'
  | .bk ρ' => ∀ P' σ' H', RE C.K C.T B P' H' σ' ρ' → D.bk σ' H'
  | .ct ρ' => ∀ P' σ' H', RE C.K C.T B P' H' σ' ρ' → D.ct σ' H'
  | .er c ρ' => ∀ A P' σ' H', C.mg c = some (.ref A) → RE C.K C.T B P' H' σ' ρ' → W (.ref A) none σ' H'
  | .ex c => ∀ A P' σ' H' ρ', C.mg c = some (.ref A) → RE C.K C.T B P' H' σ' ρ' → W (.ref A) none σ' H'
  | .no => False
def tS (f : CV → Out) : TS := fun D σ H => ∃ B P ρ, Lk B C ∧ RE C.K C.T B P H σ ρ ∧ SR C W D B (f ρ)
end
theorem RV.back {K : PySem.W.Frag} {T : List Addr} {B : Bs} {P P' : List Addr} {H H' : Hp} {σ : St} {ρ : CV} {m : Md} {v : V} {d : D} (r : RE K T B P H σ ρ) (h : RV K (B.here P H) P' H' m v d) : RV K B P' H' m v d := by
  cases m with
  | fr =>
    obtain ⟨p, vs, ds, e1, e2, h0, h1, h2, h3⟩ := h
    exact ⟨p, vs, ds, e1, e2, r.fresh0 h0, h1, h2, h3⟩
  | cl => exact h
  | ow => exact h
  | vw => exact h
  | fz => exact h
section
variable {X : Cx} {C : Cf} {W : WX} {e a b : Expr} {st : Stmt} {rest body : List Stmt} {f g : CV → Rs (D × Md)} {t : CV → Rs Bool} {u w : CV → Out} {pos : Pos}
def oSeq (o : Out) (k : CV → Out) : Out := match o with
  | .nx ρ => k ρ
  | o => o
def sNx : CV → Out := fun ρ => .nx ρ
def sSeq (u w : CV → Out) : CV → Out := fun ρ => oSeq (u ρ) w
theorem ss_nil : PSs X [] (tS C W sNx) := PSs.imp pss_nil fun D σ H h => by
  obtain ⟨B, P, ρ, hio, re, h⟩ := h
  exact h P σ H re
theorem ss_cons (h1 : PS X st (tS C W u)) (h2 : PSs X rest (tS C W w)) : PSs X (st :: rest) (tS C W (sSeq u w)) := PSs.imp (pss_cons h1 h2) fun D σ H h => by
  obtain ⟨B, P, ρ, hio, re, h⟩ := h
  refine ⟨B, P, ρ, hio, re, ?_⟩
  unfold sSeq at h
  cases e : u ρ with
  | nx ρ' => rw [e] at h; exact fun P' σ' H' re' => ⟨B, P', ρ', hio, re', h⟩
  | rt d m ρ' => rw [e] at h; exact h
  | bk ρ' => rw [e] at h; exact h
  | ct ρ' => rw [e] at h; exact h
  | er c ρ' => rw [e] at h; exact h
  | ex c => rw [e] at h; exact h
  | no => rw [e] at h; exact h
theorem ss_one (h1 : PS X st (tS C W u)) : PSs X [st] (tS C W u) := pss_one h1
theorem ss_pass : PS X (.Pass pos) (tS C W sNx) := PS.imp ps_pass fun D σ H h => by
  obtain ⟨B, P, ρ, hio, re, h⟩ := h
  exact h P σ H re
theorem ss_doc {x : Str} {j : Nat} {p2 : Pos} : PS X (.Expr (.Constant (.str x) j p2) pos) (tS C W sNx) := PS.imp ps_doc fun D σ H h => by
  obtain ⟨B, P, ρ, hio, re, h⟩ := h
  exact h P σ H re
def sBk : CV → Out := fun ρ => .bk ρ
def sCt : CV → Out := fun ρ => .ct ρ
theorem ss_break : PS X (.Break pos) (tS C W sBk) := PS.imp ps_break fun D σ H h => by
  obtain ⟨B, P, ρ, hio, re, h⟩ := h
  exact h P σ H re
theorem ss_continue : PS X (.Continue pos) (tS C W sCt) := PS.imp ps_continue fun D σ H h => by
  obtain ⟨B, P, ρ, hio, re, h⟩ := h
  exact h P σ H re
/-- from an expression to a statement -/
theorem tS_then {σ : St} {H : Hp} {B : Bs} {P : List Addr} {ρ : CV} {k : D × Md → Out} {D' : Ends} {Q' : VK} (hio : Lk B C) (re : RE C.K C.T B P H σ ρ)
    (h : SR C W D' B (match f ρ with | .ok x => k x | .er c => .er c ρ | .no => .no))
    (hQ : ∀ d m v H1, Sm H H1 → RE C.K C.T B P H1 σ ρ → VR C.K (B.M ++ P) H H1 m v d → SR C W D' B (k (d, m)) → Q' v H1) : tE C W f σ H Q' := by
  refine ⟨B, P, ρ, hio, re, ?_⟩
  cases e : f ρ with
  | ok a =>
    obtain ⟨d, m⟩ := a
    rw [e] at h
    exact fun v H1 s t vr => hQ d m v H1 s (re.sm s t) vr h
  | er c =>
    rw [e] at h
    exact fun A H1 hm s t => h A P σ H1 hm (re.sm s t)
  | no => rw [e] at h; exact h
def sExpr (f : CV → Rs (D × Md)) : CV → Out := fun ρ => match f ρ with
  | .ok _ => .nx ρ
  | .er c => .er c ρ
  | .no => .no
theorem ss_expr (he : PE X e (tE C W f)) (hs : swapsWith e none pos.line X.env = pure false := by rfl) : PS X (.Expr e pos) (tS C W (sExpr f)) := PS.imp (ps_expr he hs) fun D σ H h => by
  obtain ⟨B, P, ρ, hio, re, h⟩ := h
  exact tS_then (k := fun _ => .nx ρ) hio re h fun d m v H1 s re1 vr h1 => h1 P σ H1 re1
/-- name = e -/
def setK (i : Nat) (ρ : CV) : D × Md → Out
  | (.list ds, .fr) => .nx (ρ.set i (.own ds))
  | (_, .fr) => .no
  | (d, .cl) => .nx (ρ.set i (.val d))
  | (d, .fz) => .nx (ρ.set i (.fz d))
  | (d, .ow) => .no
  | (d, .vw) => .no
def sSet (i : Nat) (f : CV → Rs (D × Md)) : CV → Out := fun ρ => match f ρ with
  | .ok x => setK i ρ x
  | .er c => .er c ρ
  | .no => .no
theorem setK_ok {σ : St} {H H1 : Hp} {B : Bs} {P : List Addr} {ρ : CV} {i : Nat} {d : PyData} {m : Md} {v : V} {D' : Ends} (hi : ¬ B.ro i) (re : RE C.K C.T B P H σ ρ) (s : Sm H H1) (re1 : RE C.K C.T B P H1 σ ρ) (vr : VR C.K (B.M ++ P) H H1 m v d) (h : SR C W D' B (setK i ρ (d, m))) :
    D'.nx (σ.set i (some v)) H1 := by
  cases m with
  | fr =>
    obtain ⟨p, vs, ds, rfl, rfl, h0, h1, t⟩ := vr
    exact h (p :: P) _ _ (re.setOwn s re1.tab hi h0 h1 t)
  | cl => exact (show SR C W D' B (.nx (ρ.set i (.val d))) by cases d <;> exact h) P _ _ (re1.setVal hi vr)
  | fz => exact (show SR C W D' B (.nx (ρ.set i (.fz d))) by cases d <;> exact h) P _ _ (re1.setFz hi vr)
  | ow => cases d <;> exact h.elim
  | vw => cases d <;> exact h.elim
theorem ss_set (i : Nat) {x : Str} {pos' : Pos} (hN : X.N.Nodup) (he : PE X e (tE C W f)) (hi : X.N[i]? = some x := by rfl) (hx : Loc X.env.scope x := by first | exact Or.inl rfl | exact Or.inr rfl) (hio : C.ro i = false := by rfl) (hs : swapsWith e (some (.Name x pos')) pos.line X.env = pure false := by rfl)
    (hf : X.fn x = true ∨ X.env.scope.names.lookup x = some .local := by first | exact .inl rfl | exact .inr rfl | assumption) :
    PS X (.Assign [.Name x pos'] e pos) (tS C W (sSet i f)) := PS.imp (ps_set hN hi hx he hs hf) fun D σ H h => by
  obtain ⟨B, P, ρ, hb, re, h⟩ := h
  have hi' : ¬ B.ro i := hb.ro hio
  exact tS_then (k := setK i ρ) hb re h fun d m v H1 s re1 vr h1 => setK_ok hi' re s re1 vr h1
/-- an owned list is shared ahead of a statement -/
def shr (i : Nat) (ρ : CV) : CV := match ρ[i]? with
  | some (.own ds) => ρ.set i (.val (.list ds))
  | _ => ρ
theorem shr_ok {σ : St} {H : Hp} {B : Bs} {P : List Addr} {ρ : CV} {i : Nat} (hi : ¬ B.ro i) (re : RE C.K C.T B P H σ ρ) : ∃ P', RE C.K C.T B P' H σ (shr i ρ) := by
  unfold shr
  split
  · rename_i ds e
    exact re.share hi e
  · exact ⟨P, re⟩
theorem ss_share (i : Nat) (h : PS X st (tS C W u)) (hio : C.ro i = false := by rfl) : PS X st (tS C W fun ρ => u (shr i ρ)) := PS.imp h fun D σ H h => by
  obtain ⟨B, P, ρ, hb, re, h⟩ := h
  have hi' : ¬ B.ro i := hb.ro hio
  obtain ⟨P', re'⟩ := shr_ok (i := i) hi' re
  exact ⟨B, P', shr i ρ, hb, re', h⟩
theorem ss_shares (i : Nat) (h : PSs X rest (tS C W u)) (hio : C.ro i = false := by rfl) : PSs X rest (tS C W fun ρ => u (shr i ρ)) := PSs.imp h fun D σ H h => by
  obtain ⟨B, P, ρ, hb, re, h⟩ := h
  have hi' : ¬ B.ro i := hb.ro hio
  obtain ⟨P', re'⟩ := shr_ok (i := i) hi' re
  exact ⟨B, P', shr i ρ, hb, re', h⟩
/-- return -/
def sRet (f : CV → Rs (D × Md)) : CV → Out := fun ρ => match f ρ with
  | .ok x => if x.2 = .ow then .no else .rt x.1 x.2 ρ
  | .er c => .er c ρ
  | .no => .no
theorem VR.rv {K : PySem.W.Frag} {T : List Addr} {B : Bs} {P : List Addr} {H H1 : Hp} {σ : St} {ρ : CV} {m : Md} {v : V} {d : D} (re : RE K T B P H σ ρ) (h : VR K (B.M ++ P) H H1 m v d) (n : m ≠ .ow) : RV K B P H1 m v d := by
  cases m with
  | fr =>
    obtain ⟨p, vs, ds, e1, e2, h0, h1, t⟩ := h
    exact ⟨p, vs, ds, e1, e2, re.fresh0 h0, lst_ne re.lst h0, h1, t⟩
  | cl => exact h
  | ow => exact absurd rfl n
  | vw => exact h
  | fz => exact h
theorem ss_ret (he : PE X e (tE C W f)) : PS X (.Return (some e) pos) (tS C W (sRet f)) := PS.imp (ps_ret he) fun D σ H h => by
  obtain ⟨B, P, ρ, hio, re, h⟩ := h
  refine tS_then (k := fun x => if x.2 = .ow then .no else .rt x.1 x.2 ρ) hio re h fun d m v H1 s re1 vr h1 => ?_
  by_cases n : m = .ow
  · subst n; exact h1.elim
  · have h1' : SR C W D B (if m = .ow then .no else .rt d m ρ) := h1
    rw [if_neg n] at h1'
    exact h1' P σ H1 v re1 (vr.rv re n)
/-- return of an owned list -/
def sRetOwn (i : Nat) : CV → Out := fun ρ => match ρ[i]? with
  | some (.own ds) => .rt (.list ds) .ow ρ
  | some (.val d) => .rt d .cl ρ
  | _ => .no
theorem ss_retOwn (i : Nat) {x : Str} {p2 : Pos} (hN : X.N[i]? = some x := by rfl) (hv : Vis X.env.scope x := by first | exact Or.inl rfl | exact Or.inr (Or.inl rfl) | exact Or.inr (Or.inr rfl)) (hio : C.ro i = false := by rfl) (hd : (x == ("__debug__" : Str)) = false := by decide)
    (hcd : (x == ("__classdict__" : Str)) = false := by decide) : PS X (.Return (some (.Name x p2)) pos) (tS C W (sRetOwn i)) := PS.imp (ps_ret (pe_var (i := i) hN hv hd hcd)) fun D σ H h => by
  obtain ⟨B, P, ρ, hb, re, h⟩ := h
  have hi' : ¬ B.ro i := hb.ro hio
  unfold sRetOwn at h
  split at h
  · rename_i ds e
    obtain ⟨p, vs, h1, h2, h3, h4, h5, h6⟩ := re.ownOut hi' e
    exact ⟨.ref p, h1, h P σ H _ re ⟨p, vs, ds, rfl, rfl, h2, h3, h4, h5, h6⟩⟩
  · rename_i d e
    obtain ⟨v, h1, h2⟩ := re.val (Bs.ro_lc hi') e
    exact ⟨v, h1, h P σ H _ re h2⟩
  · exact h.elim
def sRetN : CV → Out := fun ρ => .rt .none .cl ρ
theorem ss_retN : PS X (.Return none pos) (tS C W sRetN) := PS.imp ps_retN fun D σ H h => by
  obtain ⟨B, P, ρ, hio, re, h⟩ := h
  exact h P σ H _ re .non
/-- if -/
def sIf (t : CV → Rs Bool) (u w : CV → Out) : CV → Out := fun ρ => match t ρ with
  | .ok b => if b then u ρ else w ρ
  | .er c => .er c ρ
  | .no => .no
theorem ss_if {c : Expr} {sa sb : List Stmt} (hc : PT X c (tT C W t)) (ha : PSs X sa (tS C W u)) (hb : PSs X sb (tS C W w)) : PS X (.If c sa sb pos) (tS C W (sIf t u w)) := PS.imp (ps_if hc ha hb) fun D σ H h => by
  obtain ⟨B, P, ρ, hio, re, h⟩ := h
  refine ⟨B, P, ρ, hio, re, ?_⟩
  unfold sIf at h
  cases e : t ρ with
  | ok k =>
    rw [e] at h
    intro H1 s tb
    cases k with
    | true => exact iteT ⟨B, P, ρ, hio, re.sm s tb, h⟩
    | false => exact iteF ⟨B, P, ρ, hio, re.sm s tb, h⟩
  | er c => rw [e] at h; exact fun A H1 hm s tb => h A P σ H1 hm (re.sm s tb)
  | no => rw [e] at h; exact h

/-! ### loops -/
/-- what is walked: Pm, P at the start -/
def ItOk (Pm P : List Addr) (H : Hp) (J : It) (ds : List D) : Prop :=
  ∀ (H2 : Hp) (Pm2 : List Addr), (∀ a o, H a = some o → a ∉ P → H2 a = some o ∨ ∃ ps ps', o = .tbl ps ∧ H2 a = some (.tbl ps')) → (∀ p ∈ Pm2, p ∈ Pm ∨ H p = none) →
    (∀ i d, ds[i]? = some d → J.go i H2 ∧ ∀ x H3, J.yld i H2 x H3 → H3 = H2 ∧ Tr (mask Pm2 H2) x d) ∧ ∀ i, ds.length ≤ i → J.stop i H2
section
variable (C : Cf) (W : WX)
def IR (σ : St) (H : Hp) (Pm P : List Addr) (R : It → Hp → Prop) : Rs (List D) → Prop
  | .ok ds => ∀ J H', Sm H H' → Tab C.T H' → ItOk Pm P H' J ds → R J H'
  | .er c => ∀ A H', C.mg c = some (.ref A) → Sm H H' → Tab C.T H' → W (.ref A) none σ H'
  | .no => False
def tI (f : CV → Rs (List D)) : TI := fun σ H R => ∃ B P ρ, Lk B C ∧ RE C.K C.T B P H σ ρ ∧ IR C W σ H (B.M ++ P) P R (f ρ)
end
theorem PI.imp {tg it : Expr} {t t' : TI} (h : PI X tg it t) (i : ∀ σ H Q, t' σ H Q → t σ H Q) : PI X tg it t' := ⟨fun pins s σ H Q I w => h.run pins s σ H Q I (i σ H Q w)⟩
/-- data that stays while others change -/
theorem le_of_keep {Pm P Pm2 : List Addr} {H H2 : Hp} (sub : ∀ p ∈ P, p ∈ Pm) (k : ∀ a o, H a = some o → a ∉ P → H2 a = some o ∨ ∃ ps ps', o = .tbl ps ∧ H2 a = some (.tbl ps')) (n : ∀ p ∈ Pm2, p ∈ Pm ∨ H p = none) : SeqLe (mask Pm H) (mask Pm2 H2) := by
  have key : ∀ a o, mask Pm H a = some o → (∀ ps, o ≠ .tbl ps) → mask Pm2 H2 a = some o := fun a o e nt => by
    obtain ⟨h1, h2⟩ := mask_some e
    have h3 : a ∉ Pm2 := fun z => by
      rcases n a z with w | w
      · exact h1 w
      · rw [h2] at w; cases w
    rw [mask_out h3]
    rcases k a o h2 (fun z => h1 (sub a z)) with z | ⟨ps, _, z, _⟩
    · exact z
    · exact absurd z (nt ps)
  exact ⟨fun a xs e => key a _ e (fun _ z => by cases z), fun a xs e => key a _ e (fun _ z => by cases z)⟩
theorem itOk_list {Pm P : List Addr} {H : Hp} {K : PySem.W.Frag} {p : Addr} {vs : List V} {ds : List D} (sub : ∀ q ∈ P, q ∈ Pm) (hp : p ∉ P) (h : H p = some (.lst vs)) (t : TrAll (mask Pm H) vs ds) : ItOk Pm P H (Itl K p) ds := by
  intro H2 Pm2 k n
  have h2 : H2 p = some (.lst vs) := by
    rcases k p _ h hp with z | ⟨ps, _, z, _⟩
    · exact z
    · cases z
  have t2 := TrAll.mono (le_of_keep sub k n) _ _ t
  refine ⟨fun i d e => ?_, fun i hi => ⟨vs, SqL.of h2, by rw [t.length]; exact hi⟩⟩
  obtain ⟨v, e1, tv⟩ := t2.get e
  refine ⟨⟨vs, v, SqL.of h2, e1⟩, fun x H3 y => ?_⟩
  obtain ⟨rfl, y⟩ := y
  have e2 := y vs (SqL.of h2)
  rw [e1] at e2; cases e2
  exact ⟨rfl, tv⟩
theorem itOk_fz {Pm P : List Addr} {H : Hp} {K : PySem.W.Frag} {p : Addr} {ds : List D} {vs : List V} (hp : ∃ o, H p = some (.frz o (.lst vs))) (hn : p ∉ P) (f : Fl vs ds) : ItOk Pm P H (Itl K p) ds := by
  intro H2 Pm2 k n
  obtain ⟨o, h⟩ := hp
  have h2 : H2 p = some (.frz o (.lst vs)) := by
    rcases k p _ h hn with z | ⟨ps, _, z, _⟩
    · exact z
    · cases z
  have sq : SqL K H2 p vs := .inl (.inr ⟨o, h2⟩)
  have t2 : TrAll (mask Pm2 H2) vs ds := f.tr
  refine ⟨fun i d e => ?_, fun i hi => ⟨vs, sq, by rw [t2.length]; exact hi⟩⟩
  obtain ⟨v, e1, tv⟩ := t2.get e
  refine ⟨⟨vs, v, sq, e1⟩, fun x H3 y => ?_⟩
  obtain ⟨rfl, y⟩ := y
  have e2 := y vs sq
  rw [e1] at e2; cases e2
  exact ⟨rfl, tv⟩
/-- over a list: not an owned one (share it first) -/
def mIterL (f : CV → Rs (D × Md)) : CV → Rs (List D) := fun ρ => (f ρ).bind fun x => match x with
  | (.list ds, .fr) => .ok ds
  | (.list ds, .cl) => .ok ds
  | _ => .no
theorem si_list {tg l : Expr} (hl : PE X l (tE C W f)) : PI X tg l (tI C W (mIterL f)) := PI.imp (pi_list hl) fun σ H R h => by
  obtain ⟨B, P, ρ, hio, re, h⟩ := h
  refine ⟨B, P, ρ, hio, re, ?_⟩
  unfold mIterL at h
  cases e : f ρ with
  | ok a =>
    obtain ⟨d, m⟩ := a
    rw [e] at h
    intro v H1 s tb vr
    have sub : ∀ q ∈ P, q ∈ B.M ++ P := fun q hq => List.mem_append_right _ hq
    cases d <;> try exact h.elim
    rename_i ds
    cases m <;> try exact h.elim
    · obtain ⟨p, vs, ds', rfl, e2, h0, h1, t⟩ := vr
      cases e2
      have np := lst_ne re.lst h0
      refine ⟨p, rfl, ⟨vs, SqL.of h1⟩, h _ H1 s tb (itOk_list sub (fun z => np (sub p z)) h1 (TrAll.mono (mask_anti fun a ha => List.mem_cons_of_mem _ ha) _ _ t))⟩
    · cases vr with
      | lst e2 t =>
        obtain ⟨h1, h2⟩ := mask_some e2
        exact ⟨_, rfl, ⟨_, SqL.of h2⟩, h _ H1 s tb (itOk_list sub (fun z => h1 (sub _ z)) h2 t)⟩
  | er c => rw [e] at h; exact h
  | no => rw [e] at h; exact h
def rangeD (lo : Int) (n : Nat) : List D := (List.range n).map fun (i : Nat) => PyData.int (lo + (i : Int))
theorem itOk_range {Pm P : List Addr} {H : Hp} (lo : Int) (n : Nat) : ItOk Pm P H (Itr lo n) (rangeD lo n) := by
  intro H2 Pm2 k nn
  have hl : (rangeD lo n).length = n := by simp [rangeD]
  refine ⟨fun i d e => ?_, fun i hi => by rw [hl] at hi; exact hi⟩
  have hi : i < n := by
    have := (List.getElem?_eq_some_iff.mp e).1
    rwa [hl] at this
  have e' : d = .int (lo + (i : Nat)) := by
    unfold rangeD at e
    rw [List.getElem?_map, List.getElem?_range hi] at e
    exact (Option.some.inj e).symm
  subst e'
  refine ⟨hi, fun x H3 y => ?_⟩
  obtain ⟨rfl, rfl⟩ := y
  exact ⟨rfl, .int _⟩
def mRange1 (fa : CV → Rs (List (D × Md))) : CV → Rs (List D) := fun ρ => (fa ρ).bind fun x => match x with
  | [(.int j, _)] => if -1000000 < j ∧ j < 1000000 then .ok (rangeD 0 j.toNat) else .no
  | _ => .no
def mRange2 (fa : CV → Rs (List (D × Md))) : CV → Rs (List D) := fun ρ => (fa ρ).bind fun x => match x with
  | [(.int i, _), (.int j, _)] => if -1000000 < i ∧ i < 1000000 ∧ -1000000 < j ∧ j < 1000000 then .ok (rangeD i (j - i).toNat) else .no
  | _ => .no
variable {fa : CV → Rs (List (D × Md))}
theorem si_range1 {tg : Expr} {p : Pos} (hm : X.mg "range" = none) (ha : PA X [a] (tA C W fa)) (hg : Gl X "range" := by rfl) (hs : starEach [a] X.env = [(false, eval a X.env)] := by rfl) : PI X tg (.Call (.Name "range" p) [a] [] pos) (tI C W (mRange1 fa)) :=
  PI.imp (pi_range1 hg hm ha hs) fun σ H R h => by
    obtain ⟨B, P, ρ, hio, re, h⟩ := h
    refine ⟨B, P, ρ, hio, re, ?_⟩
    unfold mRange1 at h
    cases e : fa ρ with
    | ok xs =>
      rw [e] at h
      dsimp only [Rs.bind] at h
      intro vs H1 s tb ov
      split at h
      · rename_i j m
        split at h
        · rename_i hz
          match vs, ov with
          | [v], ov =>
            have ev := ov.1.int
            subst ev
            exact ⟨j, rfl, by omega, by omega, h _ H1 s tb (itOk_range 0 j.toNat)⟩
        · exact h.elim
      · exact h.elim
    | er c => rw [e] at h; exact h
    | no => rw [e] at h; exact h
theorem si_range2 {tg : Expr} {p : Pos} (hm : X.mg "range" = none) (ha : PA X [a, b] (tA C W fa)) (hg : Gl X "range" := by rfl) (hs : starEach [a, b] X.env = [(false, eval a X.env), (false, eval b X.env)] := by rfl) (hs2 : starEach [b] X.env = [(false, eval b X.env)] := by rfl) : PI X tg (.Call (.Name "range" p) [a, b] [] pos) (tI C W (mRange2 fa)) :=
  PI.imp (pi_range2 hg hm ha hs hs2) fun σ H R h => by
    obtain ⟨B, P, ρ, hio, re, h⟩ := h
    refine ⟨B, P, ρ, hio, re, ?_⟩
    unfold mRange2 at h
    cases e : fa ρ with
    | ok xs =>
      rw [e] at h
      dsimp only [Rs.bind] at h
      intro vs H1 s tb ov
      split at h
      · rename_i i m j m2
        split at h
        · rename_i hz
          match vs, ov with
          | [v, v2], ov =>
            have ev := ov.1.int
            have ev2 := ov.2.1.int
            subst ev ev2
            exact ⟨i, j, rfl, ⟨by omega, by omega, by omega, by omega⟩, h _ H1 s tb (itOk_range i (j - i).toNat)⟩
        · exact h.elim
      · exact h.elim
    | er c => rw [e] at h; exact h
    | no => rw [e] at h; exact h
def signsD (z : Str) : List D := z.cps.toList.map fun c => .str ⟨#[c]⟩
def mIterS (f : CV → Rs (D × Md)) : CV → Rs (List D) := fun ρ => (f ρ).bind fun x => match x.1 with
  | .str z => .ok (signsD z)
  | _ => .no
theorem itOk_str {Pm P : List Addr} {H : Hp} (z : Str) : ItOk Pm P H (Its z) (signsD z) := by
  intro H2 Pm2 k nn
  have hl : (signsD z).length = z.cps.size := by simp [signsD]
  refine ⟨fun i d e => ?_, fun i hi => by rw [hl] at hi; exact hi⟩
  have hi : i < z.cps.size := by
    have := (List.getElem?_eq_some_iff.mp e).1
    rwa [hl] at this
  unfold signsD at e
  rw [List.getElem?_map] at e
  obtain ⟨c, e1, rfl⟩ := Option.map_eq_some_iff.mp e
  refine ⟨hi, fun x H3 y => ?_⟩
  obtain ⟨rfl, c', e2, rfl⟩ := y
  rw [Array.getElem?_toList] at e1
  rw [e1] at e2; cases e2
  exact ⟨rfl, .str _⟩
theorem si_str {tg l : Expr} (hl : PE X l (tE C W f)) : PI X tg l (tI C W (mIterS f)) := PI.imp (pi_str hl) fun σ H R h => by
  obtain ⟨B, P, ρ, hio, re, h⟩ := h
  refine ⟨B, P, ρ, hio, re, ?_⟩
  unfold mIterS at h
  cases e : f ρ with
  | ok a =>
    obtain ⟨d, m⟩ := a
    rw [e] at h
    intro v H1 s tb vr
    have o := VR.ov re.lst vr
    cases d <;> try exact h.elim
    exact ⟨_, o.str, h _ H1 s tb (itOk_str _)⟩
  | er c => rw [e] at h; exact h
  | no => rw [e] at h; exact h

def forL (i : Nat) (u : CV → Out) : List D → CV → Out
  | [], ρ => .nx ρ
  | d :: ds, ρ => match u (ρ.set i (.val d)) with
    | .nx ρ' => forL i u ds ρ'
    | .ct ρ' => forL i u ds ρ'
    | .bk ρ' => .nx ρ'
    | o => o
def sFor (i : Nat) (it : CV → Rs (List D)) (u : CV → Out) : CV → Out := fun ρ => match it ρ with
  | .ok ds => forL i u ds ρ
  | .er c => .er c ρ
  | .no => .no
theorem for_core {D' : Ends} {B : Bs} {P : List Addr} {H : Hp} {σ : St} {ρ : CV} {i : Nat} {J : It} {ds : List D} (hio : Lk B C) (hi : ¬ B.ro i) (re : RE C.K C.T B P H σ ρ) (it : ItOk (B.M ++ P) P H J ds) (h : SR C W D' B (forL i u ds ρ)) :
    ∃ V : Nat → Nat → St → Hp → Prop, (∃ m, V 0 m σ H) ∧ ∀ j m σ' H', V j m σ' H' →
      (J.stop j H' ∧ D'.nx σ' H') ∨ (J.go j H' ∧ ∃ N : St → Hp → Prop, (∀ σ2 H2, N σ2 H2 → ∃ m', m' < m ∧ V (j + 1) m' σ2 H2) ∧ ∀ x H2, J.yld j H' x H2 → gName i x σ' H2 fun σ3 H3 => tS C W u { D' with nx := N, ct := N, bk := D'.nx } σ3 H3) := by
  have re0 := re.here
  refine ⟨fun j m σ' H' => m = ds.length - j ∧ j ≤ ds.length ∧ ∃ P' ρ', RE C.K C.T (B.here P H) P' H' σ' ρ' ∧ SR C W D' B (forL i u (ds.drop j) ρ'), ⟨ds.length, by simp, Nat.zero_le _, P, ρ, re0, h⟩, ?_⟩
  rintro j m σ' H' ⟨rfl, hj, P', ρ', re', h'⟩
  obtain ⟨items, stop⟩ := it H' (B.M ++ P') (fun a o e hn => re'.keep a o e hn) (fun p hp => by
    rcases (List.mem_append.mp hp) with z | z
    · exact .inl (List.mem_append_left _ z)
    · rcases re'.new p z with w | w
      · exact .inl (List.mem_append_right _ w)
      · exact .inr w)
  by_cases hlt : j < ds.length
  · have e := List.getElem?_eq_getElem hlt
    obtain ⟨go, yl⟩ := items j _ e
    refine .inr ⟨go, fun σ2 H2 => ∃ P2 ρ2, RE C.K C.T (B.here P H) P2 H2 σ2 ρ2 ∧ SR C W D' B (forL i u (ds.drop (j + 1)) ρ2), fun σ2 H2 hN => ⟨ds.length - (j + 1), by omega, rfl, hlt, hN⟩, fun x H2 y => ?_⟩
    obtain ⟨rfl, tx⟩ := yl x H2 y
    have ed : ds.drop j = ds[j] :: ds.drop (j + 1) := List.drop_eq_getElem_cons hlt
    rw [ed] at h'
    refine ⟨B.here P H, P', ρ'.set i (.val ds[j]), ⟨hio.io, hio.ob⟩, re'.setVal hi tx, ?_⟩
    unfold forL at h'
    cases eo : u (ρ'.set i (.val ds[j])) with
    | nx ρ2 => rw [eo] at h'; exact fun P2 σ2 H2 re2 => ⟨P2, ρ2, re2, h'⟩
    | ct ρ2 => rw [eo] at h'; exact fun P2 σ2 H2 re2 => ⟨P2, ρ2, re2, h'⟩
    | bk ρ2 => rw [eo] at h'; exact fun P2 σ2 H2 re2 => h' P2 σ2 H2 (re.back re2)
    | rt d m ρ2 => rw [eo] at h'; exact fun P2 σ2 H2 v re2 rv => h' P2 σ2 H2 v (re.back re2) (rv.back re)
    | er c ρ2 => rw [eo] at h'; exact fun A P2 σ2 H2 hm re2 => h' A P2 σ2 H2 hm (re.back re2)
    | ex c => rw [eo] at h'; exact fun A P2 σ2 H2 ρ2 hm re2 => h' A P2 σ2 H2 ρ2 hm (re.back re2)
    | no => rw [eo] at h'; exact h'
  · have ej : j = ds.length := by omega
    subst ej
    rw [List.drop_length] at h'
    exact .inl ⟨stop _ (Nat.le_refl _), h' P' σ' H' (re.back re')⟩
theorem ss_for (i : Nat) {x : Str} {p2 : Pos} {iter : Expr} {it : CV → Rs (List D)} (hp : PassesOwn (model X.prog X.w) X.A X.env X.xe) (hc : X.calm = true) (hN : X.N.Nodup) (hit : PI X (.Name x p2) iter (tI C W it)) (hb : PSs X body (tS C W u))
    (hi : X.N[i]? = some x := by rfl) (hx : Loc X.env.scope x := by first | exact Or.inl rfl | exact Or.inr rfl) (hio : C.ro i = false := by rfl) (hf : X.fn x = true ∨ X.env.scope.names.lookup x = some .local := by first | exact .inl rfl | exact .inr rfl | assumption)
    (hs : ∀ x, foldedSetIterable iter X.env x = pure x := by intro _; rfl) : PS X (.For (.Name x p2) iter body [] pos) (tS C W (sFor i it u)) :=
  PS.imp (ps_for hp hc hit (pg_name hN hi hx hf) hb hs) fun D' σ H h => by
    obtain ⟨B, P, ρ, hb, re, h⟩ := h
    have hi' : ¬ B.ro i := hb.ro hio
    refine ⟨B, P, ρ, hb, re, ?_⟩
    unfold sFor at h
    cases e : it ρ with
    | ok ds => rw [e] at h; exact fun J H1 s tb io => for_core hb hi' (re.sm s tb) io h
    | er c => rw [e] at h; exact fun A H1 hm s tb => h A P σ H1 hm (re.sm s tb)
    | no => rw [e] at h; exact h
/-- while, with fuel -/
def whL (t : CV → Rs Bool) (u : CV → Out) : Nat → CV → Out
  | 0, _ => .no
  | n + 1, ρ => match t ρ with
    | .ok true => (match u ρ with
      | .nx ρ' => whL t u n ρ'
      | .ct ρ' => whL t u n ρ'
      | .bk ρ' => .nx ρ'
      | o => o)
    | .ok false => .nx ρ
    | .er c => .er c ρ
    | .no => .no
theorem ss_while (n : Nat) {c : Expr} (hp : PassesOwn (model X.prog X.w) X.A X.env X.xe) (hc : PT X c (tT C W t)) (hb : PSs X body (tS C W u)) : PS X (.While c body [] pos) (tS C W (whL t u n)) :=
  PS.imp (ps_while hp hc hb) fun D' σ H h => by
    obtain ⟨B, P, ρ, hb, re, h⟩ := h
    refine ⟨fun m σ' H' => ∃ P' ρ', RE C.K C.T B P' H' σ' ρ' ∧ SR C W D' B (whL t u m ρ'), ⟨n, P, ρ, re, h⟩, ?_⟩
    rintro m σ' H' ⟨P', ρ', re', h'⟩
    cases m with
    | zero => exact h'.elim
    | succ m =>
      refine ⟨B, P', ρ', hb, re', ?_⟩
      unfold whL at h'
      cases e : t ρ' with
      | ok k =>
        rw [e] at h'
        intro H1 s tb
        have re1 := re'.sm s tb
        cases k with
        | true =>
          refine iteT ⟨fun σ2 H2 => ∃ P2 ρ2, RE C.K C.T B P2 H2 σ2 ρ2 ∧ SR C W D' B (whL t u m ρ2), fun σ2 H2 z => ⟨m, Nat.lt_succ_self m, z⟩, B, P', ρ', hb, re1, ?_⟩
          dsimp only at h'
          cases eo : u ρ' with
          | nx ρ2 => rw [eo] at h'; exact fun P2 σ2 H2 re2 => ⟨P2, ρ2, re2, h'⟩
          | ct ρ2 => rw [eo] at h'; exact fun P2 σ2 H2 re2 => ⟨P2, ρ2, re2, h'⟩
          | bk ρ2 => rw [eo] at h'; exact h'
          | rt d m ρ2 => rw [eo] at h'; exact h'
          | er c ρ2 => rw [eo] at h'; exact h'
          | ex c => rw [eo] at h'; exact h'
          | no => rw [eo] at h'; exact h'
        | false => exact iteF (h' P' σ' H1 re1)
      | er c => rw [e] at h'; exact fun A H1 hm s tb => h' A P' σ' H1 hm (re'.sm s tb)
      | no => rw [e] at h'; exact h'
end
end Eng

set_option Elab.async false
set_option linter.all false
set_option maxRecDepth 100000
set_option maxHeartbeats 1234567
namespace Eng
open PySem PySem.Spec
open PyProof.Rows L2

/-! ### calls of built-ins -/
section
variable {X : Cx} {C : Cf} {W : WX} {e a b : Expr} {es : List Expr} {st : Stmt} {rest body : List Stmt} {f g : CV → Rs (D × Md)} {t : CV → Rs Bool} {u w : CV → Out} {fa : CV → Rs (List (D × Md))} {pos : Pos}
theorem tA_then {σ : St} {H : Hp} {B : Bs} {P : List Addr} {ρ : CV} {k : List (D × Md) → Rs (D × Md)} {Q : VK} {Q' : List V → Hp → Prop} (hio : Lk B C) (re : RE C.K C.T B P H σ ρ) (h : ER C W σ H (B.M ++ P) Q ((fa ρ).bind k))
    (hQ : ∀ ds vs H1, Sm H H1 → RE C.K C.T B P H1 σ ρ → OVs C.K (B.M ++ P) H1 vs ds → ER C W σ H1 (B.M ++ P) Q (k ds) → Q' vs H1) : tA C W fa σ H Q' := by
  refine ⟨B, P, ρ, hio, re, ?_⟩
  cases e : fa ρ with
  | ok ds =>
    rw [e] at h
    exact fun vs H1 s t ov => hQ ds vs H1 s (re.sm s t) ov (h.sm s)
  | er c => rw [e] at h; exact h
  | no => rw [e] at h; exact h
def mCallB (h : List (D × Md) → Option (D × Md)) (fa : CV → Rs (List (D × Md))) : CV → Rs (D × Md) := fun ρ => (fa ρ).bind fun ds => ofO (h ds)
def CallOk (C : Cf) (r : List V → Hp → VK → Prop) (h : List (D × Md) → Option (D × Md)) : Prop :=
  ∀ (Pm : List Addr) (H : Hp) (vs : List V) (ds : List (D × Md)) (d : D × Md) (Q : VK), Lsts Pm H → Tab C.T H → OVs C.K Pm H vs ds → h ds = some d → (∀ v H', Sm H H' → Tab C.T H' → VR C.K Pm H H' d.2 v d.1 → Q v H') → r vs H Q
theorem tCB1 {r : List V → Hp → VK → Prop} {h : List (D × Md) → Option (D × Md)} (ok : CallOk C r h) (σ : St) (H : Hp) (Q : VK) (w : tE C W (mCallB h fa) σ H Q) : tCB r (tA C W fa) σ H Q := by
  obtain ⟨B, P, ρ, hio, re, w⟩ := w
  refine tA_then hio re w fun ds vs H1 s re1 ov w1 => ?_
  cases e : h ds with
  | none => rw [e] at w1; exact w1.elim
  | some z =>
    rw [e] at w1
    exact ok (B.M ++ P) H1 vs ds z Q re1.lst re1.tab ov e w1
theorem se_callB {x : Str} {p : Pos} {id : String} {r : List V → Hp → VK → Prop} {h : List (D × Md) → Option (D × Md)} (hc : CallR X (.builtin id) r) (ok : CallOk C r h) (hm : X.mg x = none) (hv : bootBuiltins x = some (.builtin id)) (ha : PA X (e :: es) (tA C W fa)) (hg : Gl X x := by rfl) (hn : x ≠ "__name__" := by decide)
    (hdb : (x == ("__debug__" : Str)) = false := by decide) (he : starEach (e :: es) X.env = (false, eval e X.env) :: starEach es X.env := by rfl) (hpl : (backTo pos (starEach es X.env)).any (·.1) = false := by rfl) : PE X (.Call (.Name x p) (e :: es) [] pos) (tE C W (mCallB h fa)) :=
  PE.imp (pe_callB hc hg hm hv ha hn hdb he hpl) fun σ H Q w => tCB1 ok σ H Q w
theorem se_callTy {x : Str} {p : Pos} {id : String} {r : List V → Hp → VK → Prop} {h : List (D × Md) → Option (D × Md)} (hc : CallR X (.type id) r) (ok : CallOk C r h) (hm : X.mg x = none) (hv : bootBuiltins x = some (.type id)) (ha : PA X (e :: es) (tA C W fa)) (hg : Gl X x := by rfl) (hn : x ≠ "__name__" := by decide)
    (hdb : (x == ("__debug__" : Str)) = false := by decide) (he : starEach (e :: es) X.env = (false, eval e X.env) :: starEach es X.env := by rfl) (hpl : (backTo pos (starEach es X.env)).any (·.1) = false := by rfl) : PE X (.Call (.Name x p) (e :: es) [] pos) (tE C W (mCallB h fa)) :=
  PE.imp (pe_callTy hc hg hm hv ha hn hdb he hpl) fun σ H Q w => tCB1 ok σ H Q w
theorem OVs.one {K : PySem.W.Frag} {Pm : List Addr} {H : Hp} {vs : List V} {d : D × Md} (h : OVs K Pm H vs [d]) : ∃ v, vs = [v] ∧ OV K Pm H d.2 v d.1 := by
  match vs, h with
  | [v], h => exact ⟨v, rfl, h.1⟩
theorem OVs.two {K : PySem.W.Frag} {Pm : List Addr} {H : Hp} {vs : List V} {d d2 : D × Md} (h : OVs K Pm H vs [d, d2]) : ∃ v v2, vs = [v, v2] ∧ OV K Pm H d.2 v d.1 ∧ OV K Pm H d2.2 v2 d2.1 := by
  match vs, h with
  | [v, v2], h => exact ⟨v, v2, rfl, h.1, h.2.1⟩
/-- len -/
def hLen : List (D × Md) → Option (D × Md)
  | [(.list ds, _)] => some (.int ds.length, .cl)
  | [(.tuple ds, _)] => some (.int ds.length, .cl)
  | [(.str s, _)] => if s.length ≤ sizeLine then some (.int s.length, .cl) else none
  | _ => none
def rLen2 (K : PySem.W.Frag) : List V → Hp → VK → Prop := fun xs H Q => (∃ p ys, xs = [.ref p] ∧ (SqL K H p ys ∨ SqT K H p ys) ∧ Q (.int ys.length) H) ∨ ∃ z, xs = [.str z] ∧ z.length ≤ sizeLine ∧ Q (.int z.length) H
theorem call_len2 : CallR X (.builtin "len") (rLen2 X.K) := call_len_seq.or call_len_str
theorem ok_len : CallOk C (rLen2 C.K) hLen := by
  intro Pm H vs ds d Q l tb ov e q
  unfold hLen at e
  split at e
  · cases e
    obtain ⟨v, rfl, o⟩ := ov.one
    obtain ⟨p, ws, rfl, hs, t, _⟩ := o.seqL
    exact .inl ⟨p, ws, rfl, .inl hs, by rw [t.length]; exact q _ H (Sm.refl _) tb (.int _)⟩
  · cases e
    obtain ⟨v, rfl, o⟩ := ov.one
    obtain ⟨p, ws, rfl, hs, t, _⟩ := o.seqT
    exact .inl ⟨p, ws, rfl, .inr hs, by rw [t.length]; exact q _ H (Sm.refl _) tb (.int _)⟩
  · split at e
    · rename_i hz
      cases e
      obtain ⟨v, rfl, o⟩ := ov.one
      exact .inr ⟨_, by rw [o.str], hz, q _ H (Sm.refl _) tb (.int _)⟩
    · cases e
  · cases e
/-- int of an int or a truth -/
def hInt : List (D × Md) → Option (D × Md)
  | [(.int i, _)] => some (.int i, .cl)
  | [(.bool b, _)] => some (.int (if b then 1 else 0), .cl)
  | _ => none
theorem ok_int1 : CallOk C (fun xs H Q => (∃ i, xs = [.int i] ∧ Q (.int i) H) ∨ ∃ k, xs = [.bl k] ∧ Q (.int (if k then 1 else 0)) H) hInt := by
  intro Pm H vs ds d Q l tb ov e q
  unfold hInt at e
  split at e
  · cases e
    obtain ⟨v, rfl, o⟩ := ov.one
    exact .inl ⟨_, by rw [o.int], q _ H (Sm.refl _) tb (.int _)⟩
  · cases e
    obtain ⟨v, rfl, o⟩ := ov.one
    exact .inr ⟨_, by rw [o.bool], q _ H (Sm.refl _) tb (.int _)⟩
  · cases e
/-- str of an int -/
def hStr : List (D × Md) → Option (D × Md)
  | [(.int i, _)] => if i.natAbs.log2 < 1920 then some (.str (toString i), .cl) else none
  | _ => none
theorem ok_str1 : CallOk C (fun xs H Q => ∃ i, xs = [.int i] ∧ i.natAbs.log2 < 1920 ∧ Q (.str (toString i)) H) hStr := by
  intro Pm H vs ds d Q l tb ov e q
  unfold hStr at e
  split at e
  · split at e
    · rename_i hz
      cases e
      obtain ⟨v, rfl, o⟩ := ov.one
      exact ⟨_, by rw [o.int], hz, q _ H (Sm.refl _) tb (.str _)⟩
    · cases e
  · cases e
def hMax2 : List (D × Md) → Option (D × Md)
  | [(.int i, _), (.int j, _)] => some (.int (if j > i then j else i), .cl)
  | _ => none
theorem ok_max2 : CallOk C (fun xs H Q => ∃ i j, xs = [.int i, .int j] ∧ Q (.int (if j > i then j else i)) H) hMax2 := by
  intro Pm H vs ds d Q l tb ov e q
  unfold hMax2 at e
  split at e
  · cases e
    obtain ⟨v, v2, rfl, o, o2⟩ := ov.two
    exact ⟨_, _, by rw [o.int, o2.int], q _ H (Sm.refl _) tb (.int _)⟩
  · cases e
def hMin2 : List (D × Md) → Option (D × Md)
  | [(.int i, _), (.int j, _)] => some (.int (if j < i then j else i), .cl)
  | _ => none
theorem ok_min2 : CallOk C (fun xs H Q => ∃ i j, xs = [.int i, .int j] ∧ Q (.int (if j < i then j else i)) H) hMin2 := by
  intro Pm H vs ds d Q l tb ov e q
  unfold hMin2 at e
  split at e
  · cases e
    obtain ⟨v, v2, rfl, o, o2⟩ := ov.two
    exact ⟨_, _, by rw [o.int, o2.int], q _ H (Sm.refl _) tb (.int _)⟩
  · cases e
def intsOf : List D → Option (List Int)
  | [] => some []
  | .int i :: r => (intsOf r).map (i :: ·)
  | _ => none
theorem intsOf_eq : ∀ {ds : List D} {ns : List Int}, intsOf ds = some ns → ds = ns.map PyData.int
  | [], ns, h => by cases h; rfl
  | .int i :: r, ns, h => by
    obtain ⟨ms, e, rfl⟩ := Option.map_eq_some_iff.mp (show (intsOf r).map (i :: ·) = some ns from h)
    rw [intsOf_eq e]; rfl
  | .none :: r, ns, h => by cases h
  | .bool _ :: r, ns, h => by cases h
  | .str _ :: r, ns, h => by cases h
  | .list _ :: r, ns, h => by cases h
  | .tuple _ :: r, ns, h => by cases h
  | .dict _ :: r, ns, h => by cases h
theorem intsOf_map (ns : List Int) : intsOf (ns.map PyData.int) = some ns := by
  induction ns with
  | nil => rfl
  | cons i r ih => show (intsOf (r.map PyData.int)).map (i :: ·) = _; rw [ih]; rfl
def maxI : List Int → Int
  | [] => 0
  | [x] => x
  | x :: y :: r => let m := maxI (y :: r); if m ≤ x then x else m
theorem maxI_mem : ∀ {l : List Int}, l ≠ [] → maxI l ∈ l
  | [], h => absurd rfl h
  | [x], _ => by simp [maxI]
  | x :: y :: r, _ => by
    have ih := maxI_mem (l := y :: r) (by simp)
    unfold maxI
    dsimp only
    split
    · exact List.mem_cons_self
    · exact List.mem_cons_of_mem _ ih
theorem maxI_le : ∀ {l : List Int} {x : Int}, x ∈ l → x ≤ maxI l
  | [], _, h => by simp at h
  | [y], x, h => by
    have : x = y := by simpa using h
    rw [this]; exact Int.le_refl _
  | y :: z :: r, x, h => by
    unfold maxI
    dsimp only
    rcases List.mem_cons.mp h with (rfl | h)
    · split <;> omega
    · have ih := maxI_le h
      split <;> omega
def hMaxL : List (D × Md) → Option (D × Md)
  | [(.list ds, _)] => match intsOf ds with
    | some (n :: r) => some (.int (maxI (n :: r)), .cl)
    | _ => none
  | _ => none
theorem ok_maxL : CallOk C (rMax C.K) hMaxL := by
  intro Pm H vs ds d Q l tb ov e q
  unfold hMaxL at e
  split at e
  · rename_i ds m
    split at e
    · rename_i n r he
      cases e
      obtain ⟨v, rfl, o⟩ := ov.one
      obtain ⟨p, ws, rfl, hs, t, _⟩ := o.seqL
      rw [intsOf_eq he] at t
      rw [t.ints] at hs
      refine ⟨p, n :: r, rfl, hs, by simp, fun m hm hl => ?_⟩
      have e1 : m = maxI (n :: r) := Int.le_antisymm (maxI_le hm) (hl _ (maxI_mem (by simp)))
      rw [e1]
      exact q _ H (Sm.refl _) tb (.int _)
    · cases e
  · cases e
/-- list of a list or tuple -/
def hListOf : List (D × Md) → Option (D × Md)
  | [(.list ds, m)] => if itCl m = true ∨ lfs ds = true then some (.list ds, .fr) else none
  | [(.tuple ds, m)] => if itCl m = true ∨ lfs ds = true then some (.list ds, .fr) else none
  | _ => none
theorem ok_listOf : CallOk C (fun xs H Q => ∃ p ys, xs = [.ref p] ∧ (SqL C.K H p ys ∨ SqT C.K H p ys) ∧ ∀ l, H l = none → Q (.ref l) (upd H l (.lst ys))) hListOf := by
  intro Pm H vs ds d Q l tb ov e q
  unfold hListOf at e
  split at e
  · split at e
    · rename_i hc
      cases e
      obtain ⟨v, rfl, o⟩ := ov.one
      obtain ⟨p, ws, rfl, hs, t, c⟩ := o.seqL
      refine ⟨p, ws, rfl, .inl hs, fun r hr => new_fr tb hr ?_ q⟩
      rcases hc with z | z
      · exact c z
      · exact TrAll.lfMask l t z
    · cases e
  · split at e
    · rename_i hc
      cases e
      obtain ⟨v, rfl, o⟩ := ov.one
      obtain ⟨p, ws, rfl, hs, t, c⟩ := o.seqT
      refine ⟨p, ws, rfl, .inr hs, fun r hr => new_fr tb hr ?_ q⟩
      rcases hc with z | z
      · exact c z
      · exact TrAll.lfMask l t z
    · cases e
  · cases e

/-! ### isinstance -/
def nameD : D → String
  | .none => "NoneType"
  | .bool _ => "bool"
  | .int _ => "int"
  | .str _ => "str"
  | .list _ => "list"
  | .tuple _ => "tuple"
  | .dict _ => "dict"
theorem OV.ty {K : PySem.W.Frag} {Pm : List Addr} {H : Hp} {m : Md} {x : V} {d : D} (o : OV K Pm H m x d) : TyX K H x (.type (nameD d)) := by
  by_cases n : m = .fz
  · subst n
    cases o with
    | lst e f =>
      rcases e with ⟨ob, e⟩ | ⟨ob, its, n, hk, hc, _⟩
      · exact .base (.frz e)
      · exact .kList hk hc
    | tup e f =>
      obtain ⟨ob, its, n, hk, hc, _⟩ := e
      exact .kTuple hk hc
  · have t := o.tr n
    cases t with
    | non => exact .base .non
    | bl b => exact .base (.bl b)
    | int i => exact .base (.int i)
    | str i => exact .base (.str i)
    | lst e t => exact .base (.lst e)
    | tup e t => exact .base (.tup e)
def isD (ty : String) : D → Bool
  | .none => ty == "NoneType"
  | .bool _ => ty == "bool" || ty == "int"
  | .int _ => ty == "int"
  | .str _ => ty == "str"
  | .list _ => ty == "list"
  | .tuple _ => ty == "tuple"
  | .dict _ => ty == "dict"
def TyOk (ty : String) : Prop := ty ∈ ["str", "int", "bool", "list", "tuple"]
theorem kit_all : ∀ ty ∈ ["str", "int", "bool", "list", "tuple"], kitB "NoneType" ty = some (ty == "NoneType") ∧ kitB "bool" ty = some (ty == "bool" || ty == "int") ∧ kitB "int" ty = some (ty == "int") ∧ kitB "str" ty = some (ty == "str") ∧
    kitB "list" ty = some (ty == "list") ∧ kitB "tuple" ty = some (ty == "tuple") ∧ kitB "dict" ty = some (ty == "dict") := by decide +kernel
theorem kit_isD {K : PySem.W.Frag} {ty : String} (h : TyOk ty) (d : D) : PySem.W.kitOne K (.type (nameD d)) (.type ty) = some (isD ty d) := by
  obtain ⟨h1, h2, h3, h4, h5, h6, h7⟩ := kit_all ty h
  cases d with
  | none => exact kit_ty h1
  | bool _ => exact kit_ty h2
  | int _ => exact kit_ty h3
  | str _ => exact kit_ty h4
  | list _ => exact kit_ty h5
  | tuple _ => exact kit_ty h6
  | dict _ => exact kit_ty h7
def mIsi (ty : String) (f : CV → Rs (D × Md)) : CV → Rs (D × Md) := fun ρ => (f ρ).bind fun x => .ok (.bool (isD ty x.1), .cl)
theorem se_isi {ty : String} {tn : Str} {p p2 : Pos} (hty : TyOk ty) (hm : X.mg "isinstance" = none) (hm2 : X.mg tn = none) (hv2 : bootBuiltins tn = some (.type ty)) (ha : PE X e (tE C W f)) (hK : X.K = C.K) (hg : Gl X "isinstance" := by rfl) (hg2 : Gl X tn := by rfl) (hn2 : tn ≠ "__name__" := by decide) (hd2 : (tn == ("__debug__" : Str)) = false := by decide)
    (he : starEach [e, .Name tn p2] X.env = (false, eval e X.env) :: starEach [.Name tn p2] X.env := by rfl) (he2 : starEach [.Name tn p2] X.env = (false, eval (.Name tn p2) X.env) :: starEach [] X.env := by rfl)
    (hpl : (backTo pos (starEach [.Name tn p2] X.env)).any (·.1) = false := by rfl) : PE X (.Call (.Name "isinstance" p) [e, .Name tn p2] [] pos) (tE C W (mIsi ty f)) :=
  PE.imp (pe_callB call_isi hg hm (by decide +kernel) (pa_cons ha (pa_cons (pe_bltn (v := .ty ty) hg2 hm2 hv2 rfl hn2 hd2) pa_nil he2) he) (by decide) (by decide) he hpl) fun σ H Q w => by
    obtain ⟨B, P, ρ, hio, re, w⟩ := w
    refine tE_then hio re w fun d m v H1 s re1 vr w1 => ?_
    have o := VR.ov re.lst vr
    exact ⟨v, .ty ty, .type (nameD d), .type ty, isD ty d, rfl, .ty ty, by rw [hK]; exact o.ty, kit_isD hty d, w1 _ H1 (Sm.refl _) re1.tab (.bl _)⟩

/-! ### displays -/
def okEl (x : D × Md) : Bool := isCl x.2 || (decide (x.2 ≠ .fz) && lf x.1)
theorem OV.el {K : PySem.W.Frag} {Pm : List Addr} {H : Hp} {x : D × Md} {v : V} (l : Lsts Pm H) (o : OV K Pm H x.2 v x.1) (h : okEl x = true) : Tr (mask Pm H) v x.1 := by
  unfold okEl at h
  rw [Bool.or_eq_true, Bool.and_eq_true, decide_eq_true_eq] at h
  rcases h with h | ⟨h1, h2⟩
  · exact o.clean h
  · exact (o.tr h1).lfMask l h2
theorem OVs.el {K : PySem.W.Frag} {Pm : List Addr} {H : Hp} (l : Lsts Pm H) : ∀ {vs : List V} {ds : List (D × Md)}, OVs K Pm H vs ds → ds.all okEl = true → TrAll (mask Pm H) vs (ds.map (·.1))
  | [], [], _, _ => .nil
  | v :: vs, d :: ds, h, a => by
    rw [List.all_cons, Bool.and_eq_true] at a
    exact .cons (h.1.el l a.1) (OVs.el l h.2 a.2)
  | [], _ :: _, h, _ => h.elim
  | _ :: _, [], h, _ => h.elim
def mTup (fa : CV → Rs (List (D × Md))) : CV → Rs (D × Md) := fun ρ => (fa ρ).bind fun ds => if ds.all okEl = true ∧ ds.length ≤ 1000 then .ok (.tuple (ds.map (·.1)), .cl) else .no
def mLst (fa : CV → Rs (List (D × Md))) : CV → Rs (D × Md) := fun ρ => (fa ρ).bind fun ds => if ds.all okEl = true ∧ ds.length ≤ 1000 then .ok (.list (ds.map (·.1)), .fr) else .no
theorem le_line {n : Nat} (h : n ≤ 1000) : n ≤ sizeLine := Nat.le_of_lt (small1000 h)
theorem se_tup {k : Nat} (ha : PA X es (tA C W fa)) : PE X (.Tuple es k pos) (tE C W (mTup fa)) := PE.imp (pe_tup ha) fun σ H Q w => by
  obtain ⟨B, P, ρ, hio, re, w⟩ := w
  refine tA_then hio re w fun ds vs H1 s re1 ov w1 => ?_
  split at w1
  · rename_i hz
    have t := ov.el re1.lst hz.1
    refine ⟨le_line (by rw [t.length, List.length_map]; exact hz.2), fun p hp => new_tup (C := C) (Pm := B.M ++ P) re1.lst re1.tab hp t w1⟩
  · exact w1.elim
theorem se_lst (ha : PA X es (tA C W fa)) : PE X (.List es pos) (tE C W (mLst fa)) := PE.imp (pe_lst ha) fun σ H Q w => by
  obtain ⟨B, P, ρ, hio, re, w⟩ := w
  refine tA_then hio re w fun ds vs H1 s re1 ov w1 => ?_
  split at w1
  · rename_i hz
    have t := ov.el re1.lst hz.1
    refine ⟨le_line (by rw [t.length, List.length_map]; exact hz.2), fun p hp => new_fr (C := C) (Pm := B.M ++ P) re1.tab hp t w1⟩
  · exact w1.elim

/-! ### texts -/
def strsOf : List D → Option (List Str)
  | [] => some []
  | .str i :: r => (strsOf r).map (i :: ·)
  | _ => none
theorem strsOf_eq : ∀ {ds : List D} {ns : List Str}, strsOf ds = some ns → ds = ns.map PyData.str
  | [], ns, h => by cases h; rfl
  | .str i :: r, ns, h => by
    obtain ⟨ms, e, rfl⟩ := Option.map_eq_some_iff.mp (show (strsOf r).map (i :: ·) = some ns from h)
    rw [strsOf_eq e]; rfl
  | .none :: r, ns, h => by cases h
  | .bool _ :: r, ns, h => by cases h
  | .int _ :: r, ns, h => by cases h
  | .list _ :: r, ns, h => by cases h
  | .tuple _ :: r, ns, h => by cases h
  | .dict _ :: r, ns, h => by cases h
theorem strsOf_map (ns : List Str) : strsOf (ns.map PyData.str) = some ns := by
  induction ns with
  | nil => rfl
  | cons i r ih => show (strsOf (r.map PyData.str)).map (i :: ·) = _; rw [ih]; rfl
def hJoin (a : Str) (y : D × Md) : Option (D × Md) := match y.1 with
  | .list ds => match strsOf ds with
    | some ys => if (ys.map (·.length)).sum + ys.length * a.length ≤ 16777216 then some (.str (Txt.join a ys), .cl) else none
    | none => none
  | _ => none
/-- a method of a text: what follows is asked once the text is known -/
def mStrM (f : CV → Rs (D × Md)) (k : Str → CV → Rs (D × Md)) : CV → Rs (D × Md) := fun ρ => (f ρ).bind fun x => match x.1 with
  | .str a => k a ρ
  | _ => .no
theorem se_join {o : Expr} {apos cpos : Pos} (ho : PE X o (tE C W f)) (ha : PE X e (tE C W g)) (hK : X.K = C.K) (hs : starEach [e] X.env = [(false, eval e X.env)] := by rfl) (hbase : attributeBase o "join" X.env (eval o X.env) = eval o X.env := by rfl) (hline : (apos.endLine == cpos.line) = true := by rfl) :
    PE X (.Call (.Attribute o "join" apos) [e] [] cpos) (tE C W (mStrM f fun a => mUn (hJoin a) g)) := PE.imp (pe_join ho ha hs hbase hline) fun σ H Q w => by
  obtain ⟨B, P, ρ, hio, re, w⟩ := w
  refine tE_then hio re w fun d m v H1 s re1 vr w1 => ?_
  have o1 := VR.ov re.lst vr
  cases d <;> try exact w1.elim
  rename_i a
  have e1 := o1.str
  subst e1
  refine ⟨⟨a, rfl⟩, tE_then hio re1 w1 fun d2 m2 v2 H2 s2 re2 vr2 w2 => ?_⟩
  have o2 := VR.ov re1.lst vr2
  cases ej : hJoin a (d2, m2) with
  | none => rw [ej] at w2; exact w2.elim
  | some z =>
    rw [ej] at w2
    unfold hJoin at ej
    dsimp only at ej o2
    split at ej
    · rename_i ds
      split at ej
      · rename_i ys hy
        split at ej
        · rename_i hz
          cases ej
          obtain ⟨p, ws, rfl, hs, t, _⟩ := o2.seqL
          rw [strsOf_eq hy] at t
          rw [t.strs] at hs
          exact ⟨a, p, ys, rfl, rfl, .inl (by rw [hK]; exact hs), hz, w2 _ H2 (Sm.refl _) re2.tab (.str _)⟩
        · cases ej
      · cases ej
    · cases ej
/-- s.split() -/
def hWords (a : Str) : Option (D × Md) := if a.length + 2 ≤ sizeLine then some (.list ((Txt.words a).map PyData.str), .fr) else none
theorem se_words {o : Expr} {apos cpos : Pos} (ho : PE X o (tE C W f)) (hbase : attributeBase o "split" X.env (eval o X.env) = eval o X.env := by rfl) (hline : (apos.endLine == cpos.line) = true := by rfl) :
    PE X (.Call (.Attribute o "split" apos) [] [] cpos) (tE C W (mStrM f fun a _ => ofO (hWords a))) := PE.imp (pe_words ho hbase hline) fun σ H Q w => by
  obtain ⟨B, P, ρ, hio, re, w⟩ := w
  refine tE_then hio re w fun d m v H1 s re1 vr w1 => ?_
  have o1 := VR.ov re.lst vr
  cases d <;> try exact w1.elim
  rename_i a
  have e1 := o1.str
  subst e1
  refine ⟨⟨a, rfl⟩, a, rfl, rfl, ?_⟩
  cases eh : hWords a with
  | none =>
    have w1 : ER C W σ H1 (B.M ++ P) Q (ofO (hWords a)) := w1
    rw [eh] at w1; exact w1.elim
  | some z =>
    have w1 : ER C W σ H1 (B.M ++ P) Q (ofO (hWords a)) := w1
    rw [eh] at w1
    unfold hWords at eh
    split at eh
    · rename_i hz
      cases eh
      refine ⟨hz, fun p hp => new_fr (C := C) (Pm := B.M ++ P) re1.tab hp (trAll_strs _) w1⟩
    · cases eh
end
end Eng

set_option Elab.async false
set_option linter.all false
set_option maxRecDepth 100000
set_option maxHeartbeats 1234567
namespace Eng
open PySem PySem.Spec
open PyProof.Rows L2

section
variable {K : PySem.W.Frag} {T : List Addr} {B : Bs} {P P' : List Addr} {H H' H1 : Hp} {σ σ' : St} {ρ ρ' : CV}
/-- a new list that no slot holds -/
theorem RE0.addP (r : RE0 K T B P H σ ρ) (s : Sm H H') (tb : Tab T H') {p : Addr} {vs : List V} (hp : H p = none) (hp' : H' p = some (.lst vs)) : RE0 K T B (p :: P) H' σ ρ := by
  have le : SeqLe (mask (B.M ++ P) H) (mask (B.M ++ p :: P) H') := by
    have key : ∀ a, a ∉ B.M ++ P → H a ≠ none → a ∉ B.M ++ p :: P := fun a h1 h2 z => by
      simp only [List.mem_append, List.mem_cons] at z h1
      rcases z with z | z | z
      · exact h1 (.inl z)
      · rw [z] at h2; exact h2 hp
      · exact h1 (.inr z)
    refine ⟨fun a xs e => ?_, fun a xs e => ?_⟩
    · obtain ⟨h1, h2⟩ := mask_some e
      rw [mask_out (key a h1 (by rw [h2]; simp))]
      exact s.lst h2
    · obtain ⟨h1, h2⟩ := mask_some e
      rw [mask_out (key a h1 (by rw [h2]; simp))]
      exact s.tup h2
  have u := r.sm s tb
  refine ⟨r.len, fun j e h => ?_, fun j e h => ?_, u.fz, r.sep, u.keep, fun q hq => ?_, fun q hq => ?_, u.iol, r.io0, r.ios, r.ioo, tb⟩
  · obtain ⟨v, h1, h2⟩ := r.val j e h
    exact ⟨v, h1, Tr.mono le _ _ h2⟩
  · obtain ⟨q, ws, h1, h2, h3, h4, h5⟩ := r.own j e h
    exact ⟨q, ws, h1, List.mem_cons_of_mem _ h2, h3, s.lst h4, TrAll.mono le _ _ h5⟩
  · rcases List.mem_cons.mp hq with (rfl | hq)
    · exact .inr (r.fresh0 hp)
    · exact r.new q hq
  · simp only [List.mem_append, List.mem_cons] at hq
    rcases hq with z | rfl | z
    · exact (r.lst.sm s) q (List.mem_append_left _ z)
    · exact ⟨_, hp', .lst⟩
    · exact (r.lst.sm s) q (List.mem_append_right _ z)
/-- a free owned list is changed -/
theorem RE0.mutFree (r : RE0 K T B P H σ ρ) {p : Addr} {vs vs' : List V} (hp : p ∈ P) (hn : p ∉ B.ch) (h : H p = some (.lst vs)) (free : ∀ (i : Nat) (ds : List D), ρ[i]? = some (.own ds) → σ[i]? ≠ some (some (.ref p))) : RE0 K T B P (upd H p (.lst vs')) σ ρ := by
  have me : mask (B.M ++ P) (upd H p (.lst vs')) = mask (B.M ++ P) H := mask_upd (List.mem_append_right _ hp)
  have lst : ∀ (S : List Addr), Lsts S H → Lsts S (upd H p (.lst vs')) := fun S l q hq => by
    by_cases e : q = p
    · exact ⟨_, by rw [e, upd_same], .lst⟩
    · obtain ⟨ws, g, c⟩ := l q hq
      exact ⟨ws, by rw [upd_ne e]; exact g, c⟩
  refine ⟨r.len, fun j e g => by rw [me]; exact r.val j e g, fun j e g => ?_, fun j e g => ?_, r.sep, fun a o e hna => ?_, r.new, lst _ r.lst, lst _ r.iol, r.io0, r.ios, r.ioo, r.tab.upd fun ps e => by rw [h] at e; cases e⟩
  · obtain ⟨q, ws, g1, g2, g3, g4, g5⟩ := r.own j e g
    have ne : q ≠ p := fun z => by
      subst z
      exact free j e g g1
    exact ⟨q, ws, g1, g2, g3, by rw [upd_ne ne]; exact g4, by rw [me]; exact g5⟩
  · obtain ⟨v, g1, g2⟩ := r.fz j e g
    exact ⟨v, g1, g2.upd h⟩
  · have ne : a ≠ p := fun z => by
      subst z
      rcases r.new _ hp with w | w
      · exact hn w
      · rw [e] at w; cases w
    rw [upd_ne ne]
    exact r.keep a o e hna
theorem RE.addP (r : RE K T B P H σ ρ) (s : Sm H H') (tb : Tab T H') {p : Addr} {vs : List V} (hp : H p = none) (hp' : H' p = some (.lst vs)) : RE K T B (p :: P) H' σ ρ :=
  ⟨r.vok.eq (.sm s) fun _ _ _ _ h _ => List.mem_cons_of_mem _ h, by rw [vw_eq r.vok (.sm s)]; exact r.z.addP s tb hp hp'⟩
theorem RE.mutFree (r : RE K T B P H σ ρ) {p : Addr} {vs vs' : List V} (hp : p ∈ P) (hn : p ∉ B.ch) (h : H p = some (.lst vs)) (free : ∀ (i : Nat) (ds : List D), ρ[i]? = some (.own ds) → (vw B H σ)[i]? ≠ some (some (.ref p))) : RE K T B P (upd H p (.lst vs')) σ ρ := by
  have ie : InsEq H (upd H p (.lst vs')) := .upd fun _ _ _ z => by rw [h] at z; cases z
  exact ⟨r.vok.eq ie fun _ _ _ _ h _ => h, by rw [vw_eq r.vok ie]; exact r.z.mutFree hp hn h free⟩
end

/-! ### list comprehensions -/
def noEr {α : Type} : Rs α → Rs α
  | .er _ => .no
  | r => r
def lcL (i : Nat) (tst : CV → Rs Bool) (el : CV → Rs (D × Md)) (ρ : CV) : List D → Option (List D)
  | [] => some []
  | d :: ds => match tst (ρ.set i (.val d)) with
    | .ok true => match el (ρ.set i (.val d)) with
      | .ok x => if okEl x = true then (lcL i tst el ρ ds).map (x.1 :: ·) else none
      | _ => none
    | .ok false => lcL i tst el ρ ds
    | _ => none
def mLc (i : Nat) (it : CV → Rs (List D)) (tst : CV → Rs Bool) (el : CV → Rs (D × Md)) : CV → Rs (D × Md) := fun ρ => (it ρ).bind fun ds =>
  if ds.length ≤ 1000000 then ofO ((lcL i tst el (ρ.set i .un) ds).map fun out => (.list out, .fr)) else .no
abbrev W0 : WX := fun _ _ _ _ => False
section
variable {X : Cx} {C : Cf} {W : WX} {e a b elt : Expr} {es ifs : List Expr} {st : Stmt} {rest body : List Stmt} {f g el : CV → Rs (D × Md)} {t tst : CV → Rs Bool} {u w : CV → Out} {fa : CV → Rs (List (D × Md))} {it : CV → Rs (List D)} {pos : Pos}
def mTrue : CV → Rs Bool := fun _ => .ok true
theorem PTs.imp {e : List Expr} {t t' : TT} (h : PTs X e t) (i : ∀ σ H Q, t' σ H Q → t σ H Q) : PTs X e t' := ⟨fun pins s σ H Q I w => h.run pins s σ H Q I (i σ H Q w)⟩
theorem sts_nil : PTs X [] (tT C W mTrue) := PTs.imp pts_nil fun σ H Q h => by
  obtain ⟨B, P, ρ, hio, re, h⟩ := h
  exact h H (Sm.refl _) re.tab
theorem sts_one {c : Expr} (h : PT X c (tT C W t)) : PTs X [c] (tT C W t) := pts_one h
theorem lcL_len {i : Nat} {ρ : CV} : ∀ {ds out : List D}, lcL i tst el ρ ds = some out → out.length ≤ ds.length
  | [], out, h => by cases h; exact Nat.le_refl _
  | d :: ds, out, h => by
    unfold lcL at h
    split at h
    · split at h
      · split at h
        · obtain ⟨r, e, rfl⟩ := Option.map_eq_some_iff.mp h
          have := lcL_len e
          (simp only [List.length_cons]); omega
        · cases h
      · cases h
    · have := lcL_len h
      (simp only [List.length_cons]); omega
    · cases h
theorem lc_sem {i : Nat} {x : Str} {B : Bs} {P : List Addr} {ρ : CV} {σ : St} {H : Hp} {Q : VK} (hio : Lk B C) (hi : ¬ B.ro i) (hch : B.ch ⊆ P ∨ True) (re : RE C.K C.T B P H σ ρ) (w : ER C W σ H (B.M ++ P) Q (mLc i it tst el ρ)) :
    tLc (tI C W it) (gName i) (tT C W0 tst) (tE C W0 el) [i] σ H Q := by
  refine ⟨B, P, ρ, hio, re, ?_⟩
  unfold mLc at w
  cases ei : it ρ with
  | er c => rw [ei] at w; exact w
  | no => rw [ei] at w; exact w
  | ok ds =>
    rw [ei] at w
    dsimp only [Rs.bind] at w
    split at w
    · rename_i hlen
      cases el0 : lcL i tst el (ρ.set i .un) ds with
      | none => rw [el0] at w; exact w.elim
      | some out =>
        rw [el0] at w
        have wq : ∀ v H', Sm H H' → Tab C.T H' → VR C.K (B.M ++ P) H H' .fr v (.list out) → Q v H' := w
        intro J H1 s1 tb1 itk D0 hD
        have re1 := re.sm s1 tb1
        have sD : Sm H1 (upd H1 D0 (.lst [])) := Sm.upd hD
        have reD := (re1.addP sD (tb1.new hD) hD upd_same).setUn (i := i) (o := none) hi
        have nch : D0 ∉ B.ch := fun z => by
          obtain ⟨o, e, _⟩ := re1.iol D0 z
          rw [hD] at e; cases e
        have free0 : ∀ (j : Nat) (fs : List D), ρ[j]? = some (.own fs) → (vw B H1 σ)[j]? ≠ some (some (.ref D0)) := fun j fs e z => by
          obtain ⟨q, vs, h1, _, _, h3, _⟩ := re1.z.own j fs e
          rw [z] at h1; cases h1
          rw [hD] at h3; cases h3
        have free : ∀ {H4 : Hp}, Sm H1 H4 → ∀ (j : Nat) (fs : List D), (ρ.set i .un)[j]? = some (.own fs) → (vw B H4 (σ.set i none))[j]? ≠ some (some (.ref D0)) := fun {H4} s4 j fs e => by
          rw [vw_eq (re1.vok.set hi) (.sm s4), vw_set re1.vok hi]
          by_cases hj : i = j
          · subst hj
            have hl : i < ρ.length := by
              have := (List.getElem?_eq_some_iff.mp e).1
              rwa [List.length_set] at this
            rw [List.getElem?_set_self hl] at e; cases e
          · rw [List.getElem?_set_ne hj] at e ⊢
            exact free0 j fs e
        have ew : wipe σ [i] = σ.set i none := rfl
        refine ⟨fun j m H' => m = ds.length - j ∧ j ≤ ds.length ∧ Sm H1 H' ∧ RE C.K C.T B (D0 :: P) H' (σ.set i none) (ρ.set i .un) ∧ ∃ acc outs r, H' D0 = some (.lst acc) ∧ TrAll (mask (B.M ++ D0 :: P) H') acc outs ∧ outs.length ≤ j ∧ lcL i tst el (ρ.set i .un) (ds.drop j) = some r ∧ out = outs ++ r,
          ⟨ds.length, by simp, Nat.zero_le _, sD, reD, [], [], out, upd_same, .nil, Nat.le_refl _, el0, rfl⟩, ?_⟩
        rintro j m H' ⟨rfl, hj, sm', re', acc, outs, r, hacc, tacc, hol, hr, ho⟩
        obtain ⟨items, stop⟩ := itk H' (B.M ++ D0 :: P) (fun a o e hn => sm' a o e) (fun p hp => by
          simp only [List.mem_append, List.mem_cons] at hp ⊢
          rcases hp with z | rfl | z
          · exact .inl (.inl z)
          · exact .inr hD
          · exact .inl (.inr z))
        by_cases hlt : j < ds.length
        · have e := List.getElem?_eq_getElem hlt
          obtain ⟨go, yl⟩ := items j _ e
          refine .inr ⟨go, fun H2 => Sm H1 H2 ∧ RE C.K C.T B (D0 :: P) H2 (σ.set i none) (ρ.set i .un) ∧ ∃ acc outs r, H2 D0 = some (.lst acc) ∧ TrAll (mask (B.M ++ D0 :: P) H2) acc outs ∧ outs.length ≤ j + 1 ∧ lcL i tst el (ρ.set i .un) (ds.drop (j + 1)) = some r ∧ out = outs ++ r,
            fun H2 hN => ⟨ds.length - (j + 1), by omega, rfl, hlt, hN⟩, fun x H2 y => ?_⟩
          obtain ⟨rfl, tx⟩ := yl x H2 y
          have ed : ds.drop j = ds[j] :: ds.drop (j + 1) := List.drop_eq_getElem_cons hlt
          rw [ed] at hr
          unfold lcL at hr
          have reV := re'.setVal (i := i) hi tx
          rw [List.set_set, List.set_set] at reV
          have hset : (wipe σ [i]).set i (some x) = σ.set i (some x) := by rw [ew, List.set_set]
          have eset : (ρ.set i .un).set i (.val ds[j]) = ρ.set i (.val ds[j]) := List.set_set ..
          rw [eset] at hr
          show wipe ((wipe σ [i]).set i (some x)) [i] = wipe σ [i] ∧ _
          rw [hset]
          refine ⟨by show (σ.set i (some x)).set i none = σ.set i none; rw [List.set_set], B, D0 :: P, ρ.set i (.val ds[j]), hio, reV, ?_⟩
          -- behind an expression
          have again : ∀ {H3 : Hp}, Sm H2 H3 → Tab C.T H3 → lcL i tst el (ρ.set i .un) (ds.drop (j + 1)) = some r → Sm H1 H3 ∧ RE C.K C.T B (D0 :: P) H3 (σ.set i none) (ρ.set i .un) ∧ ∃ acc outs r, H3 D0 = some (.lst acc) ∧ TrAll (mask (B.M ++ D0 :: P) H3) acc outs ∧ outs.length ≤ j + 1 ∧ lcL i tst el (ρ.set i .un) (ds.drop (j + 1)) = some r ∧ out = outs ++ r := fun {H3} s3 t3 hr' =>
            ⟨sm'.trans s3, re'.sm s3 t3, acc, outs, r, s3.lst hacc, TrAll.mono (s3.mask _) _ _ tacc, Nat.le_succ_of_le hol, hr', ho⟩
          cases et : tst (ρ.set i (.val ds[j])) with
          | er c => rw [et] at hr; cases hr
          | no => rw [et] at hr; cases hr
          | ok k =>
            rw [et] at hr
            intro H3 s3 t3
            cases k with
            | false => exact iteF (again s3 t3 hr)
            | true =>
              refine iteT ⟨B, D0 :: P, ρ.set i (.val ds[j]), hio, reV.sm s3 t3, ?_⟩
              dsimp only at hr
              cases ee : el (ρ.set i (.val ds[j])) with
              | er c => rw [ee] at hr; cases hr
              | no => rw [ee] at hr; cases hr
              | ok z =>
                rw [ee] at hr
                dsimp only at hr
                split at hr
                · rename_i hok
                  obtain ⟨r', hr', hrr⟩ := Option.map_eq_some_iff.mp hr
                  subst hrr
                  intro v H4 s4 t4 vr
                  have re4 := (re'.sm s3 t3).sm s4 t4
                  have s24 := s3.trans s4
                  have o4 := VR.ov (re'.sm s3 t3).lst vr
                  have tv := o4.el re4.lst hok
                  have hacc4 := s24.lst hacc
                  have tacc4 := TrAll.mono (s24.mask (B.M ++ D0 :: P)) _ _ tacc
                  refine ⟨acc, hacc4, ?_, ?_, re4.mutFree List.mem_cons_self nch hacc4 (free (sm'.trans s24)), acc ++ [v], outs ++ [z.1], r', upd_same, ?_, ?_, hr', ?_⟩
                  · have h1 : acc.length ≤ 1000000 := by rw [tacc.length]; omega
                    exact Nat.lt_of_le_of_lt h1 (by decide)
                  · intro a o eo
                    have ne : a ≠ D0 := fun z => by rw [z, hD] at eo; cases eo
                    rw [upd_ne ne]
                    exact (sm'.trans s24) a o eo
                  · rw [mask_upd (show D0 ∈ B.M ++ D0 :: P by simp)]
                    exact tacc4.append (.cons tv .nil)
                  · (rw [List.length_append, List.length_singleton]); omega
                  · rw [ho, List.append_assoc]; rfl
                · cases hr
        · have ej : j = ds.length := by omega
          subst ej
          rw [List.drop_length] at hr
          cases hr
          rw [List.append_nil] at ho
          subst ho
          refine .inl ⟨stop _ (Nat.le_refl _), wq _ H' (s1.trans sm') re'.tab ⟨D0, acc, out, rfl, rfl, s1.none hD, hacc, TrAll.mono (mask_anti fun a ha => ?_) _ _ tacc⟩⟩
          simp only [List.mem_append, List.mem_cons] at ha ⊢
          rcases ha with z | z | z
          · exact .inr (.inl z)
          · exact .inl z
          · exact .inr (.inr z)
    · exact w.elim
theorem se_lc (i : Nat) {x : Str} {p2 : Pos} {iter : Expr} {scope : Scope} (hc : X.calm = true) (hN : X.N.Nodup) (hi : PI X (.Name x p2) iter (tI C W it)) (ok : BlkOk X.N X.env.scope scope [(x, i)])
    (ht : ∀ (s : Shared) (H : Hp) (Ca : Addr) (cl : List (Str × Addr)) (fp : List Addr), PTs (X.blk s H scope (compEnvC scope cl Ca X.env) fp) ifs (tT C W0 tst))
    (he : ∀ (s : Shared) (H : Hp) (Ca : Addr) (cl : List (Str × Addr)) (fp : List Addr), PE (X.blk s H scope (compEnvC scope cl Ca X.env) fp) elt (tE C W0 el))
    (hx : X.N[i]? = some x := by rfl) (hv : ∀ (Ca : Addr) (cl : List (Str × Addr)), Loc (compEnvC scope cl Ca X.env).scope x := by intro _ _; first | exact Or.inl rfl | exact Or.inr rfl) (hf : ∀ (Ca : Addr) (cl : List (Str × Addr)), (scope.names.lookup x == some .cell) = true ∨ (compEnvC scope cl Ca X.env).scope.names.lookup x = some .local := by intro _ _; first | exact .inr rfl | exact .inl rfl)
    (hio : C.ro i = false := by rfl) (hs : ∀ x, foldedSetIterable iter X.env x = pure x := by intro _; rfl) :
    PE X (.ListComp elt [⟨.Name x p2, iter, ifs, 0⟩] scope pos) (tE C W (mLc i it tst el)) :=
  PE.imp (pe_lc (own := [(x, i)]) (g := gName i) hc hN hi ok (fun s H Ca cl fp => pg_name (i := i) hN hx (hv Ca cl) (hf Ca cl)) ht he hs) fun σ H Q h => by
    obtain ⟨B, P, ρ, hb, re, h⟩ := h
    have hi' : ¬ B.ro i := hb.ro hio
    exact lc_sem (x := x) hb hi' (.inr trivial) re h
theorem ss_setLc (j i : Nat) {x y : Str} {py p2 spos : Pos} {iter : Expr} {scope : Scope} (hc : X.calm = true) (hN : X.N.Nodup) (hi : PI X (.Name x p2) iter (tI C W it)) (ok : BlkOk X.N X.env.scope scope [(x, i)])
    (ht : ∀ (s : Shared) (H : Hp) (Ca : Addr) (cl : List (Str × Addr)) (fp : List Addr), PTs (X.blk s H scope (compEnvC scope cl Ca X.env) fp) ifs (tT C W0 tst))
    (he : ∀ (s : Shared) (H : Hp) (Ca : Addr) (cl : List (Str × Addr)) (fp : List Addr), PE (X.blk s H scope (compEnvC scope cl Ca X.env) fp) elt (tE C W0 el))
    (hsw : swapsWith (.ListComp elt [⟨.Name x p2, iter, ifs, 0⟩] scope pos) (some (.Name y py)) spos.line X.env = pure true)
    (hy : X.N[j]? = some y := by rfl) (hyl : X.env.scope.names.lookup y = some .local := by rfl)
    (hx : X.N[i]? = some x := by rfl) (hv : ∀ (Ca : Addr) (cl : List (Str × Addr)), Loc (compEnvC scope cl Ca X.env).scope x := by intro _ _; first | exact Or.inl rfl | exact Or.inr rfl) (hf : ∀ (Ca : Addr) (cl : List (Str × Addr)), (scope.names.lookup x == some .cell) = true ∨ (compEnvC scope cl Ca X.env).scope.names.lookup x = some .local := by intro _ _; first | exact .inr rfl | exact .inl rfl)
    (hio : C.ro i = false := by rfl) (hio2 : C.ro j = false := by rfl) (hs : ∀ x, foldedSetIterable iter X.env x = pure x := by intro _; rfl) :
    PS X (.Assign [.Name y py] (.ListComp elt [⟨.Name x p2, iter, ifs, 0⟩] scope pos) spos) (tS C W (sSet j (mLc i it tst el))) :=
  PS.imp (ps_setLc (own := [(x, i)]) (g := gName i) hc hN hy hyl hsw hi ok (fun s H Ca cl fp => pg_name (i := i) hN hx (hv Ca cl) (hf Ca cl)) ht he hs) fun D' σ H h => by
    obtain ⟨B, P, ρ, hb, re, h⟩ := h
    have hi' : ¬ B.ro i := hb.ro hio
    have hj' : ¬ B.ro j := hb.ro hio2
    refine lc_sem (W := W) (x := x) hb hi' (.inr trivial) re ?_
    unfold sSet at h
    cases e : mLc i it tst el ρ with
    | ok z =>
      obtain ⟨d, m⟩ := z
      rw [e] at h
      exact fun v H1 s t vr => setK_ok hj' re s (re.sm s t) vr h
    | er c => rw [e] at h; exact fun A H1 hm s t => h A P σ H1 hm (re.sm s t)
    | no => rw [e] at h; exact h
end
end Eng

set_option Elab.async false
set_option linter.all false
set_option maxRecDepth 100000
set_option maxHeartbeats 1234567
namespace Eng
open PySem PySem.Spec
open PyProof.Rows L2

/-! ### what changes an owned list -/
section
variable (C : Cf) (W : WX)
/-- an expression that may pop owned lists: its value stands apart from them -/
def XR (σ : St) (B : Bs) (P : List Addr) (Q : VK) : Rs (D × CV) → Prop
  | .ok (d, ρ') => ∀ v H', RE C.K C.T B P H' σ ρ' → Tr (mask (B.M ++ P) H') v d → Q v H'
  | .er c => False
  | .no => False
def tX (f : CV → Rs (D × CV)) : TE := fun σ H Q => ∃ B P ρ, Lk B C ∧ RE C.K C.T B P H σ ρ ∧ XR C σ B P Q (f ρ)
def XAR (σ : St) (B : Bs) (P : List Addr) (Q : List V → Hp → Prop) : Rs (List D × CV) → Prop
  | .ok (ds, ρ') => ∀ vs H', RE C.K C.T B P H' σ ρ' → TrAll (mask (B.M ++ P) H') vs ds → Q vs H'
  | .er c => False
  | .no => False
def tXA (f : CV → Rs (List D × CV)) : TA := fun σ H Q => ∃ B P ρ, Lk B C ∧ RE C.K C.T B P H σ ρ ∧ XAR C σ B P Q (f ρ)
end
section
variable {X : Cx} {C : Cf} {W : WX} {e a b : Expr} {es : List Expr} {st : Stmt} {rest body : List Stmt} {f g : CV → Rs (D × Md)} {t : CV → Rs Bool} {u w : CV → Out} {fx : CV → Rs (D × CV)} {fxa : CV → Rs (List D × CV)} {fa : CV → Rs (List (D × Md))} {pos : Pos}
def mLift (f : CV → Rs (D × Md)) : CV → Rs (D × CV) := fun ρ => match f ρ with
  | .ok x => if okEl x = true then .ok (x.1, ρ) else .no
  | _ => .no
theorem sx_lift (h : PE X e (tE C W f)) : PE X e (tX C (mLift f)) := PE.imp h fun σ H Q w => by
  obtain ⟨B, P, ρ, hio, re, w⟩ := w
  refine ⟨B, P, ρ, hio, re, ?_⟩
  unfold mLift at w
  cases ef : f ρ with
  | er c => rw [ef] at w; exact w.elim
  | no => rw [ef] at w; exact w.elim
  | ok x =>
    obtain ⟨d, m⟩ := x
    rw [ef] at w
    dsimp only at w
    split at w
    · rename_i hok
      intro v H1 s tb vr
      have re1 := re.sm s tb
      exact w v H1 re1 ((VR.ov re.lst vr).el re1.lst hok)
    · exact w.elim
def mPop (i : Nat) : CV → Rs (D × CV) := fun ρ => match ρ[i]? with
  | some (.own ds) => match ds[ds.length - 1]? with
    | some d => .ok (d, ρ.set i (.own ds.dropLast))
    | none => .no
  | _ => .no
theorem slot_own {B : Bs} {P : List Addr} {H : Hp} {σ : St} {ρ : CV} {i : Nat} {ds : List D} (hl : B.lc i) (re : RE C.K C.T B P H σ ρ) (h : ρ[i]? = some (.own ds)) : ∃ p vs, σ[i]? = some (some (.ref p)) ∧ H p = some (.lst vs) ∧ TrAll (mask (B.M ++ P) H) vs ds ∧ p ∈ P := by
  obtain ⟨p, vs, h1, h2, h3, h4, h5⟩ := re.own hl h
  exact ⟨p, vs, h1, h4, h5, h2⟩
theorem pop_tr {H : Hp} {vs : List V} {ds : List D} {d : D} (t : TrAll H vs ds) (e : ds[ds.length - 1]? = some d) : ∃ v, vs[vs.length - 1]? = some v ∧ Tr H v d := by
  rw [t.length]
  exact t.get e
theorem sx_pop (i : Nat) {x : Str} {p2 apos cpos : Pos} (hN : X.N[i]? = some x := by rfl) (hlc : C.lc i = true := by rfl) (hv : Vis X.env.scope x := by first | exact Or.inl rfl | exact Or.inr (Or.inl rfl) | exact Or.inr (Or.inr rfl)) (hd : (x == ("__debug__" : Str)) = false := by decide)
    (hcd : (x == ("__classdict__" : Str)) = false := by decide) (hbase : attributeBase (.Name x p2) "pop" X.env (eval (.Name x p2) X.env) = eval (.Name x p2) X.env := by rfl) (hline : (apos.endLine == cpos.line) = true := by rfl) :
    PE X (.Call (.Attribute (.Name x p2) "pop" apos) [] [] cpos) (tX C (mPop i)) :=
  PE.imp (pe_bm0 PySem.F.plainAttrs_list PySem.F.slot_list_pop PySem.F.type_list_pop mt_pop (pe_var (i := i) hN hv hd hcd) hbase hline) fun σ H Q w => by
    obtain ⟨B, P, ρ, hb, re, w⟩ := w
    unfold mPop at w
    split at w
    · rename_i ds e
      split at w
      · rename_i d ed
        obtain ⟨p, vs, h1, h2, h3, h4⟩ := slot_own (hb.lc hlc) re e
        obtain ⟨v, ev, tv⟩ := pop_tr h3 ed
        refine ⟨.ref p, h1, .inl ⟨rfl, vs, SqL.of h2⟩, p, vs, v, rfl, rfl, h2, ev, ?_⟩
        have re' := re.mutOwn (hb.lc hlc) e h1 h2 (TrAll.dropLast h3)
        exact w v _ re' (by rw [mask_upd (List.mem_append_right _ h4)]; exact tv)
      · exact w.elim
    · exact w.elim
def mNilX : CV → Rs (List D × CV) := fun ρ => .ok ([], ρ)
def mConsX (fx : CV → Rs (D × CV)) (fxa : CV → Rs (List D × CV)) : CV → Rs (List D × CV) := fun ρ => (fx ρ).bind fun x => (fxa x.2).bind fun y => .ok (x.1 :: y.1, y.2)
theorem sxa_nil : PA X [] (tXA C mNilX) := PA.imp pa_nil fun σ H Q w => by
  obtain ⟨B, P, ρ, hio, re, w⟩ := w
  exact w [] H re .nil
/-- what was there before stays while lists are popped -/
theorem sxa_cons (ha : PE X e (tX C fx)) (hr : PA X es (tXA C fxa)) (hs : starEach (e :: es) X.env = (false, eval e X.env) :: starEach es X.env := by rfl) : PA X (e :: es) (tXA C (mConsX fx fxa)) := PA.imp (pa_cons ha hr hs) fun σ H Q w => by
  obtain ⟨B, P, ρ, hio, re, w⟩ := w
  refine ⟨B, P, ρ, hio, re, ?_⟩
  unfold mConsX at w
  cases ex : fx ρ with
  | er c => rw [ex] at w; exact w.elim
  | no => rw [ex] at w; exact w.elim
  | ok x =>
    obtain ⟨d, ρ1⟩ := x
    rw [ex] at w
    dsimp only [Rs.bind] at w
    intro v H1 re1 tv
    -- the rest runs from a base here, so that what is no owned list stays
    refine ⟨B.here P H1, P, ρ1, ⟨hio.io, hio.ob⟩, re1.here, ?_⟩
    cases ey : fxa ρ1 with
    | er c => rw [ey] at w; exact w.elim
    | no => rw [ey] at w; exact w.elim
    | ok y =>
      obtain ⟨ds, ρ2⟩ := y
      rw [ey] at w
      intro vs H2 re2 tvs
      refine w (v :: vs) H2 (re1.back re2) (.cons ?_ tvs)
      refine Tr.mono (le_of_keep (P := P) (fun p hp => List.mem_append_right _ hp) (fun a o e hn => re2.keep a o e hn) (fun p hp => .inl hp)) _ _ tv
def mTupX (fxa : CV → Rs (List D × CV)) : CV → Rs (D × CV) := fun ρ => (fxa ρ).bind fun y => if y.1.length ≤ 1000 then .ok (.tuple y.1, y.2) else .no
theorem sx_tup {k : Nat} (ha : PA X es (tXA C fxa)) : PE X (.Tuple es k pos) (tX C (mTupX fxa)) := PE.imp (pe_tup ha) fun σ H Q w => by
  obtain ⟨B, P, ρ, hio, re, w⟩ := w
  refine ⟨B, P, ρ, hio, re, ?_⟩
  unfold mTupX at w
  cases ey : fxa ρ with
  | er c => rw [ey] at w; exact w.elim
  | no => rw [ey] at w; exact w.elim
  | ok y =>
    obtain ⟨ds, ρ1⟩ := y
    rw [ey] at w
    dsimp only [Rs.bind] at w
    intro vs H1 re1 tvs
    split at w
    · rename_i hz
      refine ⟨le_line (by rw [tvs.length]; exact hz), fun p hp => ?_⟩
      have s : Sm H1 (upd H1 p (.tup vs)) := Sm.upd hp
      refine w _ _ (re1.sm s (re1.tab.new hp)) (.tup (by rw [mask_out (lst_ne re1.lst hp), upd_same]) (TrAll.mono (s.mask _) _ _ tvs))
    · exact w.elim
/-- y = x.pop() and the like -/
def sSetX (j : Nat) (fx : CV → Rs (D × CV)) : CV → Out := fun ρ => match fx ρ with
  | .ok (d, ρ') => .nx (ρ'.set j (.val d))
  | _ => .no
theorem not_io {B : Bs} {i : Nat} (hb : Lk B C) (hio : C.ro i = false) : ¬ B.ro i := hb.ro hio
theorem ss_setX (i : Nat) {x : Str} {pos' : Pos} (hN : X.N.Nodup) (he : PE X e (tX C fx)) (hi : X.N[i]? = some x := by rfl) (hx : Loc X.env.scope x := by first | exact Or.inl rfl | exact Or.inr rfl) (hio : C.ro i = false := by rfl) (hs : swapsWith e (some (.Name x pos')) pos.line X.env = pure false := by rfl)
    (hf : X.fn x = true ∨ X.env.scope.names.lookup x = some .local := by first | exact .inl rfl | exact .inr rfl | assumption) :
    PS X (.Assign [.Name x pos'] e pos) (tS C W (sSetX i fx)) := PS.imp (ps_set hN hi hx he hs hf) fun D' σ H h => by
  obtain ⟨B, P, ρ, hb, re, h⟩ := h
  refine ⟨B, P, ρ, hb, re, ?_⟩
  unfold sSetX at h
  cases ef : fx ρ with
  | er c => rw [ef] at h; exact h.elim
  | no => rw [ef] at h; exact h.elim
  | ok y =>
    obtain ⟨d, ρ'⟩ := y
    rw [ef] at h
    exact fun v H1 re1 tv => h P _ H1 (re1.setVal (not_io hb hio) tv)
def sExprX (fx : CV → Rs (D × CV)) : CV → Out := fun ρ => match fx ρ with
  | .ok (_, ρ') => .nx ρ'
  | _ => .no
theorem ss_exprX (he : PE X e (tX C fx)) (hs : swapsWith e none pos.line X.env = pure false := by rfl) : PS X (.Expr e pos) (tS C W (sExprX fx)) := PS.imp (ps_expr he hs) fun D' σ H h => by
  obtain ⟨B, P, ρ, hb, re, h⟩ := h
  refine ⟨B, P, ρ, hb, re, ?_⟩
  unfold sExprX at h
  cases ef : fx ρ with
  | er c => rw [ef] at h; exact h.elim
  | no => rw [ef] at h; exact h.elim
  | ok y =>
    obtain ⟨d, ρ'⟩ := y
    rw [ef] at h
    exact fun v H1 re1 tv => h P _ H1 re1
/-- x.append(e) -/
def sApp (i : Nat) (fx : CV → Rs (D × CV)) : CV → Out := fun ρ => match ρ[i]? with
  | some (.own _) => match fx ρ with
    | .ok (d, ρ') => match ρ'[i]? with
      | some (.own ds) => if ds.length < 1000000 then .nx (ρ'.set i (.own (ds ++ [d]))) else .no
      | _ => .no
    | _ => .no
  | _ => .no
theorem ss_app (i : Nat) {x : Str} {p2 apos cpos : Pos} (ha : PE X e (tX C fx)) (hN : X.N[i]? = some x := by rfl) (hlc : C.lc i = true := by rfl) (hv : Vis X.env.scope x := by first | exact Or.inl rfl | exact Or.inr (Or.inl rfl) | exact Or.inr (Or.inr rfl)) (hd : (x == ("__debug__" : Str)) = false := by decide)
    (hcd : (x == ("__classdict__" : Str)) = false := by decide) (hbase : attributeBase (.Name x p2) "append" X.env (eval (.Name x p2) X.env) = eval (.Name x p2) X.env := by rfl)
    (hfew : ((backTo cpos (starEach [e] X.env)).all (fun x => !x.1) && (backToKw cpos (keywordEach [] X.env)).all (fun x => x.1.isSome) && decide (([e] : List Expr).length + ([] : List Keyword).length + (if ([] : List Keyword).isEmpty then 0 else 1) < 30)) = true := by rfl)
    (hline : (apos.endLine == cpos.line) = true := by rfl) (hs : starEach [e] X.env = (false, eval e X.env) :: starEach [] X.env := by rfl) (hplain : (backTo cpos (starEach [] X.env)).any (·.1) = false := by rfl)
    (hsw : swapsWith (.Call (.Attribute (.Name x p2) "append" apos) [e] [] cpos) none pos.line X.env = pure false := by rfl) : PS X (.Expr (.Call (.Attribute (.Name x p2) "append" apos) [e] [] cpos) pos) (tS C W (sApp i fx)) :=
  PS.imp (ps_expr (pe_bm PySem.F.plainAttrs_list PySem.F.slot_list_append PySem.F.type_list_append mt_append (pe_var (i := i) hN hv hd hcd) (pa_cons ha pa_nil hs) hbase hfew hline hs hplain) hsw) fun D' σ H h => by
    obtain ⟨B, P, ρ, hb, re, h⟩ := h
    unfold sApp at h
    split at h
    · rename_i ds0 e0
      obtain ⟨p, vs, h1, h2, h3, h4⟩ := slot_own (hb.lc hlc) re e0
      refine ⟨.ref p, h1, .inl ⟨rfl, vs, SqL.of h2⟩, B, P, ρ, hb, re, ?_⟩
      cases ef : fx ρ with
      | er c => rw [ef] at h; exact h.elim
      | no => rw [ef] at h; exact h.elim
      | ok y =>
        obtain ⟨d, ρ'⟩ := y
        rw [ef] at h
        dsimp only at h
        intro v H1 re1 tv
        split at h
        · rename_i ds e1
          split at h
          · rename_i hz
            obtain ⟨q, ws, g1, g2, g3, g4⟩ := slot_own (hb.lc hlc) re1 e1
            rw [h1] at g1
            cases g1
            refine ⟨p, ws, v, rfl, rfl, g2, ?_, h P σ _ (re1.mutOwn (hb.lc hlc) e1 h1 g2 (g3.append (.cons tv .nil)))⟩
            rw [g3.length]
            exact Nat.lt_trans hz (by decide)
          · exact h.elim
        · exact h.elim
    · exact h.elim
def sClear (i : Nat) : CV → Out := fun ρ => match ρ[i]? with
  | some (.own _) => .nx (ρ.set i (.own []))
  | _ => .no
theorem ss_clear (i : Nat) {x : Str} {p2 apos cpos : Pos} (hN : X.N[i]? = some x := by rfl) (hlc : C.lc i = true := by rfl) (hv : Vis X.env.scope x := by first | exact Or.inl rfl | exact Or.inr (Or.inl rfl) | exact Or.inr (Or.inr rfl)) (hd : (x == ("__debug__" : Str)) = false := by decide)
    (hcd : (x == ("__classdict__" : Str)) = false := by decide) (hbase : attributeBase (.Name x p2) "clear" X.env (eval (.Name x p2) X.env) = eval (.Name x p2) X.env := by rfl) (hline : (apos.endLine == cpos.line) = true := by rfl)
    (hsw : swapsWith (.Call (.Attribute (.Name x p2) "clear" apos) [] [] cpos) none pos.line X.env = pure false := by rfl) : PS X (.Expr (.Call (.Attribute (.Name x p2) "clear" apos) [] [] cpos) pos) (tS C W (sClear i)) :=
  PS.imp (ps_expr (pe_bm0 PySem.F.plainAttrs_list PySem.F.slot_list_clear PySem.F.type_list_clear mt_clear (pe_var (i := i) hN hv hd hcd) hbase hline) hsw) fun D' σ H h => by
    obtain ⟨B, P, ρ, hb, re, h⟩ := h
    unfold sClear at h
    split at h
    · rename_i ds0 e0
      obtain ⟨p, vs, h1, h2, h3, h4⟩ := slot_own (hb.lc hlc) re e0
      exact ⟨.ref p, h1, .inl ⟨rfl, vs, SqL.of h2⟩, p, vs, rfl, rfl, h2, h P σ _ (re.mutOwn (hb.lc hlc) e0 h1 h2 .nil)⟩
    · exact h.elim
/-- x[k] = e -/
def sSetIx (i : Nat) (fe fk : CV → Rs (D × Md)) : CV → Out := fun ρ => match fe ρ with
  | .ok x => if okEl x = true then (match fk ρ with
    | .ok (.int k, _) => (match ρ[i]? with
      | some (.own ds) => (match ixN ds.length k with
        | some j => .nx (ρ.set i (.own (ds.set j x.1)))
        | none => .no)
      | _ => .no)
    | _ => .no) else .no
  | _ => .no
theorem ss_setIx (i : Nat) {x : Str} {p2 p3 : Pos} {k : Expr} (he : PE X e (tE C W f)) (hk : PE X k (tE C W g)) (hN : X.N[i]? = some x := by rfl) (hlc : C.lc i = true := by rfl) (hv : Vis X.env.scope x := by first | exact Or.inl rfl | exact Or.inr (Or.inl rfl) | exact Or.inr (Or.inr rfl)) (hd : (x == ("__debug__" : Str)) = false := by decide)
    (hcd : (x == ("__classdict__" : Str)) = false := by decide)
    (ha : ∀ v, assign (.Subscript (.Name x p2) k p3) X.env v = (do let ov ← holding [v] (eval (.Name x p2) X.env); let iv ← holding [v, ov] (eval k X.env); standAt p3; holding [v, ov, iv] (setItem ov iv v); release [v, ov, iv] []) := by intro _; rfl)
    (hs : swapsWithSole [.Subscript (.Name x p2) k p3] e pos.line X.env = pure false := by rfl) (hw : swappedStores [.Subscript (.Name x p2) k p3] e X.env = pure none := by rfl)
    (h1 : (assignEach [.Subscript (.Name x p2) k p3] X.env).map (·.2) = [assign (.Subscript (.Name x p2) k p3) X.env] := by rfl) : PS X (.Assign [.Subscript (.Name x p2) k p3] e pos) (tS C W (sSetIx i f g)) :=
  PS.imp (ps_asg he (pg_sub (pe_var (i := i) hN hv hd hcd) hk set_list ha) hs hw h1) fun D' σ H h => by
    obtain ⟨B, P, ρ, hb, re, h⟩ := h
    refine ⟨B, P, ρ, hb, re, ?_⟩
    unfold sSetIx at h
    cases ef : f ρ with
    | er c => rw [ef] at h; exact h.elim
    | no => rw [ef] at h; exact h.elim
    | ok z =>
      obtain ⟨d, m⟩ := z
      rw [ef] at h
      dsimp only at h
      intro v H1 s tb vr
      have re1 := re.sm s tb
      have o1 := VR.ov re.lst vr
      split at h
      · rename_i hok
        cases eg : g ρ with
        | er c => rw [eg] at h; exact h.elim
        | no => rw [eg] at h; exact h.elim
        | ok z2 =>
          obtain ⟨d2, m2⟩ := z2
          rw [eg] at h
          cases d2 <;> try exact h.elim
          rename_i k0
          dsimp only at h
          split at h
          · rename_i ds ed
            split at h
            · rename_i j ej
              obtain ⟨p, vs, g1, g2, g3, g4⟩ := slot_own (hb.lc hlc) re1 ed
              refine ⟨.ref p, g1, B, P, ρ, hb, re1, ?_⟩
              rw [eg]
              intro v2 H2 s2 tb2 vr2
              have re2 := re1.sm s2 tb2
              have e2 := (VR.ov re1.lst vr2).int
              subst e2
              have tv := (o1.sm s2).el re2.lst hok
              have g3' := TrAll.mono (s2.mask (B.M ++ P)) _ _ g3
              refine ⟨p, vs, k0, j, rfl, rfl, s2.lst g2, by rw [g3.length]; exact ej, h P σ _ (re2.mutOwn (hb.lc hlc) ed g1 (s2.lst g2) (TrAll.set j g3' tv))⟩
            · exact h.elim
          · exact h.elim
      · exact h.elim
/-- a, b, .. = a tuple -/
def setAll : List Nat → List D → CV → CV
  | i :: is, d :: ds, ρ => setAll is ds (ρ.set i (.val d))
  | _, _, ρ => ρ
def sUnp (is : List Nat) (f : CV → Rs (D × Md)) : CV → Out := fun ρ => match f ρ with
  | .ok (.tuple ds, m) => if ds.length = is.length ∧ (itCl m = true ∨ lfs ds = true) then .nx (setAll is ds ρ) else .no
  | .er c => .er c ρ
  | _ => .no
/-- the targets of an unpacking: local names -/
inductive UnpT (X : Cx) : List Expr → List Nat → Prop
  | nil : UnpT X [] []
  | cons {x : Str} {p : Pos} {i : Nat} {es : List Expr} {is : List Nat} (hi : X.N[i]? = some x) (hx : Loc X.env.scope x) (hf : X.fn x = true ∨ X.env.scope.names.lookup x = some .local) (r : UnpT X es is) : UnpT X (.Name x p :: es) (i :: is)
def tgU : List Nat → TGs
  | [] => gNil
  | i :: is => gCons (gName i) (tgU is)
theorem unp_pg (hN : X.N.Nodup) : ∀ {es : List Expr} {is : List Nat}, UnpT X es is → PGs X es (tgU is)
  | _, _, .nil => pgs_nil
  | _, _, .cons hi hx hf r => pgs_cons (pg_name hN hi hx hf) (unp_pg hN r)
theorem unp_run {B : Bs} {P : List Addr} {H : Hp} (Qn : St → Hp → Prop) : ∀ (is : List Nat) (ds : List D) (vs : List V) (σ : St) (ρ : CV), (∀ i ∈ is, ¬ B.ro i) → ds.length = is.length → RE C.K C.T B P H σ ρ → TrAll (mask (B.M ++ P) H) vs ds →
    (∀ σ', RE C.K C.T B P H σ' (setAll is ds ρ) → Qn σ' H) → tgU is vs σ H Qn
  | [], [], vs, σ, ρ, _, _, re, t, q => by
    cases t
    exact ⟨rfl, q σ re⟩
  | i :: is, d :: ds, vs, σ, ρ, hi, hl, re, t, q => by
    cases t with
    | cons a t =>
      refine ⟨_, _, rfl, ?_⟩
      exact unp_run Qn is ds _ _ _ (fun j hj => hi j (List.mem_cons_of_mem _ hj)) (by simpa using hl) (re.setVal (hi i List.mem_cons_self) a) t q
  | [], _ :: _, _, _, _, _, hl, _, _, _ => by simp at hl
  | _ :: _, [], _, _, _, _, hl, _, _, _ => by simp at hl
theorem ss_unpG (is : List Nat) {k : Nat} {p2 : Pos} (hg : PG X (.Tuple es k p2) (gTup X.K is.length (tgU is))) (he : PE X e (tE C W f)) (hK : X.K = C.K) (hio : is.all (fun i => !C.ro i) = true := by rfl)
    (hs : swapsWithSole [.Tuple es k p2] e pos.line X.env = pure false := by rfl) (hw : swappedStores [.Tuple es k p2] e X.env = pure none := by rfl)
    (h1 : (assignEach [.Tuple es k p2] X.env).map (·.2) = [assign (.Tuple es k p2) X.env] := by rfl) : PS X (.Assign [.Tuple es k p2] e pos) (tS C W (sUnp is f)) :=
  PS.imp (ps_asg he hg hs hw h1) fun D' σ H h => by
    obtain ⟨B, P, ρ, hb, re, h⟩ := h
    refine ⟨B, P, ρ, hb, re, ?_⟩
    have hi : ∀ i ∈ is, ¬ B.ro i := fun i m => by
      have := List.all_eq_true.mp hio i m
      refine not_io (C := C) hb ?_
      cases hc : C.ro i
      · rfl
      · rw [hc] at this; cases this
    unfold sUnp at h
    cases ef : f ρ with
    | er c => rw [ef] at h; exact fun A H1 hm s tb => h A P σ H1 hm (re.sm s tb)
    | no => rw [ef] at h; exact h.elim
    | ok z =>
      obtain ⟨d, m⟩ := z
      rw [ef] at h
      intro v H1 s tb vr
      have re1 := re.sm s tb
      have o1 := VR.ov re.lst vr
      cases d <;> try exact h.elim
      dsimp only at h
      split at h
      · rename_i ds hz
        obtain ⟨p, vs, rfl, hsq, t, c⟩ := o1.seqT
        have tc : TrAll (mask (B.M ++ P) H1) vs ds := by
          rcases hz.2 with z | z
          · exact c z
          · exact TrAll.lfMask re1.lst t z
        refine ⟨p, vs, rfl, by rw [hK]; exact hsq, by rw [t.length]; exact hz.1, ?_⟩
        exact unp_run _ is ds vs σ ρ hi hz.1 re1 tc fun σ' re' => h P σ' H1 re'
      · exact h.elim
theorem ss_unp (is : List Nat) {k : Nat} {p2 : Pos} (hc : X.calm = true) (hN : X.N.Nodup) (he : PE X e (tE C W f)) (hK : X.K = C.K) (hu : UnpT X es is) (hio : is.all (fun i => !C.ro i) = true := by rfl) (hn : (assignEach es X.env).length = is.length := by rfl)
    (hst : (assignEach es X.env).findIdx? (·.1) = none := by rfl) (hs : swapsWithSole [.Tuple es k p2] e pos.line X.env = pure false := by rfl) (hw : swappedStores [.Tuple es k p2] e X.env = pure none := by rfl)
    (h1 : (assignEach [.Tuple es k p2] X.env).map (·.2) = [assign (.Tuple es k p2) X.env] := by rfl) : PS X (.Assign [.Tuple es k p2] e pos) (tS C W (sUnp is f)) :=
  ss_unpG is (pg_tup hc (unp_pg hN hu) hn hst) he hK hio hs hw h1
end
end Eng

set_option Elab.async false
set_option linter.all false
set_option maxRecDepth 100000
set_option maxHeartbeats 1234567
namespace Eng
open PySem PySem.Spec
open PyProof.Rows L2

/-! ### own defs -/
abbrev RF := Rs ((D × Md) × CV)
def fin (o : Out) : RF := match o with
  | .nx ρ => .ok ((.none, .cl), ρ)
  | .rt d m ρ => .ok ((d, m), ρ)
  | .er c _ => .er c
  | .ex c => .er c
  | _ => .no
/-- a def's mirror: n the slots, b the body's -/
def runB (n : Nat) (b : CV → Out) (args : CV) : RF := fin (b (args ++ List.replicate (n - args.length) .un))
section
variable (C : Cf)
def FR (B : Bs) (Q : VK) (E : XK) : RF → Prop
  | .ok ((d, m), ρ') => ∀ P' σ' H' v, RE C.K C.T B P' H' σ' ρ' → RV C.K B P' H' m v d → Q v H'
  | .er c => ∀ A P' σ' H' ρ', C.mg c = some (.ref A) → RE C.K C.T B P' H' σ' ρ' → E (.ref A) none H'
  | .no => False
def spM (n : Nat) (M : CV → RF) : Sp := fun vs H Q E => ∃ B P args, vs.length = n ∧ Lk B C ∧ B.H0 = H ∧ B.ch = B.io.map (·.2) ∧ RE C.K C.T B P H (vs.map some) args ∧ FR C B Q E (M args)
end
section
variable {P : Program} {w : World} {base : Heap} {K : PySem.W.Frag} {mg : Str → Option Value}
theorem map_getD {vs : List V} {i : Nat} {o : Option V} {N : List Str} (h : (vs.map some)[i]? = some o) : (L2.start N vs)[i]? = some o := by
  unfold L2.start
  have hi := (List.getElem?_eq_some_iff.mp h).1
  rw [List.getElem?_append_left hi]
  exact h
theorem RE0.entry {C : Cf} {B : Bs} {P : List Addr} {H : Hp} {vs : List V} {args : CV} {N : List Str} (re : RE0 C.K C.T B P H (vs.map some) args) (hl : vs.length ≤ N.length) : RE0 C.K C.T B P H (L2.start N vs) (args ++ List.replicate (N.length - args.length) .un) := by
  have la : args.length = vs.length := by rw [← re.len, List.length_map]
  have old : ∀ {i : Nat} {c : Cell}, (args ++ List.replicate (N.length - args.length) Cell.un)[i]? = some c → c ≠ .un → args[i]? = some c := fun {i c} h n => by
    by_cases hi : i < args.length
    · rwa [List.getElem?_append_left hi] at h
    · rw [List.getElem?_append_right (by omega), List.getElem?_replicate] at h
      split at h
      · cases h; exact absurd rfl n
      · cases h
  have slot : ∀ {i : Nat} {o : Option V}, (vs.map some)[i]? = some o → (L2.start N vs)[i]? = some o := fun h => map_getD h
  have slotB : ∀ {i : Nat} {c : Cell}, args[i]? = some c → (L2.start N vs)[i]? = (vs.map some)[i]? := fun {i c} h => by
    have hi : i < (vs.map some).length := by rw [re.len]; exact (List.getElem?_eq_some_iff.mp h).1
    unfold L2.start
    rw [List.getElem?_append_left hi]
  refine ⟨?_, fun i d e => ?_, fun i ds e => ?_, fun i d e => ?_, fun i j ds es p hij h1 h2 h3 => ?_, re.keep, re.new, re.lst, re.iol, re.io0, fun q hq => slot (re.ios q hq), fun q hq => ?_, re.tab⟩
  · unfold L2.start
    rw [List.length_append, List.length_map, List.length_replicate, List.length_append, List.length_replicate, la]
  · obtain ⟨v, h1, h2⟩ := re.val i d (old e (fun z => by cases z))
    exact ⟨v, slot h1, h2⟩
  · obtain ⟨p, vs', h1, h2⟩ := re.own i ds (old e (fun z => by cases z))
    exact ⟨p, vs', slot h1, h2⟩
  · obtain ⟨v, h1, h2⟩ := re.fz i d (old e (fun z => by cases z))
    exact ⟨v, slot h1, h2⟩
  · have g1 := old h1 (fun z => by cases z)
    have g2 := old h2 (fun z => by cases z)
    rw [slotB g1] at h3
    rw [slotB g2]
    exact re.sep i j ds es p hij g1 g2 h3
  · obtain ⟨ds, e⟩ := re.ioo q hq
    refine ⟨ds, ?_⟩
    rw [List.getElem?_append_left (List.getElem?_eq_some_iff.mp e).1]
    exact e
theorem RE.entry {C : Cf} {B : Bs} {P : List Addr} {H : Hp} {vs : List V} {args : CV} {N : List Str} (h : B.ob = none) (re : RE C.K C.T B P H (vs.map some) args) (hl : vs.length ≤ N.length) : RE C.K C.T B P H (L2.start N vs) (args ++ List.replicate (N.length - args.length) .un) :=
  .of0 h ((re.to0 h).entry hl)
/-- from a body's outcome to the def's promise -/
theorem body_read {C : Cf} (hob : C.ob = none) {N : List Str} {n : Nat} {b : CV → Out} {vs : List V} {H : Hp} {Q : VK} {E : XK} (hn : n ≤ N.length) (h : spM C n (runB N.length b) vs H Q E) :
    tS C (fun cls d _ H => E cls d H) b { nx := fun _ H' => Q .non H', rt := Q } (L2.start N vs) H := by
  obtain ⟨B, P, args, hl, hio, h0, hch, re, h⟩ := h
  refine ⟨B, P, _, hio, re.entry (hio.ob.trans hob) (by omega), ?_⟩
  unfold runB at h
  cases e : b (args ++ List.replicate (N.length - args.length) .un) with
  | nx ρ => rw [e] at h; exact fun P' σ' H' re' => h P' σ' H' .non re' .non
  | rt d m ρ => rw [e] at h; exact fun P' σ' H' v re' rv => h P' σ' H' v re' rv
  | er c ρ => rw [e] at h; exact fun A P' σ' H' hm re' => h A P' σ' H' ρ hm re'
  | ex c => rw [e] at h; exact fun A P' σ' H' ρ' hm re' => h A P' σ' H' ρ' hm re'
  | bk ρ => rw [e] at h; exact h.elim
  | ct ρ => rw [e] at h; exact h.elim
  | no => rw [e] at h; exact h.elim
theorem fn_ok {C : Cf} {x qual : Str} {st : Stmt} {f : Addr} {fd : FuncData} {N ps : List Str} {k : Nat} {b : CV → Out} (F : Fun K x qual st f fd) (S : FnScope N ps (defScope st)) (hn : ps.length ≤ N.length)
    (body : ∀ (cdv : Value) (A : Around) (outer : List Env) (s : Shared) (H : Hp) (E : XK), Room k (A.deeper (envOfC qual (defScope st) s.heap.objs.size f cdv)) →
      PSs (cxOf (L2N.CX P w) P w K mg base N qual (defScope st) f cdv A outer s H E) (defBody st) (tS C (fun cls d _ H => E cls d H) b)) (hob : C.ob = none := by rfl) :
    FnOk P w K mg base (L2N.CX P w) (k + 1) f fd ps (spM C ps.length (runB N.length b)) := by
  obtain ⟨oc, od, kV, doc, pm, an, cdv, ct, osl, rfl, lk, hcd⟩ := (F.ex)
  refine fn_of lk hcd S (fun vs H Q E h => ?_) (fun A outer s H vs Q E hr h => ⟨_, body cdv A outer s H E hr, ?_⟩)
  · obtain ⟨B, P, args, hl, _⟩ := h
    exact hl
  · exact body_read hob hn h
end

/-! ### calls -/
def toCell (x : D × Md) : Cell := if x.2 = .fz then .fz x.1 else .val x.1
def clA (m : Md) : Bool := match m with | .fr => true | .cl => true | .fz => true | _ => false
def callMd (ac : Bool) (d : D) : Md → Option (D × Md)
  | .fr => match d with
    | .list ds => if ac = true ∨ lfs ds = true then some (.list ds, .fr) else none
    | _ => none
  | .ow => match d with
    | .list ds => if ac = true ∨ lfs ds = true then some (.list ds, .fr) else none
    | _ => none
  | .cl => if ac = true ∨ lf d = true then some (d, .cl) else some (d, .vw)
  | .vw => if lf d = true then some (d, .cl) else some (d, .vw)
  | .fz => none
def mCall (M : CV → RF) (fa : CV → Rs (List (D × Md))) : CV → Rs (D × Md) := fun ρ => (fa ρ).bind fun ds => match M (ds.map toCell) with
  | .ok ((d, m), _) => ofO (callMd (ds.all fun x => clA x.2) d m)
  | .er c => .er c
  | .no => .no
section
variable {X : Cx} {C : Cf} {W : WX} {e a b : Expr} {es : List Expr} {st : Stmt} {rest body : List Stmt} {f g : CV → Rs (D × Md)} {t : CV → Rs Bool} {u w : CV → Out} {fa : CV → Rs (List (D × Md))} {pos : Pos}
theorem OVs.length {K : PySem.W.Frag} {Pm : List Addr} {H : Hp} : ∀ {vs : List V} {ds : List (D × Md)}, OVs K Pm H vs ds → vs.length = ds.length
  | [], [], _ => rfl
  | _ :: _, _ :: _, h => by simp [OVs.length h.2]
  | [], _ :: _, h => h.elim
  | _ :: _, [], h => h.elim
theorem OVs.get {K : PySem.W.Frag} {Pm : List Addr} {H : Hp} : ∀ {vs : List V} {ds : List (D × Md)} {i : Nat} {d : D × Md}, OVs K Pm H vs ds → ds[i]? = some d → ∃ v, vs[i]? = some v ∧ OV K Pm H d.2 v d.1
  | v :: _, d :: _, 0, _, h, e => by simp at e; subst e; exact ⟨v, rfl, h.1⟩
  | _ :: vs, _ :: ds, i + 1, d, h, e => by simpa using OVs.get (i := i) h.2 (by simpa using e)
  | [], [], _, _, _, e => by simp at e
  | [], _ :: _, _, _, h, _ => h.elim
  | _ :: _, [], _, _, h, _ => h.elim
/-- the callee's entry: M the lists that its data must not reach -/
theorem entry_call0 {C : Cf} {Pm M : List Addr} {H : Hp} {vs : List V} {ds : List (D × Md)} (l : Lsts M H) (tb : Tab C.T H) (ov : OVs C.K Pm H vs ds) (cl : ∀ x v, OV C.K Pm H x.2 v x.1 → x.2 ≠ .fz → x ∈ ds → Tr (mask M H) v x.1) :
    RE0 C.K C.T { H0 := H, M := M, io := [], ch := [] } [] H (vs.map some) (ds.map toCell) where
  len := by rw [List.length_map, List.length_map, ov.length]
  val := fun i d e => by
    rw [List.getElem?_map] at e
    obtain ⟨x, ex, ec⟩ := Option.map_eq_some_iff.mp e
    obtain ⟨v, ev, o⟩ := ov.get ex
    refine ⟨v, by rw [List.getElem?_map, ev]; rfl, ?_⟩
    unfold toCell at ec
    split at ec
    · cases ec
    · rename_i n
      cases ec
      rw [List.append_nil]
      exact cl x v o n (List.mem_of_getElem? ex)
  own := fun i d e => by
    rw [List.getElem?_map] at e
    obtain ⟨x, ex, ec⟩ := Option.map_eq_some_iff.mp e
    unfold toCell at ec
    split at ec <;> cases ec
  fz := fun i d e => by
    rw [List.getElem?_map] at e
    obtain ⟨x, ex, ec⟩ := Option.map_eq_some_iff.mp e
    obtain ⟨v, ev, o⟩ := ov.get ex
    refine ⟨v, by rw [List.getElem?_map, ev]; rfl, ?_⟩
    unfold toCell at ec
    split at ec
    · rename_i n
      cases ec
      rw [n] at o
      exact o
    · cases ec
  sep := fun i j d1 d2 p _ e _ _ => by
    rw [List.getElem?_map] at e
    obtain ⟨x, ex, ec⟩ := Option.map_eq_some_iff.mp e
    unfold toCell at ec
    split at ec <;> cases ec
  keep := fun a o e _ => .inl e
  new := fun p hp => by simp at hp
  lst := by rw [List.append_nil]; exact l
  iol := fun p hp => by simp at hp
  io0 := fun p hp => by simp at hp
  ios := fun q hq => by simp at hq
  ioo := fun q hq => by simp at hq
  tab := tb
theorem entry_call {C : Cf} {Pm M : List Addr} {H : Hp} {vs : List V} {ds : List (D × Md)} (l : Lsts M H) (tb : Tab C.T H) (ov : OVs C.K Pm H vs ds) (cl : ∀ x v, OV C.K Pm H x.2 v x.1 → x.2 ≠ .fz → x ∈ ds → Tr (mask M H) v x.1) :
    RE C.K C.T { H0 := H, M := M, io := [], ch := [] } [] H (vs.map some) (ds.map toCell) := .of0 rfl (entry_call0 l tb ov cl)
theorem RE.smOf {K : PySem.W.Frag} {T : List Addr} {B : Bs} {P : List Addr} {H : Hp} {σ : St} {ρ : CV} (re : RE K T B P H σ ρ) (h : B.ch = []) : Sm B.H0 H := fun a o e => re.keep a o e (by rw [h]; simp)
/-- what a call gives back, to the caller -/
theorem call_back {C : Cf} {Pm M : List Addr} {H H' : Hp} {P' : List Addr} {σ' : St} {ρ' : CV} {m : Md} {v : V} {d : D} {z : D × Md} {ac : Bool} (l : Lsts Pm H) (hM : ac = true → M = Pm) (re : RE C.K C.T { H0 := H, M := M, io := [], ch := [] } P' H' σ' ρ') (rv : RV C.K { H0 := H, M := M, io := [], ch := [] } P' H' m v d)
    (e : callMd ac d m = some z) : VR C.K Pm H H' z.2 v z.1 := by
  have sm : Sm H H' := re.smOf rfl
  have l' : Lsts Pm H' := l.sm sm
  have fresh : ∀ {p : Addr} {ds : List D} {vs : List V}, H p = none → H' p = some (.lst vs) → (ac = true → TrAll (mask (p :: Pm) H') vs ds) → TrAll H' vs ds → (ac = true ∨ lfs ds = true) → VR C.K Pm H H' .fr (.ref p) (.list ds) := fun {p ds vs} h0 h1 t1 t2 hc => by
    refine ⟨p, vs, ds, rfl, rfl, h0, h1, ?_⟩
    rcases hc with hc | hc
    · exact t1 hc
    · refine TrAll.lfMask (fun q hq => ?_) t2 hc
      rcases List.mem_cons.mp hq with (rfl | hq)
      · exact ⟨_, h1, .lst⟩
      · exact l' q hq
  cases m with
  | fr =>
    obtain ⟨p, vs, ds, rfl, rfl, h0, h1, h2, h3⟩ := rv
    unfold callMd at e
    dsimp only at e
    split at e
    · rename_i hc
      cases e
      exact fresh h0 h2 (fun z => by
        have := hM z
        subst this
        exact TrAll.mono (mask_anti fun a ha => by
          simp only [List.mem_cons, List.mem_append] at ha ⊢
          rcases ha with z | z
          · exact .inl z
          · exact .inr (.inl z)) _ _ h3) (TrAll.mono mask_le _ _ h3) hc
    · cases e
  | ow =>
    obtain ⟨p, vs, ds, rfl, rfl, h1, h2, _, h4, h5⟩ := rv
    have h0 : H p = none := by
      rcases re.new p h1 with z | z
      · exact absurd z (by simp)
      · exact z
    unfold callMd at e
    dsimp only at e
    split at e
    · rename_i hc
      cases e
      exact fresh h0 h4 (fun z => by
        have := hM z
        subst this
        exact TrAll.mono (mask_anti fun a ha => by
          simp only [List.mem_cons, List.mem_append] at ha ⊢
          rcases ha with z | z
          · rw [z]; exact .inr h1
          · exact .inl z) _ _ h5) (TrAll.mono mask_le _ _ h5) hc
    · cases e
  | cl =>
    have rv : Tr (mask (M ++ P') H') v d := rv
    unfold callMd at e
    dsimp only at e
    split at e
    · rename_i hc
      cases e
      rcases hc with hc | hc
      · have := hM hc
        subst this
        exact Tr.mono (mask_anti fun a ha => List.mem_append_left _ ha) _ _ rv
      · exact Tr.lfMask l' (Tr.mono mask_le _ _ rv) hc
    · cases e
      exact Tr.mono mask_le _ _ rv
  | vw =>
    unfold callMd at e
    dsimp only at e
    split at e
    · rename_i hc
      cases e
      exact Tr.lfMask l' rv hc
    · cases e
      exact rv
  | fz => cases e
/-- a call by a promise: what the arguments' reading is followed by -/
theorem call_core {n : Nat} {M : CV → RF} {σ : St} {H : Hp} {Q : VK} (w : tE C W (mCall M fa) σ H Q) (hn : ∀ ρ ds, fa ρ = .ok ds → ds.length = n) :
    tA C W fa σ H fun vs H1 => spM { C with ios := [], ob := none } n M vs H1 Q (WE W σ) := by
  obtain ⟨B, P, ρ, hio, re, w⟩ := w
  refine ⟨B, P, ρ, hio, re, ?_⟩
  unfold mCall at w
  cases ea : fa ρ with
  | er c => rw [ea] at w; exact w
  | no => rw [ea] at w; exact w
  | ok ds =>
    rw [ea] at w
    dsimp only [Rs.bind] at w
    intro vs H1 s tb ov
    have re1 := re.sm s tb
    cases hac : ds.all fun x => clA x.2 with
    | true =>
      refine ⟨{ H0 := H1, M := B.M ++ P, io := [], ch := [] }, [], ds.map toCell, by rw [ov.length]; exact hn ρ ds ea, ⟨rfl, rfl⟩, rfl, rfl, entry_call re1.lst tb ov (fun x v o nf hx => ?_), ?_⟩
      · have := List.all_eq_true.mp hac x hx
        refine o.clean ?_
        obtain ⟨d, m⟩ := x
        cases m <;> first | rfl | (cases this; done) | exact absurd rfl nf
      · cases em : M (ds.map toCell) with
        | no => rw [em] at w; exact w
        | er c => rw [em] at w; exact fun A P' σ' H' ρ' hm re' => w A H' hm (s.trans (re'.smOf rfl)) re'.tab
        | ok z =>
          obtain ⟨⟨d, m⟩, ρ'⟩ := z
          rw [em] at w
          intro P' σ' H' v re' rv
          dsimp only at w
          rw [hac] at w
          cases ec : callMd true d m with
          | none => rw [ec] at w; exact w.elim
          | some z =>
            rw [ec] at w
            exact w v H' (s.trans (re'.smOf rfl)) re'.tab ((call_back re1.lst (fun _ => rfl) re' rv ec).sm s)
    | false =>
      refine ⟨{ H0 := H1, M := [], io := [], ch := [] }, [], ds.map toCell, by rw [ov.length]; exact hn ρ ds ea, ⟨rfl, rfl⟩, rfl, rfl, entry_call (fun q hq => by simp at hq) tb ov (fun x v o nf hx => by rw [mask_nil]; exact o.tr nf), ?_⟩
      cases em : M (ds.map toCell) with
      | no => rw [em] at w; exact w
      | er c => rw [em] at w; exact fun A P' σ' H' ρ' hm re' => w A H' hm (s.trans (re'.smOf rfl)) re'.tab
      | ok z =>
        obtain ⟨⟨d, m⟩, ρ'⟩ := z
        rw [em] at w
        intro P' σ' H' v re' rv
        dsimp only at w
        rw [hac] at w
        cases ec : callMd false d m with
        | none => rw [ec] at w; exact w.elim
        | some z =>
          rw [ec] at w
          exact w v H' (s.trans (re'.smOf rfl)) re'.tab ((call_back re1.lst (fun z => by cases z) re' rv ec).sm s)
/-- how many arguments -/
inductive LenA : Nat → (CV → Rs (List (D × Md))) → Prop
  | nil : LenA 0 mNil
  | cons {f : CV → Rs (D × Md)} {fa : CV → Rs (List (D × Md))} {n : Nat} : LenA n fa → LenA (n + 1) (mCons f fa)
theorem LenA.len {n : Nat} {fa : CV → Rs (List (D × Md))} (h : LenA n fa) : ∀ ρ ds, fa ρ = .ok ds → ds.length = n := by
  induction h with
  | nil => intro ρ ds e; cases e; rfl
  | @cons f fa n h ih =>
    intro ρ ds e
    unfold mCons at e
    cases ef : f ρ with
    | er c => rw [ef] at e; cases e
    | no => rw [ef] at e; cases e
    | ok x =>
      rw [ef] at e
      cases eg : fa ρ with
      | er c => rw [eg] at e; cases e
      | no => rw [eg] at e; cases e
      | ok xs =>
        rw [eg] at e
        cases e
        rw [List.length_cons, ih ρ xs eg]
theorem se_call {x : Str} {fA : Addr} {fd : FuncData} {ps : List Str} {k k' n : Nat} {M : CV → RF} {p : Pos} (G : FnOk X.prog X.w X.K X.mg X.base (L2N.CX X.prog X.w) k fA fd ps (spM { C with ios := [], ob := none } n M)) (hr : Room k' X.A) (tk : L2N.Takes X W) (hm : X.mg x = some (.ref fA)) (hk : PySem.W.keepIn X.K (.ref fA) = true) (hb : Binds X.K fd ps [])
    (ha : PA X (e :: es) (tA C W fa)) (hl : LenA n fa) (hkk : k ≤ k' := by decide) (hg : Gl X x := by rfl) (hdb : (x == ("__debug__" : Str)) = false := by decide) (he : starEach (e :: es) X.env = (false, eval e X.env) :: starEach es X.env := by rfl) (hpl : (backTo pos (starEach es X.env)).any (·.1) = false := by rfl) :
    PE X (.Call (.Name x p) (e :: es) [] pos) (tE C W (mCall M fa)) :=
  PE.imp (pe_callS (E := WE W) G (hr.mono hkk) hg hm hk hb (fun σ => L2N.passAt tk σ) ha hdb he hpl) fun σ H Q w => call_core w hl.len

/-! ### raise -/
def sRaise (c : Str) : CV → Out := fun ρ => .er c ρ
theorem ss_raise {c m : Str} {j : Nat} {Ca : Addr} {bmB : List Value} {Bn newId initId : String} {p p2 p3 : Pos} (hc : X.calm = true) (tk : L2N.Takes X W) (F : ExcBaseFacts Bn newId initId bmB) (q : PySem.W.excIn X.K Ca bmB newId = true) (gC : X.mg c = some (.ref Ca)) (kC : PySem.W.keepIn X.K (.ref Ca) = true)
    (r : Raises X (.ref Ca)) (hmg : X.mg = C.mg) (hg : Gl X c := by rfl) (hdb : (c == ("__debug__" : Str)) = false := by decide) : PS X (.Raise (some (.Call (.Name c p) [.Constant (.str m) j p2] [] p3)) none pos) (tS C W (sRaise c)) :=
  PS.imp (L2N.ps_raise hc tk (L2N.pmk_own F q gC kC r hg hdb)) fun D' σ H h => by
    obtain ⟨B, P, ρ, hb, re, h⟩ := h
    exact h Ca P σ H (by rw [← hmg]; exact gC) re
/-- X(e, ..), an own exception whose context is None -/
theorem pmkNA {A : Addr} {bmB : List Value} {Bn newId initId : String} {x : Str} {ta : TA} {p q1 : Pos} (F : ExcBaseFacts Bn newId initId bmB) (q : PySem.W.excIn X.K A bmB newId = true) (gC : X.mg x = some (.ref A)) (kC : PySem.W.keepIn X.K (.ref A) = true) (r : Raises X (.ref A)) (hg : Gl X x)
    (ha : PA X (e :: es) ta) (hdb : (x == ("__debug__" : Str)) = false := by decide) (he : starEach (e :: es) X.env = (false, eval e X.env) :: starEach es X.env := by rfl) (hpl : (backTo q1 (starEach es X.env)).any (·.1) = false := by rfl) :
    L2N.PMk X (.Call (.Name x p) (e :: es) [] q1) (fun σ H Q => ta σ H fun vs H1 => vs.length ≤ sizeLine ∧ Q (.ref A) none H1) := by
  intro pins st σ Hp0 Q inv want
  apply wpAny_Call_Name_kw
  apply ld_glob inv hg gC ?_ hdb
  apply PySem.W.callWith_K (h₀ := X.base) inv.ok.mod.kin kC ?_ he hpl
  apply thn (ha.run q1 pins st σ Hp0 _ inv want)
  rintro us st1 ⟨vs, H1, J, rv, small, want1⟩
  refine ⟨J.kIn, ?_⟩
  show wpAny _ _ (call (.ref A) us) _ _ _
  obtain ⟨bm, N, nm, qn, bs, hdct, sn, sub, ab, col, dd, k0, k1, k2, k3, k5, mN, isC, isN, noI, T⟩ := exc_obj J.kIn q
  apply wpAny_call_exc_subT F T isC isN noI ?_ (by rw [← rv.length]; exact small)
  intro h2 e2 made
  exact L2N.mk_of J made r want1 (J.hok.gone made.new)
def sRaiseA (c : Str) (fa : CV → Rs (List (D × Md))) : CV → Out := fun ρ => match fa ρ with
  | .ok ds => if ds.length ≤ 1000 then .er c ρ else .no
  | .er c => .er c ρ
  | .no => .no
theorem ss_raiseA {c : Str} {Ca : Addr} {bmB : List Value} {Bn newId initId : String} {p p3 : Pos} (hc : X.calm = true) (tk : L2N.Takes X W) (F : ExcBaseFacts Bn newId initId bmB) (q : PySem.W.excIn X.K Ca bmB newId = true) (gC : X.mg c = some (.ref Ca)) (kC : PySem.W.keepIn X.K (.ref Ca) = true)
    (r : Raises X (.ref Ca)) (hmg : X.mg = C.mg) (ha : PA X (e :: es) (tA C W fa)) (hg : Gl X c := by rfl) (hdb : (c == ("__debug__" : Str)) = false := by decide) (he : starEach (e :: es) X.env = (false, eval e X.env) :: starEach es X.env := by rfl) (hpl : (backTo p3 (starEach es X.env)).any (·.1) = false := by rfl) :
    PS X (.Raise (some (.Call (.Name c p) (e :: es) [] p3)) none pos) (tS C W (sRaiseA c fa)) :=
  PS.imp (L2N.ps_raise hc tk (pmkNA F q gC kC r hg ha hdb he hpl)) fun D' σ H h => by
    obtain ⟨B, P, ρ, hb, re, h⟩ := h
    refine ⟨B, P, ρ, hb, re, ?_⟩
    unfold sRaiseA at h
    cases ea : fa ρ with
    | er c => rw [ea] at h; exact fun A H1 hm s t => h A P σ H1 hm (re.sm s t)
    | no => rw [ea] at h; exact h
    | ok ds =>
      rw [ea] at h
      dsimp only at h
      intro vs H1 s tb ov
      split at h
      · rename_i hz
        exact ⟨le_line (by rw [ov.length]; exact hz), h Ca P σ H1 (by rw [← hmg]; exact gC) (re.sm s tb)⟩
      · exact h.elim

/-! ### try -/
/-- names: the errors that may come; sub: which of them the clause takes -/
def sTry (names : List Str) (sub : Str → Bool) (u w : CV → Out) : CV → Out := fun ρ => match u ρ with
  | .er c ρ' => if names.contains c then (if sub c then (match w ρ' with | .er _ _ => .no | .ex _ => .no | o => o) else .er c ρ') else .no
  | .ex _ => .no
  | o => o
theorem SR_w0 {D' : Ends} {B : Bs} {o : Out} (h : SR C W D' B (match o with | .er _ _ => .no | .ex _ => .no | o => o)) : SR C W0 D' B o := by
  cases o <;> first | exact h | exact h.elim
theorem ss_try1 {x : Str} {cv : Value} {b₀ : Stmt} {suite : List Stmt} {np pos' : Pos} (names : List Str) (sub : Str → Bool) (hs : X.stack = X.env :: X.outer) (hf : X.env.frame = some X.env.locals) (hc : Names X x cv) (tk : L2N.Takes X W)
    (hsub : ∀ c A, c ∈ names → C.mg c = some (.ref A) → PySem.W.exmOne X.K (.ref A) cv = some (sub c))
    (hb : ∀ (W : WX) (pn : List (Addr × Obj)) (xe : Value → Shared → Prop), L2N.Takes (X.tr pn xe) W → PassesOwn (model X.prog X.w) X.A X.env xe → PSs (X.tr pn xe) body (tS C W u))
    (hsu : ∀ (a : Addr) (oe : Obj) (cls : Value) (d : Option Addr) (pn : List (Addr × Obj)), L2N.Zn cls d oe → (∃ vs, oe.data = .fields vs) → PSs (X.suite a ((a, oe) :: pn)) (b₀ :: suite) (tS C W0 w)) :
    PS X (.Try body [.ExceptHandler (some (.Name x np)) none (b₀ :: suite) pos'] [] [] pos) (tS C W (sTry names sub u w)) :=
  PS.imp (L2N.ps_try_many (tb := fun W => tS C W u) hs hf tk hb (.cons (ts := fun _ _ _ => tS C W0 w) hc hsu .nil)) fun D' σ H h => by
    obtain ⟨B, P, ρ, hio, re, h⟩ := h
    refine ⟨B, P, ρ, hio, re, ?_⟩
    unfold sTry at h
    cases eu : u ρ with
    | nx ρ' => rw [eu] at h; exact h
    | rt d m ρ' => rw [eu] at h; exact h
    | bk ρ' => rw [eu] at h; exact h
    | ct ρ' => rw [eu] at h; exact h
    | no => rw [eu] at h; exact h
    | ex c => rw [eu] at h; exact h.elim
    | er c ρ' =>
      rw [eu] at h
      dsimp only at h
      intro A P' σ' H' hm re'
      split at h
      · rename_i hn
        refine ⟨sub c, hsub c A (List.contains_iff_mem.mp hn) hm, fun hs a ha => ?_, fun hs => ?_⟩
        · rw [hs, if_pos rfl] at h
          exact ⟨B, P', ρ', hio, re', SR_w0 h⟩
        · rw [hs, if_neg Bool.false_ne_true] at h
          exact h A P' σ' H' hm re'
      · exact h.elim
end
end Eng

set_option Elab.async false
set_option linter.all false
set_option maxRecDepth 100000
set_option maxHeartbeats 1234567
namespace Eng
open PySem PySem.Spec
open PyProof.Rows L2

/-! ### a def, as its callers know it -/
structure Cal (P : Program) (w : World) (K : PySem.W.Frag) (mg : Str → Option Value) (base : Heap) (T : List Addr) (x : Str) (n k : Nat) (M : CV → RF) : Prop where
  ex : ∃ (f : Addr) (fd : FuncData) (ps : List Str), FnOk P w K mg base (L2N.CX P w) k f fd ps (spM { K := K, T := T, mg := mg, ios := [] } n M) ∧ mg x = some (.ref f) ∧ PySem.W.keepIn K (.ref f) = true ∧ Binds K fd ps []
theorem Cal.of {P : Program} {w : World} {K : PySem.W.Frag} {mg : Str → Option Value} {base : Heap} {T : List Addr} {x qual : Str} {st : Stmt} {f : Addr} {fd : FuncData} {n k : Nat} {M : CV → RF} {C : Cf} {ps : List Str} (hC : C = { K := K, T := T, mg := mg, ios := [] })
    (F : Fun K x qual st f fd) (hm : mg x = some (.ref f)) (hb : Binds K fd ps []) (h : FnOk P w K mg base (L2N.CX P w) k f fd ps (spM C n M)) : Cal P w K mg base T x n k M := ⟨f, fd, ps, hC ▸ h, hm, F.kp, hb⟩
section
variable {X : Cx} {C : Cf} {W : WX} {e a b : Expr} {es : List Expr} {fa : CV → Rs (List (D × Md))} {pos : Pos}
theorem se_callC {x : Str} {k k' n : Nat} {M : CV → RF} {p : Pos} (G : Cal X.prog X.w X.K X.mg X.base C.T x n k M) (hr : Room k' X.A) (tk : L2N.Takes X W) (ha : PA X (e :: es) (tA C W fa)) (hl : LenA n fa) (hC : { C with ios := [], ob := none } = { K := X.K, T := C.T, mg := X.mg, ios := [], ob := none : Cf } := by rfl)
    (hkk : k ≤ k' := by decide) (hg : Gl X x := by rfl) (hdb : (x == ("__debug__" : Str)) = false := by decide) (he : starEach (e :: es) X.env = (false, eval e X.env) :: starEach es X.env := by rfl) (hpl : (backTo pos (starEach es X.env)).any (·.1) = false := by rfl) :
    PE X (.Call (.Name x p) (e :: es) [] pos) (tE C W (mCall M fa)) := by
  obtain ⟨f, fd, ps, h1, h2, h3, h4⟩ := G.ex
  exact se_call (hC ▸ h1) hr tk h2 h3 h4 ha hl hkk hg hdb he hpl
/-- a global that was written: a list or tuple -/
structure GlobF (K : PySem.W.Frag) (mg : Str → Option Value) (x : Str) (d : D) : Prop where
  ex : ∃ A : Addr, mg x = some (.ref A) ∧ ∀ H, Fz K H (.ref A) d
theorem se_globFx {x : Str} {d : D} (h : GlobF X.K X.mg x d) (hK : C.K = X.K := by rfl) (hg : Gl X x := by rfl) (hd : (x == ("__debug__" : Str)) = false := by decide) : PE X (.Name x pos) (tE C W (mFz d)) := by
  obtain ⟨A, h1, h2⟩ := h.ex
  exact se_globF h1 (hK ▸ h2) hg hd
/-- list(zip(a, b)) -/
def hListZip : List (D × Md) → Option (D × Md)
  | [(.tuple xs, m), (.tuple ys, m2)] => if (itCl m = true ∨ lfs xs = true) ∧ (itCl m2 = true ∨ lfs ys = true) ∧ xs.length ≤ 1000 then some (.list ((xs.zip ys).map fun p => .tuple [p.1, p.2]), .fr) else none
  | _ => none
end
end Eng

set_option Elab.async false
set_option linter.all false
set_option maxRecDepth 100000
set_option maxHeartbeats 1234567
namespace Eng
open PySem PySem.Spec
open PyProof.Rows L2

/-! ### list(zip(a, b)) of two tuples -/
section
variable {prog : Program} {w : World} {A : Around} {E : Value → Shared → Prop} {s : Shared} {z TI TO T i1 i2 l1 l2 : Addr} {f : Bool} {oT : Obj} {k : Nat} {xs ys : Array Value} {x y : Value}
/-- the zip's next step while its first tuple is still held -/
theorem held_item {Q : Option Value → Shared → Prop} (D : ZipApart z TI TO i1 i2 l1 l2) (hz : IsZipHeld s.heap z TI TO T f) (alive : s.heap.get? T = some oT) (pr : IsPair s.heap TI (.ref i1) (.ref i2))
    (c1 : s.heap.IsTupleIter i1 l1 k) (c2 : s.heap.IsTupleIter i2 l2 k) (m1 : s.heap.IsTuple l1 xs) (m2 : s.heap.IsTuple l2 ys) (hx : xs[k]? = some x) (hy : ys[k]? = some y)
    (go : ∀ hp, IsZipHeld hp z TI TO T true → hp.IsTupleIter i1 l1 (k + 1) → hp.IsTupleIter i2 l2 (k + 1) → IsPair hp s.heap.objs.size x y → hp.objs.size = s.heap.objs.size + 1 → (∀ c o, c ∉ [z, i1, i2] → s.heap.get? c = some o → hp.get? c = some o) → Q (some (.ref s.heap.objs.size)) { s with heap := hp }) :
    (wpAny (model prog w) A (pyNext (.ref z)) Q E s) := by
  have ty : s.TypeIs (.ref z) "zip" := ⟨_, hz, rfl⟩
  unfold pyNext
  refine wpAny_bind (wpAny_attempt (wpAny_callSpecial?_slot (name := Str.ofString "__next__") ty F.slot_zip_next (wpAny_call_entry F.slot_zip_next ty F.entry_zip_next ?_ (F.args_zip_next_1 _))))
  show wpAny _ _ (field (.ref z) 2 >>= fun _ => _) _ _ _
  refine wpAny_bind (wpAny_field hz rfl (x := .bool false) rfl (show wpAny _ _ (field (.ref z) 3 >>= fun _ => _) _ _ _ from wpAny_bind (wpAny_field hz rfl (x := .ref TI) rfl (wpAny_bind (wpAny_seqItems pr rfl (show wpAny _ _ (Builtin.SmallTypes.ownedTupleIsFree (.ref z) >>= fun _ => _) _ _ _ from wpAny_bind (wpAny_tupleHeld_zip hz alive fun ha za sa => ?_)))))))
  (simp only [Bool.false_eq_true, if_false])
  refine wpAny_bind (?_ : wpAny _ _ _ _ _ _)
  simp only [← Array.forIn_toList, List.forIn_cons, List.forIn_nil]
  refine wpAny_bind (wpAny_bind (wpAny_holding (show wpAny _ _ (Builtin.SmallTypes.nextOf (.ref i1) >>= fun _ => _) _ _ _ from wpAny_bind (RZ.nextOf_tuple_item (s := { s with heap := ha }) (c1.extBut sa.extBut D.i1z) (m1.extBut sa.extBut D.l1z) hx fun hb b1 sb => wpAny_pure (wpAny_pure ?_)))))
  refine wpAny_bind (wpAny_bind (wpAny_holding (show wpAny _ _ (Builtin.SmallTypes.nextOf (.ref i2) >>= fun _ => _) _ _ _ from wpAny_bind (RZ.nextOf_tuple_item (s := { s with heap := hb }) ((c2.extBut sa.extBut D.i2z).extBut sb.extBut D.i12.symm) ((m2.extBut sa.extBut D.l2z).extBut sb.extBut D.l2i1) hy fun hc b2 sc => wpAny_pure (wpAny_pure (wpAny_pure ?_))))))
  show wpAny _ _ (newTuple [x, y] >>= fun _ => _) _ _ _
  have size : hc.objs.size = s.heap.objs.size := sc.1.trans (sb.1.trans sa.1)
  have kept : ∀ c o, c ∉ [z, i1, i2] → s.heap.get? c = some o → hc.get? c = some o := fun c o n e => by
    simp only [List.mem_cons, List.not_mem_nil, or_false, not_or] at n
    exact sc.extBut c o n.2.2 (sb.extBut c o n.2.1 (sa.extBut c o n.1 e))
  have zc : IsZipHeld hc z TI TO T true := sc.extBut _ _ D.i2z.symm (sb.extBut _ _ D.i1z.symm za)
  refine wpAny_bind (wpAny_newTuple (wpAny_pure ⟨_, rfl, ?_⟩))
  have up : ∀ c o, hc.get? c = some o → (hc.push { cls := .type "tuple", data := .seq #[x, y] }).get? c = some o := fun c o e => Heap.get?_push_of_some _ e
  have new : IsPair (hc.push { cls := .type "tuple", data := .seq #[x, y] }) hc.objs.size x y := Heap.get?_push_size _ rfl
  have more : (hc.push { cls := .type "tuple", data := .seq #[x, y] }).objs.size = hc.objs.size + 1 := Heap.size_push ..
  have fin := go (hc.push { cls := .type "tuple", data := .seq #[x, y] }) (up _ _ zc) ((b1.extBut sc.extBut D.i12).at fun o e => up _ o e) (b2.at fun o e => up _ o e) (size ▸ new) (by rw [more, size]) fun c o n e => up c o (kept c o n e)
  rw [← size] at fin
  exact wpAny_pure fin
theorem held_end {Q : Option Value → Shared → Prop} (hh : A.handled = none) (D : ZipApart z TI TO i1 i2 l1 l2) (hz : IsZipHeld s.heap z TI TO T f) (alive : s.heap.get? T = some oT) (pr : IsPair s.heap TI (.ref i1) (.ref i2))
    (c1 : s.heap.IsTupleIter i1 l1 k) (c2 : s.heap.IsTupleIter i2 l2 k) (m1 : s.heap.IsTuple l1 xs) (m2 : s.heap.IsTuple l2 ys) (stop : xs[k]? = none ∨ ys[k]? = none)
    (go : ∀ hp, (∀ c o, c ∉ [z, i1, i2] → s.heap.get? c = some o → hp.get? c = some o) → Q none { s with heap := hp }) : wpAny (model prog w) A (pyNext (.ref z)) Q E s := by
  have ty : s.TypeIs (.ref z) "zip" := ⟨_, hz, rfl⟩
  unfold pyNext
  refine wpAny_bind (wpAny_attempt (wpAny_callSpecial?_slot (name := Str.ofString "__next__") ty F.slot_zip_next (wpAny_call_entry F.slot_zip_next ty F.entry_zip_next ?_ (F.args_zip_next_1 _))))
  show wpAny _ _ (field (.ref z) 2 >>= fun _ => _) _ _ _
  refine wpAny_bind (wpAny_field hz rfl (x := .bool false) rfl (show wpAny _ _ (field (.ref z) 3 >>= fun _ => _) _ _ _ from wpAny_bind (wpAny_field hz rfl (x := .ref TI) rfl (wpAny_bind (wpAny_seqItems pr rfl (show wpAny _ _ (Builtin.SmallTypes.ownedTupleIsFree (.ref z) >>= fun _ => _) _ _ _ from wpAny_bind (wpAny_tupleHeld_zip hz alive fun ha za sa => ?_)))))))
  (simp only [Bool.false_eq_true, if_false])
  refine wpAny_bind (?_ : wpAny _ _ _ _ _ _)
  simp only [← Array.forIn_toList, List.forIn_cons, List.forIn_nil]
  have out : ∀ {sx : Shared} {e : Addr} {M : Model} {A2 : Around} {E2 : Value → Shared → Prop} {g : Bool → Sem (Option Value)}, (∃ o, sx.heap.get? e = some o ∧ o.cls = .type "StopIteration") → wpAny M A2 (g true) Q E2 sx → wpAny M A2 (isInstance (.ref e) (.type "StopIteration") >>= g) Q E2 sx := fun ⟨o, h1, h2⟩ h => wpAny_bind (wpAny_isInstance (T := "StopIteration") (b := true) ⟨o, h1, h2⟩ isSubtype_stop h)
  cases h : xs[k]? with
  | none =>
    refine wpAny_bind (wpAny_bind (wpAny_holding (show wpAny _ _ (Builtin.SmallTypes.nextOf (.ref i1) >>= fun _ => _) _ _ _ from wpAny_bind (RZ.nextOf_tuple_end (s := { s with heap := ha }) hh (c1.extBut sa.extBut D.i1z) (m1.extBut sa.extBut D.l1z) h fun hb e sb ex => out ex (wpAny_pure (go hb fun c o n q => ?_))))))
    simp only [List.mem_cons, List.not_mem_nil, or_false, not_or] at n
    exact sb c o n.2.1 (sa.extBut c o n.1 q)
  | some x =>
    have hy : ys[k]? = none := stop.resolve_left (by rw [h]; simp)
    refine wpAny_bind (wpAny_bind (wpAny_holding (show wpAny _ _ (Builtin.SmallTypes.nextOf (.ref i1) >>= fun _ => _) _ _ _ from wpAny_bind (RZ.nextOf_tuple_item (s := { s with heap := ha }) (c1.extBut sa.extBut D.i1z) (m1.extBut sa.extBut D.l1z) h fun hb b1 sb => wpAny_pure (wpAny_pure ?_)))))
    refine wpAny_bind (wpAny_bind (wpAny_holding (show wpAny _ _ (Builtin.SmallTypes.nextOf (.ref i2) >>= fun _ => _) _ _ _ from wpAny_bind (RZ.nextOf_tuple_end (s := { s with heap := hb }) hh ((c2.extBut sa.extBut D.i2z).extBut sb.extBut D.i12.symm) ((m2.extBut sa.extBut D.l2z).extBut sb.extBut D.l2i1) hy fun hc e sc ex => out ex (wpAny_pure (go hc fun c o n q => ?_))))))
    simp only [List.mem_cons, List.not_mem_nil, or_false, not_or] at n
    exact sc c o n.2.2 (sb.extBut c o n.2.1 (sa.extBut c o n.1 q))
/-- the zip before its k-th item -/
def Zs (z TI TO i1 i2 l1 l2 : Addr) (h : Heap) (k : Nat) : Prop := h.IsTupleIter i1 l1 k ∧ h.IsTupleIter i2 l2 k ∧ IsPair h TI (.ref i1) (.ref i2) ∧ (∃ oO, h.get? TO = some oO) ∧
  ((k = 0 ∧ IsZip h z TI TO .none ∧ ∃ a b, IsPair h TO a b) ∨ ∃ T f oT, IsZipHeld h z TI TO T f ∧ h.get? T = some oT ∧ T ∉ [z, TI, TO, i1, i2])
theorem Zs.kept {h h' : Heap} (st : Zs z TI TO i1 i2 l1 l2 h k) (kp : ∀ b o, h.get? b = some o → h'.get? b = some o) : Zs z TI TO i1 i2 l1 l2 h' k := by
  obtain ⟨a1, a2, a3, ⟨oO, a5⟩, a4⟩ := st
  refine ⟨a1.at fun o e => kp _ o e, a2.at fun o e => kp _ o e, kp _ _ a3, ⟨oO, kp _ _ a5⟩, ?_⟩
  rcases a4 with ⟨b0, b1, x, y, b2⟩ | ⟨T, f, oT, b1, b2, b3⟩
  · exact .inl ⟨b0, kp _ _ b1, x, y, kp _ _ b2⟩
  · exact .inr ⟨T, f, oT, kp _ _ b1, kp _ _ b2, b3⟩
theorem znext_item {Q : Option Value → Shared → Prop} (D : ZipApart z TI TO i1 i2 l1 l2) (st : Zs z TI TO i1 i2 l1 l2 s.heap k) (m1 : s.heap.IsTuple l1 xs) (m2 : s.heap.IsTuple l2 ys) (hx : xs[k]? = some x) (hy : ys[k]? = some y)
    (go : ∀ hp, Zs z TI TO i1 i2 l1 l2 hp (k + 1) → IsPair hp s.heap.objs.size x y → hp.objs.size = s.heap.objs.size + 1 → (∀ c o, c ∉ [z, TI, TO, i1, i2] → s.heap.get? c = some o → hp.get? c = some o) → Q (some (.ref s.heap.objs.size)) { s with heap := hp }) :
    (wpAny (model prog w) A (pyNext (.ref z)) Q E s) := by
  obtain ⟨a1, a2, a3, ⟨oO, a5⟩, a4⟩ := st
  have nin : s.heap.objs.size ∉ [z, TI, TO, i1, i2] ∨ ¬ (TO < s.heap.objs.size) := by
    by_cases h : TO < s.heap.objs.size
    · left
      have b1 : z < s.heap.objs.size := by
        rcases a4 with ⟨_, q, _⟩ | ⟨_, _, _, q, _⟩ <;> exact Heap.lt_size q
      have b2 : TI < s.heap.objs.size := Heap.lt_size a3
      have b3 : i1 < s.heap.objs.size := by obtain ⟨_, q, _⟩ := a1; exact Heap.lt_size q
      have b4 : i2 < s.heap.objs.size := by obtain ⟨_, q, _⟩ := a2; exact Heap.lt_size q
      simp only [List.mem_cons, List.not_mem_nil, or_false, not_or]
      exact ⟨Nat.ne_of_gt b1, Nat.ne_of_gt b2, Nat.ne_of_gt h, Nat.ne_of_gt b3, Nat.ne_of_gt b4⟩
    · exact .inr h
  rcases a4 with ⟨b0, b1, p, q, b2⟩ | ⟨T, f, oT, b1, b2, b3⟩
  · refine RZ.pyNext_zipT_item D b1 a3 b2 a1 a2 m1 m2 hx hy fun hp n1 n2 n3 n4 n5 n6 n7 => go hp ⟨n3, n4, n7 _ _ D.TIz D.TITO D.TIi1 D.TIi2 a3, ⟨_, n2⟩, .inr ⟨s.heap.objs.size, false, _, n1, n5, nin.resolve_right fun z => z (Heap.lt_size b2)⟩⟩ n5 n6 fun c o n e => ?_
    simp only [List.mem_cons, List.not_mem_nil, or_false, not_or] at n
    exact n7 c o n.1 n.2.2.1 n.2.2.2.1 n.2.2.2.2 e
  · refine held_item D b1 b2 a3 a1 a2 m1 m2 hx hy fun hp n1 n2 n3 n4 n5 n6 => go hp ⟨n2, n3, n6 _ _ (by simp only [List.mem_cons, List.not_mem_nil, or_false, not_or]; exact ⟨D.TIz, D.TIi1, D.TIi2⟩) a3, ⟨_, n6 _ _ (by simp only [List.mem_cons, List.not_mem_nil, or_false, not_or]; exact ⟨D.TOz, D.TOi1, D.TOi2⟩) a5⟩, .inr ⟨T, true, oT, n1, n6 _ _ ?_ b2, b3⟩⟩ n4 n5 fun c o n e => n6 c o ?_ e
    · simp only [List.mem_cons, List.not_mem_nil, or_false, not_or] at b3 ⊢
      exact ⟨b3.1, b3.2.2.2.1, b3.2.2.2.2⟩
    · simp only [List.mem_cons, List.not_mem_nil, or_false, not_or] at n ⊢
      exact ⟨n.1, n.2.2.2.1, n.2.2.2.2⟩
theorem znext_end {Q : Option Value → Shared → Prop} (hh : A.handled = none) (D : ZipApart z TI TO i1 i2 l1 l2) (st : Zs z TI TO i1 i2 l1 l2 s.heap k) (m1 : s.heap.IsTuple l1 xs) (m2 : s.heap.IsTuple l2 ys) (stop : xs[k]? = none ∨ ys[k]? = none)
    (go : ∀ hp, (∀ c o, c ∉ [z, TI, TO, i1, i2] → s.heap.get? c = some o → hp.get? c = some o) → Q none { s with heap := hp }) : wpAny (model prog w) A (pyNext (.ref z)) Q E s := by
  obtain ⟨a1, a2, a3, _, a4⟩ := st
  rcases a4 with ⟨b0, b1, p, q, b2⟩ | ⟨T, f, oT, b1, b2, b3⟩
  · refine RZ.pyNext_zipT_end hh D b1 a3 b2 a1 a2 m1 m2 stop fun hp n7 => go hp fun c o n e => ?_
    simp only [List.mem_cons, List.not_mem_nil, or_false, not_or] at n
    exact n7 c o n.1 n.2.2.1 n.2.2.2.1 n.2.2.2.2 e
  · refine held_end hh D b1 b2 a3 a1 a2 m1 m2 stop fun hp n6 => go hp fun c o n e => n6 c o ?_ e
    simp only [List.mem_cons, List.not_mem_nil, or_false, not_or] at n ⊢
    exact ⟨n.1, n.2.2.2.1, n.2.2.2.2⟩
end
theorem Zs.upd {h : Heap} {z TI TO i1 i2 l1 l2 q : Addr} {k : Nat} {g : Obj → Obj} {o : Obj} (st : Zs z TI TO i1 i2 l1 l2 h k) (n : q ∉ [z, TI, TO, i1, i2]) (hq : h.get? q = some o) (alive : ∃ o2, (h.update q g).get? q = some o2) : Zs z TI TO i1 i2 l1 l2 (h.update q g) k := by
  have kp : ∀ b, b ≠ q → (h.update q g).get? b = h.get? b := fun b ne => Heap.get?_update_other _ _ (Ne.symm ne)
  simp only [List.mem_cons, List.not_mem_nil, or_false, not_or] at n
  obtain ⟨a1, a2, a3, ⟨oO, a5⟩, a4⟩ := st
  refine ⟨a1.at fun o e => (kp _ (Ne.symm n.2.2.2.1)).trans e, a2.at fun o e => (kp _ (Ne.symm n.2.2.2.2)).trans e, (kp _ (Ne.symm n.2.1)).trans a3, ⟨oO, (kp _ (Ne.symm n.2.2.1)).trans a5⟩, ?_⟩
  rcases a4 with ⟨b0, b1, x, y, b2⟩ | ⟨T, f, oT, b1, b2, b3⟩
  · exact .inl ⟨b0, (kp _ (Ne.symm n.1)).trans b1, x, y, (kp _ (Ne.symm n.2.2.1)).trans b2⟩
  · by_cases e : T = q
    · obtain ⟨o2, e2⟩ := alive
      exact .inr ⟨T, f, o2, (kp _ (Ne.symm n.1)).trans b1, by rw [e]; exact e2, b3⟩
    · exact .inr ⟨T, f, oT, (kp _ (Ne.symm n.1)).trans b1, (kp _ e).trans b2, b3⟩
/-- the pairs that stand in the list so far -/
def Items (H : Hp) (q : Addr) (xs ys acc : List V) : Prop := ∀ i, i < acc.length → ∃ T x y, acc[i]? = some (.ref T) ∧ xs[i]? = some x ∧ ys[i]? = some y ∧ H T = some (.tup [x, y]) ∧ T ≠ q
/-- the zip ends: gz: also ahead of its first item -/
def ZEnd (X : Cx) (pins : List (Addr × Obj)) (σ : L2.St) (A : Around) (gz : Bool) (z TI TO i1 i2 l1 l2 : Addr) : Prop :=
  ∀ (k : Nat) (H : Hp) (s : Shared) (xs ys : Array Value) (Q : Option Value → Shared → Prop) (E : Value → Shared → Prop), Inv X pins σ H s → (∀ b ∈ [z, TI, TO, i1, i2], FpOk X pins H b) → Zs z TI TO i1 i2 l1 l2 s.heap k → s.heap.IsTuple l1 xs → s.heap.IsTuple l2 ys → (xs[k]? = none ∨ ys[k]? = none) →
    (gz = true ∨ (0 < xs.size ∧ 0 < ys.size)) → (∀ hp, (∀ c o, c ∉ [z, TI, TO, i1, i2] → s.heap.get? c = some o → hp.get? c = some o) → Q none { s with heap := hp }) → wpAny (model X.prog X.w) A (pyNext (.ref z)) Q E s
section
variable {X : Cx} {pins : List (Addr × Obj)} {σ : L2.St} {A1 : Around} {Rs : Result → Shared → Prop} {q z TI TO i1 i2 l1 l2 : Addr} {xs ys : List V} {H0 : Hp}
theorem zEnd_calm {A : Around} (hh : A.handled = none) (D : ZipApart z TI TO i1 i2 l1 l2) : ZEnd X pins σ A true z TI TO i1 i2 l1 l2 := fun k H s xs ys Q E _ _ st m1 m2 stop _ go => znext_end hh D st m1 m2 stop go
theorem zloop {gz : Bool} (ze : ZEnd X pins σ A1.in1 gz z TI TO i1 i2 l1 l2) (hgz : gz = true ∨ (0 < xs.length ∧ 0 < ys.length)) (D : ZipApart z TI TO i1 i2 l1 l2) (hlen : xs.length ≤ 1000)
    (fin : ∀ H acc s, Inv X pins σ H s → (∀ b o, H0 b = some o → H b = some o) → H q = some (.lst acc) → Items H q xs ys acc → (acc.length = xs.length ∨ acc.length = ys.length) → Rs (.ok (.ret .none)) s) :
    ∀ (m : Nat) (acc : List V) (H : Hp) (s : Shared), xs.length - acc.length = m → Inv X pins σ H s → (∀ b o, H0 b = some o → H b = some o) → H0 q = none → H q = some (.lst acc) → SqT X.K H0 l1 xs → SqT X.K H0 l2 ys → Items H q xs ys acc → acc.length ≤ xs.length → acc.length ≤ ys.length →
      (∀ b ∈ [z, TI, TO, i1, i2], FpOk X pins H b) → Zs z TI TO i1 i2 l1 l2 s.heap acc.length → codeAny (model X.prog X.w) A1 (.builtin "list.extend.loop" ⟨[.ref q, .ref z, .none], []⟩) Rs s := by
  intro m
  induction m using (Nat.strongRecOn) with
  | _ m ih =>
    intro acc H s hm I ext q0 hq t1 t2 its nx ny hf st
    have sq : ∀ {l : Addr} {vs : List V}, SqT X.K H0 l vs → SqT X.K H l vs := fun {l vs} h => by
      rcases h with ((h | ⟨o, h⟩) | h)
      · exact .inl (.inl (ext _ _ h))
      · exact .inl (.inr ⟨o, ext _ _ h⟩)
      · exact .inr h
    obtain ⟨js, rv, m1, _⟩ := I.tuple (sq t1)
    obtain ⟨js2, rv2, m2, _⟩ := I.tuple (sq t2)
    have lx := rv.length
    have ly := rv2.length
    have qf : q ∉ [z, TI, TO, i1, i2] := fun h => by
      have := (hf q h).1
      rw [hq] at this
      cases this
    apply codeAny_builtin PySem.F.entry_extend_loop
    (rw [Around.under_plainId PySem.F.plain_extend_loop _])
    show wpAny _ A1.in1 (pyNext (.ref z) >>= fun _ => _) _ _ s
    by_cases hlt : acc.length < xs.length ∧ acc.length < ys.length
    · have gx := List.getElem?_eq_getElem hlt.1
      have gy := List.getElem?_eq_getElem hlt.2
      generalize xs[acc.length] = vx at gx
      generalize ys[acc.length] = vy at gy
      obtain ⟨u, hu, ru⟩ := rv.get gx
      obtain ⟨u2, hu2, ru2⟩ := rv2.get gy
      refine wpAny_bind (znext_item D st m1 m2 (x := u) (y := u2) (by simpa using hu) (by simpa using hu2) fun hp st2 pr sz kp => ?_)
      have n0 : H s.heap.objs.size = none := I.hok.fresh (Nat.le_refl _)
      have new : ObjOk X.prog X.w (upd H s.heap.objs.size (.tup [vx, vy])) hp s.heap.objs.size (.tup [vx, vy]) := ⟨by show 2 ≤ sizeLine; decide, [u, u2], .cons ru (.cons ru2 .nil), ⟨_, pr, rfl, _, rfl⟩⟩
      have J := I.turnedNew (t' := s.toks) (ch := [z, TI, TO, i1, i2]) (fun c o hb e => kp c o hb e) hf (Nat.le_refl _) new
      have nq : q ≠ s.heap.objs.size := fun e => by rw [e, n0] at hq; cases hq
      have hq2 : upd H s.heap.objs.size (.tup [vx, vy]) q = some (.lst acc) := (upd_ne nq).trans hq
      obtain ⟨_, js3, c3, r3, l3, e3⟩ := J.lstM hq2
      show wpAny _ A1.in1 (updateSeq q (·.push (.ref s.heap.objs.size)) >>= fun _ => _) _ _ _
      have room1 : js3.length ≤ 1000 := by omega
      refine wpAny_bind (wpAny_updateSeq e3 rfl (wpAny_pure ⟨plainId_quiet PySem.F.plain_extend_loop _, ?_⟩) (by rw [List.size_toArray]; exact le_line room1) (by show (js3.toArray.push _).size ≤ sizeLine + 1; rw [Array.size_push, List.size_toArray]; exact Nat.succ_le_succ (le_line room1)))
      have J2 := J.lset (f := (·.push (.ref s.heap.objs.size))) (its' := js3 ++ [.ref s.heap.objs.size]) (ys := acc ++ [.ref s.heap.objs.size]) (t' := s.toks) hq2 e3 (by simp) (r3.append (.cons (show RelV (V.ref s.heap.objs.size) (Value.ref s.heap.objs.size) from rfl) .nil)) (by rw [List.length_append, List.length_singleton]; exact le_line (by omega))
      have ext2 : ∀ b o, H0 b = some o → upd (upd H s.heap.objs.size (.tup [vx, vy])) q (.lst (acc ++ [.ref s.heap.objs.size])) b = some o := fun b o e => by
        have e1 := ext b o e
        have nb : b ≠ q := fun z => by rw [z, q0] at e; cases e
        have nb2 : b ≠ s.heap.objs.size := fun z => by rw [z, n0] at e1; cases e1
        rw [upd_ne nb, upd_ne nb2]
        exact e1
      have la : (acc ++ [V.ref s.heap.objs.size]).length = acc.length + 1 := by rw [List.length_append, List.length_singleton]
      refine ih (xs.length - (acc ++ [V.ref s.heap.objs.size]).length) (by rw [la]; omega) _ _ _ rfl J2 ext2 q0 upd_same t1 t2 (fun i hi => ?_) (by rw [la]; omega) (by rw [la]; omega) (fun b hb => ?_) ?_
      · by_cases hi2 : i < acc.length
        · obtain ⟨T, x, y, g1, g2, g3, g4, g5⟩ := its i hi2
          have nT : T ≠ s.heap.objs.size := fun z => by rw [z, n0] at g4; cases g4
          exact ⟨T, x, y, by rw [List.getElem?_append_left hi2]; exact g1, g2, g3, by rw [upd_ne g5, upd_ne nT]; exact g4, g5⟩
        · have ei : i = acc.length := by rw [la] at hi; omega
          subst ei
          exact ⟨s.heap.objs.size, vx, vy, by rw [List.getElem?_append_right (Nat.le_refl _), Nat.sub_self]; rfl, gx, gy, by rw [upd_ne (Ne.symm nq), upd_same], Ne.symm nq⟩
      · obtain ⟨f1, f2⟩ := hf b hb
        have nb : b ≠ q := fun z => qf (z ▸ hb)
        have nb2 : b ≠ s.heap.objs.size := fun z => by
          obtain ⟨s1, s2, s3, ⟨oO, s5⟩, s4⟩ := st
          have lt : b < s.heap.objs.size := by
            (simp only [List.mem_cons, List.not_mem_nil, or_false] at hb)
            rcases hb with rfl | rfl | rfl | rfl | rfl
            · rcases s4 with ⟨_, w1, _⟩ | ⟨_, _, _, w1, _⟩ <;> exact Heap.lt_size w1
            · exact Heap.lt_size s3
            · exact Heap.lt_size s5
            · obtain ⟨_, w1, _⟩ := s1; exact Heap.lt_size w1
            · obtain ⟨_, w1, _⟩ := s2; exact Heap.lt_size w1
          exact Nat.ne_of_lt lt z
        exact ⟨by rw [upd_ne nb, upd_ne nb2]; exact f1, f2⟩
      · rw [la]
        exact st2.upd qf e3 ⟨_, Heap.get?_update_self _ e3 rfl⟩
    · refine wpAny_bind (ze _ H s _ _ _ _ I hf st m1 m2 (by simp; omega) (hgz.imp id fun g => by simp only [List.size_toArray]; omega) fun hp kp => wpAny_pure ?_)
      have J := I.turnedL (t' := s.toks) (ch := [z, TI, TO, i1, i2]) (h' := hp) (fun c o hb e => kp c o hb e) hf
      exact fin H acc _ J ext hq its (by omega)
theorem zip_no_len : typeLookup (.type "zip") "__len__" = pure none := by rw [typeLookup_type, builtinLookup_eq_fast]; kernel_rfl
theorem zip_no_hint : typeLookup (.type "zip") "__length_hint__" = pure none := by rw [typeLookup_type, builtinLookup_eq_fast]; kernel_rfl
theorem call_listZ {gz : Bool} {s : Shared} {H : Hp} {Q : Value → Shared → Prop} (ze : ZEnd X pins σ X.A.in1.in1 gz z TI TO i1 i2 l1 l2) (hgz : gz = true ∨ (0 < xs.length ∧ 0 < ys.length)) (D : ZipApart z TI TO i1 i2 l1 l2) (I : Inv X pins σ H s) (hlen : xs.length ≤ 1000) (t1 : SqT X.K H l1 xs) (t2 : SqT X.K H l2 ys) (hf : ∀ b ∈ [z, TI, TO, i1, i2], FpOk X pins H b) (old : ∀ b ∈ [z, TI, TO, i1, i2], b < s.heap.objs.size) (hz : IsZip s.heap z TI TO .none) (st : Zs z TI TO i1 i2 l1 l2 s.heap 0)
    (fin : ∀ H2 acc s2 q, Inv X pins σ H2 s2 → (∀ b o, H b = some o → H2 b = some o) → H q = none → H2 q = some (.lst acc) → Items H2 q xs ys acc → (acc.length = xs.length ∨ acc.length = ys.length) → Q (.ref q) s2) :
    wpAny (model X.prog X.w) X.A (call (.type "list") [.ref z]) Q X.xe s := by
  have keep0 : ∀ b o, s.heap.get? b = some o → (s.heap.push { cls := .type "list", data := .seq #[] }).get? b = some o := fun b o e => Heap.get?_push_of_some _ e
  have mine : (s.heap.push { cls := .type "list", data := .seq #[] }).get? s.heap.objs.size = some { cls := .type "list", data := .seq #[] } := Heap.get?_push_size _ rfl
  have n0 : H s.heap.objs.size = none := I.hok.fresh (Nat.le_refl _)
  have qf : s.heap.objs.size ∉ [z, TI, TO, i1, i2] := fun h => Nat.lt_irrefl _ (old _ h)
  have new : ObjOk X.prog X.w (upd H s.heap.objs.size (.lst [])) (s.heap.push { cls := .type "list", data := .seq #[] }) s.heap.objs.size (.lst []) := ⟨Nat.zero_le _, [], 0, .nil, mine⟩
  have J := I.laid (t' := s.toks) keep0 (Nat.le_refl _) new
  refine callType_codes (Q₁ := fun obj s₁ => obj = .ref s.heap.objs.size ∧ s₁ = { s with heap := s.heap.push { cls := .type "list", data := .seq #[] } }) PySem.F.called_list (PySem.F.typeCall_list_1 _) PySem.F.entry_list_init (code_list_new _ ⟨rfl, rfl⟩) ?_
  rintro obj s1 ⟨rfl, rfl⟩
  refine ⟨⟨_, mine, rfl⟩, PySem.F.args_list_init_2 _ _, ?_⟩
  show wpAny _ X.A.in1.in1 (Builtin.List.listItems (.ref s.heap.objs.size) >>= fun old => Builtin.List.listUpdate (.ref s.heap.objs.size) (fun _ => #[]) >>= fun _ => letGo old.toList.reverse >>= fun _ => Builtin.List.listExtendWith (.ref s.heap.objs.size) (.ref z) .none) _ _ _
  have far : ∀ b ∈ [z, TI, TO, i1, i2], b ≠ s.heap.objs.size := fun b hb e => qf (e ▸ hb)
  have zz : z ≠ s.heap.objs.size := far z (by simp)
  unfold Builtin.List.listItems Builtin.List.listUpdate
  refine wpAny_bind (wpAny_bind (wpAny_seqItems mine rfl (wpAny_pure ?_)))
  refine wpAny_bind (wpAny_updateSeq mine rfl (wpAny_bind (wpAny_letGo ?_)))
  have J1 := J.lset (f := fun _ => #[]) (its := []) (its' := []) (ys := []) (t' := s.toks) upd_same mine rfl .nil (Nat.zero_le _)
  have st0 := st.kept keep0
  have st1 := st0.upd (g := Obj.mapSeq fun _ => #[]) qf mine ⟨_, Heap.get?_update_self _ mine rfl⟩
  have hz1 : IsZip ((s.heap.push { cls := .type "list", data := .seq #[] }).update s.heap.objs.size (Obj.mapSeq fun _ => #[])) z TI TO .none := (Heap.get?_update_other _ _ (Ne.symm zz)).trans (keep0 _ _ hz)
  obtain ⟨_, js1, c1, r1, _, e1⟩ := J1.lstM upd_same
  cases r1
  generalize (s.heap.push { cls := .type "list", data := .seq #[] }).update s.heap.objs.size (Obj.mapSeq fun _ => #[]) = hp1 at J1 st1 hz1 e1 ⊢
  have same : Builtin.List.listSameRef (.ref s.heap.objs.size) (.ref z) = false := by simp [Builtin.List.listSameRef, Ne.symm zz]
  (unfold Builtin.List.listExtendWith)
  refine wpAny_bind (wpAny_typeOf (T := "zip") ⟨_, hz1, rfl⟩ ?_)
  simp only [same, show (Value.type "zip" == Value.type "list") = false from by decide, show (Value.type "zip" == Value.type "tuple") = false from by decide, Bool.or_false, Bool.false_eq_true, if_false]
  refine wpAny_bind (wpAny_pyIter_zip hz1 (wpAny_bind (wpAny_holding ?_)))
  (unfold Builtin.List.listLengthHint)
  refine wpAny_bind (wpAny_specialOf (T := "zip") ⟨_, hz1, rfl⟩ zip_no_len (show wpAny _ _ (specialOf (Value.ref z) (Str.ofString "__length_hint__") >>= fun _ => _) _ _ _ from wpAny_bind (wpAny_specialOf (T := "zip") ⟨_, hz1, rfl⟩ zip_no_hint (wpAny_pure ?_))))
  show wpAny _ _ (rule "list.extend.makes-room" >>= fun _ => (updateSeq s.heap.objs.size (·.push .none) >>= fun _ => updateSeq s.heap.objs.size (·.pop)) >>= fun _ => again (.builtin "list.extend.loop" ⟨[.ref s.heap.objs.size, .ref z, .none], []⟩)) _ _ _
  refine wpAny_bind (wpAny_rule (wpAny_bind (wpAny_bind (wpAny_updateSeq e1 rfl ?_))))
  have J2 := J1.lset (f := (·.push Value.none)) (its := []) (its' := [Value.none]) (ys := [.non]) (t' := s.toks) upd_same e1 rfl (.cons rfl .nil) (by show 1 ≤ sizeLine; rw [sizeLine_eq]; decide)
  have st2 := st1.upd (g := Obj.mapSeq (·.push Value.none)) qf e1 ⟨_, Heap.get?_update_self _ e1 rfl⟩
  obtain ⟨_, js2, c2, r2, _, e2⟩ := J2.lstM upd_same
  obtain ⟨u2, rfl, ru2⟩ := r2.one
  refine wpAny_updateSeq e2 rfl (wpAny_pure ⟨plainId_quiet PySem.F.plain_extend_loop _, ?_⟩) (by show 1 ≤ sizeLine; rw [sizeLine_eq]; decide) (Nat.zero_le _)
  have J3 := J2.lset (f := (·.pop)) (its := [u2]) (its' := []) (ys := []) (t' := s.toks) upd_same e2 rfl .nil (Nat.zero_le _)
  have st3 := st2.upd (g := Obj.mapSeq (·.pop)) qf e2 ⟨_, Heap.get?_update_self _ e2 rfl⟩
  rw [upd_upd, upd_upd, upd_upd] at J3
  refine zloop (A1 := X.A.in1) ze hgz D hlen (fun H2 acc s2 K2 ext hq its hl => ?_) xs.length [] _ _ (by rw [List.length_nil]; rfl) J3 (fun b o e => ?_) n0 upd_same t1 t2 (fun i hi => absurd hi (Nat.not_lt_zero i)) (Nat.zero_le _) (Nat.zero_le _) (fun b hb => ?_) st3
  · exact ⟨rfl, fin H2 acc s2 _ K2 ext n0 hq its hl⟩
  · have nb : b ≠ s.heap.objs.size := fun z => by rw [z, n0] at e; cases e
    rw [upd_ne nb]
    exact e
  · obtain ⟨f1, f2⟩ := hf b hb
    exact ⟨by rw [upd_ne (far b hb)]; exact f1, f2⟩
end
theorem trAll_of {H : Hp} : ∀ {ds : List D} {vs : List V}, vs.length = ds.length → (∀ (i : Nat) (d : D), ds[i]? = some d → ∃ v, vs[i]? = some v ∧ Tr H v d) → TrAll H vs ds
  | [], [], _, _ => .nil
  | d :: ds, v :: vs, hl, h => by
    obtain ⟨v', e, t⟩ := h 0 d rfl
    cases e
    exact .cons t (trAll_of (by simpa using hl) fun i d' e => h (i + 1) d' e)
  | [], _ :: _, hl, _ => (by simp at hl)
  | _ :: _, [], hl, _ => (by simp at hl)
section
variable {X : Cx} {C : Cf} {W : WX} {a b : Expr} {fa : CV → Rs (List (D × Md))}
theorem se_listZipG {gz : Bool} {hLZ : List (D × Md) → Option (D × Md)} {p p2 pos2 pos : Pos} (zeG : ∀ (pins : List (Addr × Obj)) (σ : L2.St) (z TI TO i1 i2 l1 l2 : Addr), ZipApart z TI TO i1 i2 l1 l2 → ZEnd X pins σ X.A.in1.in1 gz z TI TO i1 i2 l1 l2)
    (hLz : ∀ ds r, hLZ ds = some r → hListZip ds = some r ∧ (gz = true ∨ ∀ xs m ys m2, ds = [(.tuple xs, m), (.tuple ys, m2)] → 0 < xs.length ∧ 0 < ys.length)) (hm : X.mg "list" = none) (hmz : X.mg "zip" = none) (ha : PA X [a, b] (tA C W fa)) (hK : X.K = C.K := by rfl) (hg : Gl X "list" := by rfl) (hg2 : Gl X "zip" := by rfl)
    (hs : starEach [a, b] X.env = (false, eval a X.env) :: starEach [b] X.env := by rfl) (hpl : (backTo pos2 (starEach [b] X.env)).any (·.1) = false := by rfl) (he0 : starEach [.Call (.Name "zip" p2) [a, b] [] pos2] X.env = (false, eval (.Call (.Name "zip" p2) [a, b] [] pos2) X.env) :: starEach [] X.env := by rfl) :
    PE X (.Call (.Name "list" p) [.Call (.Name "zip" p2) [a, b] [] pos2] [] pos) (tE C W (mCallB hLZ fa)) := by
  constructor
  intro pins s σ H Q I w
  have want : tA C W fa σ H fun vs H1 => ∃ l1 l2 xs ys, vs = [.ref l1, .ref l2] ∧ SqT X.K H1 l1 xs ∧ SqT X.K H1 l2 ys ∧ xs.length ≤ 1000 ∧ (gz = true ∨ (0 < xs.length ∧ 0 < ys.length)) ∧ ∀ H2 acc q, (∀ b o, H1 b = some o → H2 b = some o) → H1 q = none → H2 q = some (.lst acc) → Items H2 q xs ys acc → (acc.length = xs.length ∨ acc.length = ys.length) → Q (.ref q) H2 := by
    obtain ⟨B, P, ρ, hio, re, w⟩ := w
    refine tA_then hio re w fun ds vs H1 s1 re1 ov w1 => ?_
    cases e0 : hLZ ds with
    | none => rw [e0] at w1; exact w1.elim
    | some r =>
      rw [e0] at w1
      obtain ⟨e, enz⟩ := hLz _ _ e0
      unfold hListZip at e
      split at e
      · rename_i xs m ys m2
        split at e
        · rename_i hc
          cases e
          obtain ⟨v, v2, rfl, o1, o2⟩ := ov.two
          obtain ⟨q1, ws1, rfl, sq1, tr1, cl1⟩ := o1.seqT
          obtain ⟨q2, ws2, rfl, sq2, tr2, cl2⟩ := o2.seqT
          have g1 : TrAll (mask (B.M ++ P) H1) ws1 xs := by
            rcases hc.1 with z | z
            · exact cl1 z
            · exact TrAll.lfMask re1.lst tr1 z
          have g2 : TrAll (mask (B.M ++ P) H1) ws2 ys := by
            rcases hc.2.1 with z | z
            · exact cl2 z
            · exact TrAll.lfMask re1.lst tr2 z
          refine ⟨q1, q2, ws1, ws2, rfl, by rw [hK]; exact sq1, by rw [hK]; exact sq2, by rw [g1.length]; exact hc.2.2, (by rw [g1.length, g2.length]; exact enz.imp id fun g => g _ _ _ _ rfl), fun H2 acc q ext n0 hq its hl => ?_⟩
          have sm : Sm H1 H2 := fun b o e => .inl (ext b o e)
          refine w1 _ H2 sm (re1.tab.sm fun P' hP' => ?_) ⟨q, acc, _, rfl, rfl, n0, hq, ?_⟩
          · obtain ⟨ps, e1, _⟩ := re1.tab P' hP'
            rw [ext _ _ e1, e1]
          · have lx := g1.length
            have ly := g2.length
            have nq : ∀ c o, H1 c = some o → c ≠ q := fun c o e z => by rw [z, n0] at e; cases e
            have le : SeqLe (mask (B.M ++ P) H1) (mask (q :: (B.M ++ P)) H2) := by
              refine ⟨fun c zs e => ?_, fun c zs e => ?_⟩
              · obtain ⟨h1, h2⟩ := mask_some e
                rw [mask_out (by simp only [List.mem_cons, not_or]; exact ⟨nq _ _ h2, h1⟩)]
                exact ext _ _ h2
              · obtain ⟨h1, h2⟩ := mask_some e
                rw [mask_out (by simp only [List.mem_cons, not_or]; exact ⟨nq _ _ h2, h1⟩)]
                exact ext _ _ h2
            have lz : acc.length ≤ xs.length ∧ acc.length ≤ ys.length := by
              have key : ∀ i, i < acc.length → i < ws1.length ∧ i < ws2.length := fun i hi => by
                obtain ⟨_, _, _, _, g2, g3, _⟩ := its i hi
                exact ⟨(List.getElem?_eq_some_iff.mp g2).1, (List.getElem?_eq_some_iff.mp g3).1⟩
              cases hn : acc.length with
              | zero => exact ⟨Nat.zero_le _, Nat.zero_le _⟩
              | succ n =>
                obtain ⟨k1, k2⟩ := key n (by omega)
                omega
            have la : acc.length = ((xs.zip ys).map fun p => PyData.tuple [p.1, p.2]).length := by
              rw [List.length_map, List.length_zip]
              omega
            refine trAll_of la fun i d hd => ?_
            have hi : i < acc.length := by rw [la]; exact (List.getElem?_eq_some_iff.mp hd).1
            obtain ⟨T, x, y, i1, i2, i3, i4, i5⟩ := its i hi
            refine ⟨.ref T, i1, ?_⟩
            rw [List.getElem?_map] at hd
            obtain ⟨⟨dx, dy⟩, hz, rfl⟩ := Option.map_eq_some_iff.mp hd
            obtain ⟨z1, z2⟩ := List.getElem?_zip_eq_some.mp hz
            obtain ⟨x', e1, tx⟩ := g1.get z1
            obtain ⟨y', e2, ty⟩ := g2.get z2
            rw [i2] at e1
            cases e1
            rw [i3] at e2
            cases e2
            refine .tup ?_ (.cons (Tr.mono le _ _ tx) (.cons (Tr.mono le _ _ ty) .nil))
            rw [mask_out (by
              simp only [List.mem_cons, not_or]
              refine ⟨i5, fun z => ?_⟩
              obtain ⟨o, e, c⟩ := (re1.lst.sm sm) T z
              rw [i4] at e
              cases e
              rcases c with ⟨_, y⟩ | ⟨_, _, _, y⟩ <;> cases y)]
            exact i4
        · cases e
      · cases e
  refine wpAny_Call_Name_kw (ld_blt I hg hm (show bootBuiltins "list" = some (.type "list") by decide +kernel) (PyProof.Rows.callWith_type1 ?_ he0 rfl))
  rw [he0]
  show wpAny _ _ (spliced ((false, eval (.Call (.Name "zip" p2) [a, b] [] pos2) X.env) :: backTo pos (starEach [] X.env))) _ _ s
  refine Calls.spliced_cons (wpAny_Call_Name_kw (ld_blt I hg2 hmz PyProof.Rows.boot_zip (PyProof.Rows.callWith_type1 (thn (ha.run pos2 pins s σ H _ I want) fun us s1 ⟨vs, H1, I1, r1, q1⟩ => ?_) hs hpl)))
  obtain ⟨l1, l2, xs, ys, rfl, t1, t2, hlen, hgz, next⟩ := q1
  cases r1 with
  | cons r rr =>
    cases rr with
    | cons r' rr =>
      cases rr
      cases r
      cases r'
      obtain ⟨js, rv, m1, _⟩ := I1.tuple t1
      obtain ⟨js2, rv2, m2, _⟩ := I1.tuple t2
      have b1 : l1 < s1.heap.objs.size := by obtain ⟨o, h, _⟩ := id m1; exact Heap.lt_size h
      have b2 : l2 < s1.heap.objs.size := by obtain ⟨o, h, _⟩ := id m2; exact Heap.lt_size h
      refine RZ.call_zipT (show s1.heap.IsTuple l1 js.toArray from m1) (show s1.heap.IsTuple l2 js2.toArray from m2) fun hp hz pr out c1 c2 sz kp => Calls.spliced_nil ?_
      have I2 : Inv X pins σ H1 { s1 with heap := hp } := I1.kept (t' := s1.toks) kp
      refine call_listZ (s := { s1 with heap := hp }) (zeG pins σ _ _ _ _ _ _ _ (PySem.W.ktu_apart s1.heap.objs.size l1 l2 b1 b2)) hgz (PySem.W.ktu_apart s1.heap.objs.size l1 l2 b1 b2) I2 hlen t1 t2 (fun c hc => ?_) (fun c hc => ?_) hz ⟨c1, c2, pr, ⟨_, out⟩, .inl ⟨rfl, hz, _, _, out⟩⟩ fun H2 acc s2 q J ext n0 hq its hl => ⟨.ref q, H2, J, rfl, next H2 acc q ext n0 hq its hl⟩
      · have ge : s1.heap.objs.size ≤ c := by
          simp only [List.mem_cons, List.not_mem_nil, or_false] at hc
          rcases hc with rfl | rfl | rfl | rfl | rfl
          · exact Nat.le_add_right _ _
          · exact Nat.le_add_right _ _
          · exact Nat.le_add_right _ _
          · exact Nat.le_refl _
          · exact Nat.le_add_right _ _
        exact I1.fpOk ge (I1.hok.fresh ge)
      · show c < hp.objs.size
        rw [sz]
        simp only [List.mem_cons, List.not_mem_nil, or_false] at hc
        rcases hc with rfl | rfl | rfl | rfl | rfl
        · exact Nat.add_lt_add_left (by decide) _
        · exact Nat.add_lt_add_left (by decide) _
        · exact Nat.add_lt_add_left (by decide) _
        · exact Nat.lt_add_of_pos_right (by decide)
        · exact Nat.add_lt_add_left (by decide) _
theorem se_listZip {k : Nat} {p p2 pos2 pos : Pos} (hr : Room k X.A) (hm : X.mg "list" = none) (hmz : X.mg "zip" = none) (ha : PA X [a, b] (tA C W fa)) (hK : X.K = C.K := by rfl) (hg : Gl X "list" := by rfl) (hg2 : Gl X "zip" := by rfl)
    (hs : starEach [a, b] X.env = (false, eval a X.env) :: starEach [b] X.env := by rfl) (hpl : (backTo pos2 (starEach [b] X.env)).any (·.1) = false := by rfl) (he0 : starEach [.Call (.Name "zip" p2) [a, b] [] pos2] X.env = (false, eval (.Call (.Name "zip" p2) [a, b] [] pos2) X.env) :: starEach [] X.env := by rfl) :
    PE X (.Call (.Name "list" p) [.Call (.Name "zip" p2) [a, b] [] pos2] [] pos) (tE C W (mCallB hListZip fa)) :=
  se_listZipG (gz := true) (fun pins σ z TI TO i1 i2 l1 l2 D => zEnd_calm (show X.A.in1.in1.handled = none from hr.hd) D) (fun ds r e => ⟨e, .inl rfl⟩) hm hmz ha hK hg hg2 hs hpl he0
end
end Eng

set_option Elab.async false
set_option linter.all false
set_option maxRecDepth 100000
set_option maxHeartbeats 2345678
namespace Eng
open PySem PySem.Spec
open PyProof.Rows L2 GxR

/-! ### all(f(x) for x in a text), f a def -/
/-- the element, asked only where the base still stands, at bounded depth -/
def EltD (prog : Program) (w : World) (K : PySem.W.Frag) (mg : Str → Option Value) (base : Heap) (D U : Nat) (scope : Scope) (x : Str) (elt : Expr) (pb : Nat → Bool) : Prop :=
  Mod K mg base → ∀ (cenv : Env) (A' : Around) (E' : Value → Shared → Prop) (c : Nat) (t : Tok) (s₂ : Shared) (m₂ : Str → Option Value), cenv.scope = scope → cenv.globals = mainGlobals → A'.handled = none → A'.depth ≤ D → A'.units ≤ U →
    (∀ b o, base.get? b = some o → s₂.heap.get? b = some o) → s₂.heap.Ns cenv.locals m₂ → m₂ x = some (.str ⟨#[c]⟩ t) →
    wpAny (model prog w) A' (eval elt cenv) (fun u st => u = .bool (pb c) ∧ Keeps s₂ st) E' s₂
/-- an element that is asked so is quiet: its frame C, the walked iterator alone is written -/
theorem quiet_elt {prog : Program} {w : World} {K : PySem.W.Frag} {mg : Str → Option Value} {base : Heap} {dep cu : Nat} {sc : Scope} {y : Str} {el : Expr} {pb : Nat → Bool} {env : Env} {cl : List (Str × Addr)} {fr bi it : Addr} {co : Value} {txt : Str} {fpr : List Addr} {hr : Heap}
    (he : EltD prog w K mg base dep cu sc y el pb) (md : Mod K mg base) (hglob : env.globals = mainGlobals) (hstay : ∀ b o, base.get? b = some o → b ∈ fpr ∧ b ≠ it ∧ hr.get? b = some o) :
    QuietGenD prog w (genEnv sc cl fr co bi env) y [] el fpr [it] (SignAt txt) (fun _ => true) (fun i u => ∃ n, txt.cps[i]? = some n ∧ u = .bool (pb n)) hr dep cu := by
  constructor
  · intros
    exact wpAny_pure (by exact ⟨rfl, keeps_refl _⟩)
  · rintro A1 E1 i v st mp hh1 hdp hcu ⟨n, tk, hn, rfl⟩ - hns hy hsame
    have asked := he md (genEnv sc cl fr co bi env) A1 E1 n tk st mp rfl hglob hh1 hdp hcu (fun b o hb => (hstay b o hb).elim fun m1 r => hsame b m1 (by simpa using r.1) o r.2) hns hy
    exact wpAny_mono asked (fun u st2 hu => ⟨⟨n, hn, hu.1⟩, hu.2⟩) fun _ _ z => z
/-- the code object of a generator expression: found in the def's table, or made and put there -/
theorem gen_code {prog : Program} {w : World} {A : Around} {E : Value → Shared → Prop} {env : Env} {co tb : Addr} {at_ : Pos} {qn : Str} {sc : Scope} {rows : Array Value} {st : Shared} {Q : Value → Shared → Prop}
    (hcode : env.code = .ref co) (cd : PySem.W.CodeHd st.heap co tb) (htb : st.heap.get? tb = some { cls := .none, data := .fields rows }) (ht : TriplesOk rows.toList)
    (go : ∀ (cv : Value) (hp : Heap) (tk : Nat) (add : Array Value), Heap.ExtBut tb st.heap hp → st.heap.objs.size ≤ hp.objs.size → hp.get? tb = some { cls := .none, data := .fields (rows ++ add) } → TriplesOk (rows ++ add).toList → Q cv { st with heap := hp, toks := tk }) :
    wpAny (model prog w) A (genexprCode env at_ qn sc) Q E st := by
  cases found : codeAmong at_ rows.toList with
  | some cv =>
    have r0 : rows ++ #[] = rows := by simp
    exact wpAny_genexprCode_hit hcode (cd.code htb ht) found (go cv st.heap st.toks #[] (Heap.ExtBut.refl _ _) (Nat.le_refl _) (by rw [r0]; exact htb) (by rw [r0]; exact ht))
  | none =>
    refine wpAny_genexprCodeX hcode (cd.code htb ht) (cd.tab htb) found ?_
    intro cn hp tk ext ge lt isC _ isT _
    have trip : TriplesOk (rows ++ #[rawInt at_.line, rawInt at_.col, .ref cn]).toList := by
      unfold Heap.IsCode at isC
      obtain ⟨_, _, _, _, _, _, _, _, _, _, _, _, _, _, _, _, _, _, _, tr, _⟩ := isC
      exact tr
    exact go (.ref cn) hp tk _ ext (by omega) isT.2 trip
section
variable {X : Cx} {pins : List (Addr × Obj)} {σ : L2.St}
/-- all(el for y in a text): the promise for the element asked at bounded depth -/
theorem pe_allD {co tb : Addr} {el src : Expr} {y : Str} {py p pos gp : Pos} {sc : Scope} {pb : Nat → Bool} {te : TE} {k : Nat}
    (hr : Room k X.A) (hg : Gl X "all") (hm : X.mg "all" = none) (hb : bootBuiltins "all" = some (.builtin "all")) (TB : TabB X.base X.mg co tb) (hcode : X.env.code = .ref co) (S : GenS X.env sc y) (hsrc : PE X src te)
    (hel : EltD X.prog X.w X.K X.mg X.base (X.A.depth + 1) (X.A.units + 8) sc y el pb) (hs : ∀ v, genFold src X.env v = pure v)
    (he : starEach [.GeneratorExp el [⟨.Name y py, src, [], 0⟩] sc gp] X.env = (false, eval (.GeneratorExp el [⟨.Name y py, src, [], 0⟩] sc gp) X.env) :: starEach [] X.env := by rfl) :
    PE X (.Call (.Name "all" p) [.GeneratorExp el [⟨.Name y py, src, [], 0⟩] sc gp] [] pos) (tAllS tb pb te) := by
  constructor
  intro pins st σ Hp0 Q inv0 want
  apply wpAny_Call_Name_kw
  refine ld_blt inv0 hg hm hb (PyProof.Rows.callWith_builtin1 ?_ he (by rfl))
  rw [he]
  apply Calls.spliced_cons
  refine wpAny_GeneratorExp_walksQD hr.hd S.co (closure_ok S.free) S.cell S.dot S.loc S.kind hr.depth ?_ hs
  refine wpAny_mono (hsrc.run pins st σ Hp0 _ inv0 want) ?_ fun _ _ z => z
  rintro xv st1 ⟨v, H1, inv, rel, txt, rfl, ⟨rows, hrows, trip⟩, next⟩
  cases rel with
  | intro tk e =>
  subst e
  apply wpAny_pyIter_str
  intro itO W walks w0
  -- what stands before the generator
  have tabS := inv.hok tb _ hrows
  replace tabS : st1.heap.get? tb = some { cls := .none, data := .fields rows } := tabS
  have stays : ∀ b o, st1.heap.get? b = some o → (st1.heap.push itO).get? b = some o := fun b o q => Heap.get?_push_of_some _ q
  have grown : (st1.heap.push itO).objs.size = st1.heap.objs.size + 1 := Heap.size_push ..
  have stat : cStatics < st1.heap.objs.size ∧ cStatics ≠ tb := by
    obtain ⟨_, q, _⟩ := inv.nolimit
    refine ⟨q.lt, ?_⟩
    rintro rfl
    obtain ⟨ob, es, ep, h1, h2, _⟩ := q
    rw [tabS] at h1
    cases h1
    cases h2
  have tbIt : tb < st1.heap.objs.size := Heap.lt_size tabS
  refine ⟨inv.nolimit.push itO, gen_code hcode (TB.code.keeps fun b o q => stays b o (inv.bk b o q)) (stays tb _ tabS) trip ?_⟩
  intro cv hp tk2 add ext ge tabN tripN
  have onTop : ∀ b o, b ≠ tb → st1.heap.get? b = some o → hp.get? b = some o := fun b o n q => ext b o n (stays b o q)
  have big : st1.heap.objs.size + 1 ≤ hp.objs.size := by rw [← grown]; exact ge
  obtain ⟨bm, ob, m1, m2, m3, m4, m5, m6, m7, m8⟩ := TB.bm
  apply wpAny_builtinsFor (m := X.mg) _ m1 m2 (onTop bm ob m4 (inv.bk bm ob m5)) m6 m7 m8
  rotate_left
  · rw [inv.ok.glob]
    exact ((inv.mod.glob.keeps inv.bk).push itO).extBut ext TB.gP
  let I : Addr := st1.heap.objs.size
  refine ⟨I, [I], [I], txt.cps.size, SignAt txt, W, fun _ => true, _, rfl, walks, ?st0, ?below, (inv.nolimit.push itO).extBut ext stat.2, ?notS, fun hf hhf => quiet_elt hel inv.mod inv.ok.glob ?still, ?made⟩
  case st0 =>
    apply (walks X.A hr.hd).frame _ _ _ w0
    intro b hb o q
    rw [List.mem_singleton.mp hb] at q ⊢
    exact ext _ o (Nat.ne_of_gt tbIt) q
  case below =>
    intro b hb
    rw [List.mem_singleton.mp hb]
    exact big
  case notS =>
    intro z
    exact Nat.lt_irrefl _ ((List.mem_singleton.mp z) ▸ stat.1)
  case still =>
    intro b o q
    have q1 := inv.bk b o q
    have lt := Heap.lt_size q1
    refine ⟨List.mem_range.mpr (Nat.lt_of_lt_of_le lt (Nat.le_of_succ_le big)), Nat.ne_of_lt lt, hhf b o (onTop b o ?_ q1)⟩
    rintro rfl
    exact absurd ((inv.bs b o q).2.symm.trans hrows) (by simp)
  case made =>
    intro g h5 tk5 gs bare gt sz keep5 WS at0
    have n0 : (passing (fun _ => true) txt.cps.size 0) = List.range txt.cps.size := GxR.passing_true _
    rw [n0, List.length_range] at WS
    -- the state behind the call, whatever the walk has moved
    have held : ∀ s2, Moved (hp.objs.size :: [I]) (GenOnlyQ st1.gens.size) { st1 with gens := st1.gens.push gs, toks := tk5, heap := h5 } s2 → Inv X pins σ (upd H1 tb (.tbl (rows ++ add))) s2 := by
      intro s2 mv
      have same : ∀ b o, st1.heap.get? b = some o → b ∉ hp.objs.size :: [I] := by
        intro b o q z
        have lt : b < I := Heap.lt_size q
        simp only [List.mem_cons, List.not_mem_nil, or_false] at z
        rcases z with rfl | rfl
        · exact absurd (Nat.lt_of_lt_of_le lt (Nat.le_of_succ_le big)) (Nat.lt_irrefl _)
        · exact Nat.lt_irrefl _ lt
      have fin := inv_tab (σ := σ) (more := add) (h' := s2.heap) (g' := s2.gens) (d' := s2.drawn) (t' := s2.toks) inv hrows (fun b o n q => mv.heap b o (same b o q) (keep5 b o (onTop b o n q))) (mv.heap tb _ (same tb _ tabS) (keep5 tb _ tabN)) (AllBare.movedS (inv.bare.push bare) mv)
      rwa [sh_eta st1 s2 mv.os] at fin
    apply Calls.spliced_nil
    have WS1 := WS.in4_1
    refine call_all_walkS (WS1.self 0 _ _ _ at0 ⟨g, _, _, _, _, _, _, trF pb txt.cps.toList, rfl, WS1, at0, ?truth, fun s2 mv => ?_⟩)
    case truth =>
      rintro j u sj Qj Ej ⟨i, hi, n, hn, rfl⟩ qj
      have ij : i = j := by
        have := (List.getElem?_eq_some_iff.mp hi).2
        simpa using this.symm
      subst ij
      apply wpAny_truthy_bool
      rw [← trF_some (pb := pb) (l := txt.cps.toList) (j := i) (by simpa using hn)]
      exact qj
    · rw [all_signs txt pb]
      exact ⟨.bl _, _, held s2 mv, rfl, next _ ⟨⟨_, upd_same, tripN⟩, fun b n => upd_ne n⟩⟩
end

/-! ### the element f(x), f's body one test of the sign -/
/-- the same in any context -/
def EltH (prog : Program) (w : World) (K : PySem.W.Frag) (mg : Str → Option Value) (base : Heap) (D : Nat) (scope : Scope) (x : Str) (elt : Expr) (pb : Nat → Bool) : Prop :=
  Mod K mg base → ∀ (cenv : Env) (A' : Around) (E' : Value → Shared → Prop) (c : Nat) (t : Tok) (s₂ : Shared) (m₂ : Str → Option Value), cenv.scope = scope → cenv.globals = mainGlobals → A'.depth ≤ D →
    (∀ b o, base.get? b = some o → s₂.heap.get? b = some o) → s₂.heap.Ns cenv.locals m₂ → m₂ x = some (.str ⟨#[c]⟩ t) →
    wpAny (model prog w) A' (eval elt cenv) (fun u st => u = .bool (pb c) ∧ Keeps s₂ st) E' s₂
theorem EltH.d {prog : Program} {w : World} {K : PySem.W.Frag} {mg : Str → Option Value} {base : Heap} {D U : Nat} {scope : Scope} {x : Str} {elt : Expr} {pb : Nat → Bool} (h : EltH prog w K mg base D scope x elt pb) : EltD prog w K mg base D U scope x elt pb :=
  fun M cenv A' E' c t s₂ m₂ h1 h2 _ h4 _ h6 h7 h8 => h M cenv A' E' c t s₂ m₂ h1 h2 h4 h6 h7 h8
/-- a def's call from the generator's frame; body: what its one sign makes of it -/
theorem elt_callH {prog : Program} {w : World} {K : PySem.W.Frag} {mg : Str → Option Value} {base : Heap} {D : Nat} {f : Addr} {fd : FuncData} {st : Stmt} {fn x y : Str} {p1 p2 p3 : Pos} {scope : Scope} {pb : Nat → Bool}
    (F : Fun K fn fn st f fd) (S : FnScope [y] [y] (defScope st)) (hbd : Binds K fd [y] []) (hf : mg fn = some (.ref f)) (hD : D < recursionLimit)
    (hk : scope.kind = .function) (hg : scope.names.lookup fn = some .globalImplicit) (hl : scope.names.lookup x = some .local)
    (body : ∀ (env : Env) (A' : Around) (E' : Value → Shared → Prop) (c : Nat) (t : Tok) (s₂ : Shared) (m₂ : Str → Option Value), env.scope = defScope st → env.globals = mainGlobals →
      s₂.heap.Ns mainGlobals mg → s₂.heap.Ns env.locals m₂ → m₂ y = some (.str ⟨#[c]⟩ t) → wpAny (model prog w) A' (execs (defBody st) env) (fun r s₃ => r = .ret (.bool (pb c)) ∧ Keeps s₂ s₃) E' s₂)
    (hyl : (defScope st).names.lookup y = some .local) (hd : (fn == ("__debug__" : Str)) = false := by decide) (hd2 : (x == ("__debug__" : Str)) = false := by decide)
    (he : ∀ env : Env, starEach [.Name x p2] env = (false, eval (.Name x p2) env) :: starEach [] env := by intro _; rfl) (hpl : ∀ env : Env, (backTo p3 (starEach [] env)).any (·.1) = false := by intro _; rfl) :
    EltH prog w K mg base D scope x (.Call (.Name fn p1) [.Name x p2] [] p3) pb := by
  intro M cenv A' E' c t s₂ m₂ hsc hgl hdp hbk hn hm
  have kin : K.In s₂.heap := M.kin.keeps hbk
  have lim : s₂.heap.NoLimit := M.nolimit.keeps hbk
  obtain ⟨_, _, _, _, _, _, cdv, _, _, rfl, lk, hcd⟩ := F.ex
  refine wpAny_Call_Name_kw (Calls.Name_function_global (by rw [hsc]; exact hk) (show cenv.scope.names.lookup fn = _ by rw [hsc]; exact hg) (Calls.loadGlobal_global (by rw [hgl]; exact M.glob.keeps hbk) hf ?_) hd)
  refine PySem.W.callWith_K (h₀ := s₂.heap) kin F.kp ?_ (he cenv) (hpl cenv)
  rw [he cenv]
  show wpAny _ _ (spliced ((false, eval (.Name x p2) cenv) :: backTo p3 (starEach [] cenv))) _ _ s₂
  refine Calls.spliced_cons (wpAny_Name (wpAny_loadName_local (by rw [hsc]; exact hk) (show cenv.scope.names.lookup x = some .local by rw [hsc]; exact hl) hn hm ?_) hd2)
  refine Calls.spliced_nil ⟨kin, ?_⟩
  have b := hbd s₂ [.str ⟨#[c]⟩ t] kin rfl
  rw [List.append_nil] at b
  have hkind : ∀ z ∈ [y].zip [Value.str ⟨#[c]⟩ t], (defScope st).names.lookup z.1 = some .local ∨ ((defScope st).names.lookup z.1 = some .cell ∧ ((cellsFrom (s₂.heap.objs.size + 1) (defScope st).names []).lookup z.1).isSome = true) := fun ⟨n, v⟩ hz => by
    rcases S.par n (List.of_mem_zip hz).1 with q | q
    · exact .inl q
    · exact .inr (And.intro q (PySem.W.cellsFrom_some _ _ _ (.inl q)))
  refine wpAny_call (codeAny_call_function (by have := hD; omega) (kin _ _ lk) rfl S.co S.gen rfl (PySem.W.codeRec_of kin hcd) (b _ _ _ _ ?_))
  refine wpAny_newFunctionEnv_cells S.kind hkind fun env heq s1 xin => ?_
  subst heq
  refine ⟨lim.keeps xin.toInCall.keep, codeAny_func ?_⟩
  obtain ⟨h', tk, es, hkp⟩ := xin.done
  refine wpAny_mono (body _ _ _ c t s1 _ rfl rfl ((M.glob.keeps hbk).keeps xin.toInCall.keep) xin.toInCall.ns (bindL_get (i := 0) (by simp) rfl rfl hyl)) (fun r s3 hq => ?_) fun _ _ e => e
  · obtain ⟨rfl, h2, k2, e2, kp2⟩ := hq
    refine ⟨rfl, h2, k2, ?_, fun b o e => kp2 b o (xin.toInCall.keep b o e)⟩
    rw [e2, es]
/-- return '!' <= y <= '~' and y not in SINGLES -/
def inB (z : Str) (c : Nat) : Bool := !decide ([c] < [33]) && (!decide ([126] < [c]) && !decide (c ∈ z.cps.toList))
theorem keeps_trans {s s1 s2 : Shared} (a : Keeps s s1) (b : Keeps s1 s2) : Keeps s s2 := by
  obtain ⟨h1, t1, rfl, k1⟩ := a
  obtain ⟨h2, t2, rfl, k2⟩ := b
  exact ⟨h2, t2, rfl, fun b o e => k2 b o (k1 b o e)⟩
theorem body_inner {prog : Program} {w : World} {mg : Str → Option Value} {st : Stmt} {y : Str} {z : Str} {j1 j2 : Nat} {p1 p2 p3 p4 p5 p6 p7 p8 p9 : Pos} (hks : (defScope st).kind = .function) (hy : (defScope st).names.lookup y = some .local)
    (hs : (defScope st).names.lookup ("SINGLES" : Str) = some .globalImplicit) (hz : ∃ t, mg "SINGLES" = some (.str z t))
    (hb : defBody st = [.Return (some (.BoolOp .And [.Compare (.Constant (.str "!") j1 p1) [.LtE, .LtE] [.Name y p2, .Constant (.str "~") j2 p3] p4, .Compare (.Name y p5) [.NotIn] [.Name "SINGLES" p6] p7] p8)) p9]) (hd : (y == ("__debug__" : Str)) = false) :
    ∀ (env : Env) (A' : Around) (E' : Value → Shared → Prop) (c : Nat) (t : Tok) (s₂ : Shared) (m₂ : Str → Option Value), env.scope = defScope st → env.globals = mainGlobals →
      s₂.heap.Ns mainGlobals mg → s₂.heap.Ns env.locals m₂ → m₂ y = some (.str ⟨#[c]⟩ t) → wpAny (model prog w) A' (execs (defBody st) env) (fun r s₃ => r = .ret (.bool (inB z c)) ∧ Keeps s₂ s₃) E' s₂ := by
  intro env A' E' c t s₂ m₂ hsc hgl hns hn hm
  obtain ⟨tz, hz⟩ := hz
  rw [hb]
  have ldy : ∀ {p : Pos} {Q : Value → Shared → Prop} {s3 : Shared}, Keeps s₂ s3 → Q (.str ⟨#[c]⟩ t) s3 → wpAny (model prog w) A' (eval (.Name y p) env) Q E' s3 := fun {p Q s3} k q => by
    obtain ⟨h', tk, rfl, kp⟩ := k
    exact wpAny_Name (wpAny_loadName_local (by rw [hsc]; exact hks) (show env.scope.names.lookup y = some .local by rw [hsc]; exact hy) (hn.keeps kp) hm q) hd
  have lds : ∀ {p : Pos} {Q : Value → Shared → Prop} {s3 : Shared}, Keeps s₂ s3 → Q (.str z tz) s3 → wpAny (model prog w) A' (eval (.Name "SINGLES" p) env) Q E' s3 := fun {p Q s3} k q => by
    obtain ⟨h', tk, rfl, kp⟩ := k
    exact Calls.Name_function_global (by rw [hsc]; exact hks) (show env.scope.names.lookup _ = some .globalImplicit by rw [hsc]; exact hs) (Calls.loadGlobal_global (by rw [hgl]; exact hns.keeps kp) hz q)
  have kk : ∀ {s3 : Shared} {n : Nat}, Keeps s₂ s3 → Keeps s₂ { s3 with toks := n } := fun {s3 n} k => keeps_trans k (keeps_tok s3 n)
  have k1 : Keeps s₂ { s₂ with toks := s₂.toks + 1 } := keeps_tok s₂ _
  refine wpAny_execs_cons (thn (wpAny_Return_some (Q := fun fl s3 => fl = .ret (.bool (inB z c)) ∧ Keeps s₂ s3) (wpAny_And2 ?_)) fun fl s3 ⟨e, k⟩ => ?_)
  · have chain : ∀ (Qc : Bool → Shared → Prop), (∀ b s3, b = (!decide ([c] < [33]) && !decide ([126] < [c])) → Keeps s₂ s3 → Qc b s3) →
        wpAny (model prog w) A' (eval (.Compare (.Constant (.str "!") j1 p1) [.LtE, .LtE] [.Name y p2, .Constant (.str "~") j2 p3] p4) env) (fun v s3 => ∃ b, v = .bool b ∧ Qc b s3) E' s₂ := fun Qc hq => by
      refine Compare_chain (Calls.Constant_str (chain_link (ldy k1 (PySem.P.le_str (wpAny_truthy_bool ?_))))) rfl
      have e1 : (!decide ((⟨#[c]⟩ : Str).cps.toList < ("!" : Str).cps.toList)) = !decide ([c] < [33]) := rfl
      rw [e1]
      cases h1 : !decide ([c] < [33]) with
      | false => exact ite_ff ⟨false, rfl, hq false _ (by rw [h1]; rfl) k1⟩
      | true =>
        refine ite_tt (chain_last (Calls.Constant_str (PySem.P.le_str ⟨_, rfl, hq _ _ ?_ (kk k1)⟩)))
        rw [h1]
        rfl
    refine wpAny_mono (chain (fun b s3 => b = (!decide ([c] < [33]) && !decide ([126] < [c])) ∧ Keeps s₂ s3) fun b s3 e k => ⟨e, k⟩) (fun v s3 ⟨b, ev, eb, k⟩ => ?_) fun _ _ e => e
    subst ev
    refine wpAny_truthy_bool ?_
    cases hb2 : b with
    | false =>
      refine ite_ff ⟨?_, k⟩
      rw [hb2] at eb
      unfold inB
      rw [← Bool.and_assoc, ← eb]
      rfl
    | true =>
      refine ite_tt (wpAny_Compare1 (ldy k (lds k (PyProof.Rows.notIn_str ⟨?_, k⟩))))
      rw [hb2] at eb
      unfold inB
      rw [← Bool.and_assoc, ← eb, Bool.true_and, ← PySem.StrLaws.found_one z c]
  · subst e
    exact ⟨rfl, k⟩
end Eng

set_option Elab.async false
set_option linter.all false
set_option maxRecDepth 100000
set_option maxHeartbeats 1234567
namespace Eng
open PySem PySem.Spec
open PyProof.Rows L2 GxR

/-- fn(x) as an element, wherever it stands -/
structure EltF (prog : Program) (w : World) (K : PySem.W.Frag) (mg : Str → Option Value) (base : Heap) (fn x : Str) (pb : Nat → Bool) : Prop where
  run : ∀ (p1 p2 p3 : Pos) (scope : Scope) (D : Nat), D < recursionLimit → scope.kind = .function → scope.names.lookup fn = some .globalImplicit → scope.names.lookup x = some .local → EltH prog w K mg base D scope x (.Call (.Name fn p1) [.Name x p2] [] p3) pb
theorem eltF_of {prog : Program} {w : World} {K : PySem.W.Frag} {mg : Str → Option Value} {base : Heap} {f : Addr} {fd : FuncData} {st : Stmt} {fn x y : Str} {pb : Nat → Bool}
    (F : Fun K fn fn st f fd) (S : FnScope [y] [y] (defScope st)) (hbd : Binds K fd [y] []) (hf : mg fn = some (.ref f))
    (body : ∀ (env : Env) (A' : Around) (E' : Value → Shared → Prop) (c : Nat) (t : Tok) (s₂ : Shared) (m₂ : Str → Option Value), env.scope = defScope st → env.globals = mainGlobals →
      s₂.heap.Ns mainGlobals mg → s₂.heap.Ns env.locals m₂ → m₂ y = some (.str ⟨#[c]⟩ t) → wpAny (model prog w) A' (execs (defBody st) env) (fun r s₃ => r = .ret (.bool (pb c)) ∧ Keeps s₂ s₃) E' s₂)
    (hyl : (defScope st).names.lookup y = some .local) (hd : (fn == ("__debug__" : Str)) = false := by decide) (hd2 : (x == ("__debug__" : Str)) = false := by decide) : EltF prog w K mg base fn x pb :=
  ⟨fun p1 p2 p3 scope D hD hk hg hl => elt_callH F S hbd hf hD hk hg hl body hyl hd hd2⟩
/-- all(fn(x) for x in a text) -/
def mAllS (pb : Nat → Bool) (f : CV → Rs (D × Md)) : CV → Rs (D × Md) := fun ρ => (f ρ).bind fun x => match x.1 with
  | .str a => .ok (.bool (a.cps.toList.all pb), .cl)
  | _ => .no
section
variable {X : Cx} {C : Cf} {W : WX} {f : CV → Rs (D × Md)} {iter : Expr}
theorem Tabbed.sm {P : Addr} {T : List Addr} {H H' : Hp} (t : Tab T H) (hP : P ∈ T) (h : Tabbed P H H') : Sm H H' ∧ Tab T H' := by
  obtain ⟨h1, h2⟩ := h
  obtain ⟨ps, e1, e2⟩ := t P hP
  obtain ⟨ps', f1, f2⟩ := h1
  refine ⟨fun a o e => ?_, fun q hq => ?_⟩
  · by_cases ha : a = P
    · subst ha
      rw [e1] at e
      cases e
      exact .inr ⟨ps, ps', rfl, f1⟩
    · exact .inl (by rw [h2 a ha]; exact e)
  · by_cases ha : q = P
    · subst ha
      exact ⟨ps', f1, f2⟩
    · obtain ⟨qs, g1, g2⟩ := t q hq
      exact ⟨qs, by rw [h2 q ha]; exact g1, g2⟩
theorem se_allF {c Pt : Addr} {k : Nat} {fn x : Str} {pb : Nat → Bool} {scope : Scope} {px p pos gpos p1 p2 p3 : Pos} (E : EltF X.prog X.w X.K X.mg X.base fn x pb) (hr : Room k X.A) (hP : Pt ∈ C.T) (TB : TabB X.base X.mg c Pt) (hcode : X.env.code = .ref c) (hm : X.mg "all" = none) (hi : PE X iter (tE C W f))
    (hkd : scope.kind = .function := by rfl) (hco : scope.isCoroutine = false := by rfl) (hce : ∀ y ∈ scope.names, y.2 ≠ .cell := by decide +kernel) (hfr : ∀ y ∈ scope.names, y.2 ≠ .free := by decide +kernel) (hdt : scope.names.lookup (".0" : Str) = some NameKind.local := by rfl)
    (hfn : scope.names.lookup fn = some .globalImplicit := by rfl) (hx : scope.names.lookup x = some .local := by rfl) (hg : Gl X "all" := by rfl) (hs : ∀ v, genFold iter X.env v = pure v := by intro _; rfl)
    (he : starEach [.GeneratorExp (.Call (.Name fn p1) [.Name x p2] [] p3) [⟨.Name x px, iter, [], 0⟩] scope gpos] X.env = (false, eval (.GeneratorExp (.Call (.Name fn p1) [.Name x p2] [] p3) [⟨.Name x px, iter, [], 0⟩] scope gpos) X.env) :: starEach [] X.env := by rfl) :
    PE X (.Call (.Name "all" p) [.GeneratorExp (.Call (.Name fn p1) [.Name x p2] [] p3) [⟨.Name x px, iter, [], 0⟩] scope gpos] [] pos) (tE C W (mAllS pb f)) :=
  PE.imp (pe_allD hr hg hm (by decide +kernel) TB hcode ⟨hkd, hco, hce, hdt, hx, fun y hy e => absurd e (hfr y hy)⟩ hi (E.run p1 p2 p3 scope _ (by have := hr.dp; omega) hkd hfn hx).d hs he) fun σ H Q w => by
    obtain ⟨B, P, ρ, hio, re, w⟩ := w
    refine tE_then hio re w fun d m v H1 s re1 vr w1 => ?_
    have o1 := VR.ov re.lst vr
    cases d <;> try exact w1.elim
    rename_i a
    refine ⟨a, o1.str, re1.tab Pt hP, fun H2 tb => ?_⟩
    obtain ⟨s2, t2⟩ := Tabbed.sm re1.tab hP tb
    exact w1 _ H2 s2 t2 (.bl _)
end
section
variable {P : Program} {w : World} {base : Heap} {K : PySem.W.Frag} {mg : Str → Option Value}
/-- a def that has a code table of its own -/
theorem fn_okT {C : Cf} {x qual : Str} {st : Stmt} {f : Addr} {fd : FuncData} {N ps : List Str} {k : Nat} {b : CV → Out} (F : Fun K x qual st f fd) (S : FnScope N ps (defScope st)) (hn : ps.length ≤ N.length)
    (body : ∀ (cdv : Value) (A : Around) (outer : List Env) (s : Shared) (H : Hp) (E : XK), cdv = fd.code → Room k (A.deeper (envOfC qual (defScope st) s.heap.objs.size f cdv)) →
      PSs (cxOf (L2N.CX P w) P w K mg base N qual (defScope st) f cdv A outer s H E) (defBody st) (tS C (fun cls d _ H => E cls d H) b)) (hob : C.ob = none := by rfl) :
    FnOk P w K mg base (L2N.CX P w) (k + 1) f fd ps (spM C ps.length (runB N.length b)) := by
  obtain ⟨_, _, _, _, _, _, cdv, _, _, rfl, lk, hcd⟩ := F.ex
  refine fn_of lk hcd S (fun vs H Q E h => ?_) fun A outer s H vs Q E hr h => ⟨_, body cdv A outer s H E rfl hr, ?_⟩
  · obtain ⟨B, P, args, hl, _⟩ := h
    exact hl
  · exact body_read hob hn h
end
/-- the end: defs of the text that have code tables -/
theorem walk_ofDefs {l : PySem.W.OpenLaw} {n k : Nat} {q : Program} {loose : List Str} {XP : (Str → Option Value) → Heap → Prop} {YP : World → Heap → Prop} {d : DefRec} {K : Params → PySem.W.Frag} {CX : World → CXT} {x : Str} (nms : List Str)
    (hn : l.most = some n) (hn2 : n ≤ sizeLine) (hdf : d.params.defaults = []) (hr : Room k callerA) (hrec : ∀ nm ∈ nms, ((recsOf q).any fun e => e.name == nm) = true) (hY : ∀ (w : World) (h : Heap), YP w h → (K w.params).In h)
    (F : ∀ (w : World) (mg : Str → Option Value) (fa : Addr) (h : Heap), YP w h → (K w.params).In h → h.Ns mainGlobals mg → mg d.name = some (.ref fa) → (∀ nm ∈ nms, ∀ f, mg nm = some (.ref f) → LamX.OwnTab (K w.params) f h) → LamX.LawAtS l w (K w.params) (CX w) k n x mg fa h)
    (noErr : ∀ (w : World) (H : Hp) (st st2 : Shared) (u : Value), CX w [] H st (fun _ _ _ => False) u st2 → False) : PySem.W.WalkO q loose XP YP l.row.toRowW d [] fun f vs => PySem.call f vs := by
  apply Att.attach_callB hn hdf
  intro w st0 st mg mb fa o pm cd doc a vs ns gr yp ho hd hcd hmg hobj hints hlen hbits hgens
  have kin := hY w _ yp
  have tables : ∀ nm ∈ nms, ∀ f, mg nm = some (.ref f) → LamX.OwnTab (K w.params) f st.heap := by
    intro nm hnm f hf c P o1 fd1 _ _ vs1 _ look isF code lookC at11
    obtain ⟨rec, rm, rn⟩ := List.any_eq_true.mp (hrec nm hnm)
    have tb := gr.T.tab rec rm
    rw [beq_iff_eq.mp rn, hf] at tb
    obtain ⟨_, _, _, _, _, ea, q2, q3, q4, _, ⟨⟨_, _, q5, _, q6, q7⟩, emp⟩⟩ := tb
    cases ea
    have eo := (kin _ _ look).symm.trans q2
    cases eo
    have ef := isF.symm.trans q3
    cases ef
    have ec := code.symm.trans q4
    cases ec
    have e5 := (kin _ _ lookC).symm.trans q5
    cases e5
    cases q6
    have e7 := at11.symm.trans q7
    cases e7
    exact emp
  obtain ⟨fd, cs, sp, t1, t2, t3, bind, prom, ok⟩ := F w mg fa _ yp kin gr.T.g hmg tables
  apply LamX.law_callTs kin gr.T.g gr.T.b gr.T.builtins gr.T.nolimit hgens t1 t2 t3 gr.T.bmain hobj hints (Nat.le_trans hlen hn2) hr ok bind
  · exact fun H hH hS => prom H a ns hlen hbits hH hS
  · exact fun H u st2 z => noErr w H st st2 u z
/-- the script as a cell -/
def scrC (ns : List Int) : Md → Cell := fun m => toCell (.list (ns.map PyData.int), m)
theorem fl_ints : ∀ ns : List Int, Fl (ns.map V.int) (ns.map PyData.int)
  | [] => .nil
  | _ :: r => .int (fl_ints r)
theorem law_entry {K : PySem.W.Frag} {T : List Addr} {mg : Str → Option Value} {M : CV → RF} {H : Hp} {a : Addr} {ns : List Int} (hT : ∀ p ∈ T, H p = some (.tbl #[])) (hS : SqL K H a (ns.map V.int))
    (hm : ∀ m, m = .fz ∨ m = .cl → ∃ ρ, M [scrC ns m] = .ok ((.bool true, .cl), ρ)) : spM { K := K, T := T, mg := mg, ios := [] } 1 M [.ref a] H (fun v _ => v = .bl true) fun _ _ _ => False := by
  have tb : Tab T H := fun p hp => ⟨#[], hT p hp, trivial⟩
  have nl : Lsts [] H := fun p hp => by simp at hp
  have key : ∀ m, m = .fz ∨ m = .cl → OV K [] H m (.ref a) (.list (ns.map PyData.int)) → spM { K := K, T := T, mg := mg, ios := [] } 1 M [.ref a] H (fun v _ => v = .bl true) fun _ _ _ => False := fun m hmd o => by
    obtain ⟨ρ, e⟩ := hm m hmd
    refine ⟨{ H0 := H, M := [], io := [], ch := [] }, [], [scrC ns m], rfl, ⟨rfl, rfl⟩, rfl, rfl, entry_call (C := { K := K, T := T, mg := mg, ios := [] }) (Pm := []) (ds := [(.list (ns.map PyData.int), m)]) nl tb ⟨o, trivial⟩ (fun x v ov n hx => ?_), ?_⟩
    · rw [mask_nil]
      exact ov.tr n
    · rw [e]
      intro P' σ' H' v re rv
      cases rv
      rfl
  rcases hS with hS | hS
  · rcases hS with e | ⟨o, e⟩
    · exact key .cl (.inr rfl) (.lst (by rw [mask_nil]; exact e) (trAll_ints ns))
    · exact key .fz (.inl rfl) (.lst (.inl ⟨o, e⟩) (fl_ints ns))
  · exact key .fz (.inl rfl) (.lst (.inr hS) (fl_ints ns))
/-- the table of a def's code object -/
theorem own_tab {K : PySem.W.Frag} {h : Heap} {f c P : Addr} {o : Obj} {fd : FuncData} (own : LamX.OwnTab K f h) (l : K.lookup f = some o) (hd : o.data = .func fd) (hc : fd.code = .ref c) (hh : PySem.W.codeHdIn K c P = true) : h.get? P = some { cls := .none, data := .fields #[] } := by
  unfold PySem.W.codeHdIn at hh
  split at hh
  · rename_i vs _ hk
    simp only [Bool.and_eq_true] at hh
    obtain ⟨⟨⟨⟨⟨e1, _⟩, _⟩, _⟩, _⟩, _⟩ := hh
    split at e1
    · rename_i P' h11
      have hP := beq_iff_eq.mp e1
      subst hP
      exact own c P' o fd _ _ _ _ l hd hc hk h11
    · cases e1
  · cases hh
theorem cx_false {P : Program} {w : World} {H : Hp} {s s' : Shared} {e : Value} (h : L2N.CX P w [] H s (fun _ _ _ => False) e s') : False := by
  obtain ⟨_, _, _, _, _, _, _, _, _, _, _, _, h⟩ := h
  exact h
theorem tabB_of {base : Heap} {mg : Str → Option Value} {c P : Addr} (t : LamX.TabB base mg c P) : GxR.TabB base mg c P := ⟨t.code, t.bm, t.gP⟩
def cfOk (vs : Array Value) : Bool := (match vs.getD 18 .none with | .str _ _ => true | _ => false) && (match vs.getD 7 .none with | .int _ _ => true | _ => false) && (match vs.getD 9 .none with | .bool _ => true | _ => false) && (match vs.getD 10 .none with | .int _ _ => true | _ => false)
theorem codeHdIn_of {K : PySem.W.Frag} {c P : Addr} {dd : Option Addr} {vs : Array Value} {sl : Array (Option Value)} (lc : K.lookup c = some ⟨.type "code", dd, .fields vs, sl⟩) (h : vs[11]? = some (.ref P)) (d : cfOk vs = true) (ne : (c != P) = true) : PySem.W.codeHdIn K c P = true := by
  unfold cfOk at d
  simp only [Bool.and_eq_true] at d
  obtain ⟨⟨⟨d1, d2⟩, d3⟩, d4⟩ := d
  unfold PySem.W.codeHdIn
  split
  · rename_i vs' _ hk
    rw [lc] at hk
    cases hk
    simp only [Bool.and_eq_true]
    refine ⟨⟨⟨⟨⟨?_, d1⟩, d2⟩, d3⟩, d4⟩, ne⟩
    split
    · rename_i P' h11
      rw [h] at h11
      cases h11
      simp
    · rename_i hx
      exact absurd h (hx P)
  · rename_i hx
    exact absurd lc (hx _ _ _)
end Eng

set_option Elab.async false
set_option linter.all false
set_option maxRecDepth 100000
set_option maxHeartbeats 1234567
namespace Eng
open PySem PySem.Spec
open PyProof.Rows L2
/-! ### to reckon with the mirrors -/
def retR (r : RF) : Rs (D × Md) := match r with
  | .ok (x, _) => .ok x
  | .er c => .er c
  | .no => .no
theorem ret_ex {r : RF} {x : D × Md} (h : retR r = .ok x) : ∃ ρ, r = .ok (x, ρ) := by
  cases r with
  | ok y =>
    obtain ⟨z, ρ⟩ := y
    cases h
    exact ⟨ρ, rfl⟩
  | er c => cases h
  | no => cases h
def callR (ac : Bool) : Rs (D × Md) → Rs (D × Md)
  | .ok x => ofO (callMd ac x.1 x.2)
  | .er c => .er c
  | .no => .no
theorem mCall_eq (M : CV → RF) (fa : CV → Rs (List (D × Md))) (ρ : CV) : mCall M fa ρ = (fa ρ).bind fun ds => callR (ds.all fun x => clA x.2) (retR (M (ds.map toCell))) := by
  unfold mCall
  congr 1
  funext ds
  cases M (ds.map toCell) with
  | ok y => obtain ⟨⟨d, m⟩, ρ'⟩ := y; rfl
  | er c => rfl
  | no => rfl
theorem joinL_nil : ∀ ys : List (List Nat), TL.joinL [] ys = ys.flatten
  | [] => rfl
  | [p] => by simp [TL.joinL]
  | p :: q :: r => by
    show p ++ ([] ++ TL.joinL [] (q :: r)) = _
    rw [joinL_nil (q :: r)]
    simp
def tS0 (l : List Nat) : Str := ⟨l.toArray⟩
theorem tS0_len (l : List Nat) : (tS0 l).length = l.length := by simp [tS0, Str.length]
theorem tS0_l (l : List Nat) : (tS0 l).cps.toList = l := rfl
theorem tS0_eq {a b : List Nat} : tS0 a = tS0 b ↔ a = b := by
  constructor
  · intro h
    have := congrArg (fun s => s.cps.toList) h
    simpa [tS0] using this
  · rintro rfl; rfl
theorem tS0_append (a b : List Nat) : tS0 a ++ tS0 b = tS0 (a ++ b) := by
  show Str.mk (a.toArray ++ b.toArray) = ⟨(a ++ b).toArray⟩
  simp
theorem str_tS0 (s : Str) : s = tS0 s.cps.toList := by cases s; rfl
theorem join_tS0 (ys : List (List Nat)) : Txt.join "" (ys.map tS0) = tS0 ys.flatten := by
  have e : Txt.join ("" : Str) (ys.map tS0) = tS0 (TL.joinL [] ys) := by
    have h := TL.tl_join ("" : Str) (ys.map tS0)
    rw [← TL.join_eq] at h
    have e1 : (ys.map tS0).map TL.tl = ys := by
      rw [List.map_map]
      exact List.map_id'' (fun _ => rfl) ys
    rw [e1] at h
    have e2 : TL.tl ("" : Str) = [] := by decide +kernel
    rw [e2] at h
    exact TL.ext_tl h
  rw [e, joinL_nil]
theorem lcL_map {i : Nat} {el : CV → Rs (D × Md)} {ρ : CV} {g : D → D} : ∀ {ds : List D}, (∀ d ∈ ds, ∃ m, el (ρ.set i (.val d)) = .ok (g d, m) ∧ okEl (g d, m) = true) → lcL i mTrue el ρ ds = some (ds.map g)
  | [], _ => rfl
  | d :: ds, h => by
    obtain ⟨m, e, o⟩ := h d List.mem_cons_self
    show (match mTrue (ρ.set i (.val d)) with
      | .ok true => match el (ρ.set i (.val d)) with
        | .ok x => if okEl x = true then (lcL i mTrue el ρ ds).map (x.1 :: ·) else none
        | _ => none
      | .ok false => lcL i mTrue el ρ ds
      | _ => none) = _
    rw [e, lcL_map (ds := ds) fun x hx => h x (List.mem_cons_of_mem _ hx)]
    simp [mTrue, o]
theorem retR_ok (x : D × Md) (ρ : CV) : retR (.ok (x, ρ)) = .ok x := rfl
theorem retR_er (c : Str) : retR (.er c) = .er c := rfl
theorem retR_no : retR .no = .no := rfl
theorem callR_ok (ac : Bool) (x : D × Md) : callR ac (.ok x) = ofO (callMd ac x.1 x.2) := rfl
theorem mRange1_int {fa : CV → Rs (List (D × Md))} {ρ : CV} {j : Int} {m : Md} (h : fa ρ = .ok [(.int j, m)]) (h1 : -1000000 < j ∧ j < 1000000) : mRange1 fa ρ = .ok (rangeD 0 j.toNat) := by
  unfold mRange1
  rw [h]
  exact if_pos h1
theorem nat_mil {n : Nat} (h1 : n ≤ 1000) : (-1000000 : Int) < (n : Int) ∧ (n : Int) < 1000000 := ⟨by omega, by omega⟩
theorem mRange1_ok {fa : CV → Rs (List (D × Md))} {ρ : CV} {n : Nat} {m : Md} (h : fa ρ = .ok [(.int n, m)]) (h1 : n ≤ 1000) : mRange1 fa ρ = .ok (rangeD 0 n) := mRange1_int h (nat_mil h1)
theorem hDiv_ok {i j : Int} {m m2 : Md} (h : 0 < j) (h2 : j ≤ 1000) : hDiv (.int i, m) (.int j, m2) = some (.int (i / j), .cl) := by
  unfold hDiv
  dsimp only
  rw [if_pos ⟨h, by omega⟩]
theorem hMod_ok {i j : Int} {m m2 : Md} (h : 0 < j) : hMod (.int i, m) (.int j, m2) = some (.int (i % j), .cl) := by
  unfold hMod
  dsimp only
  rw [if_pos h]
theorem mem_range0 {x : D} {n : Nat} (h : x ∈ rangeD 0 n) : ∃ k : Nat, k < n ∧ x = .int k := by
  unfold rangeD at h
  obtain ⟨k, hk, rfl⟩ := List.mem_map.mp h
  exact ⟨k, List.mem_range.mp hk, by simp⟩
theorem range0_map {α : Type} (n : Nat) (g : D → α) : (rangeD 0 n).map g = (List.range n).map fun k => g (.int (k : Nat)) := by
  unfold rangeD
  rw [List.map_map]
  congr 1
  funext k
  simp
theorem mLc_ok {i : Nat} {it : CV → Rs (List D)} {el : CV → Rs (D × Md)} {ρ : CV} {g : D → D} {ds : List D} (h : it ρ = .ok ds) (hn : ds.length ≤ 1000) (hd : ∀ d ∈ ds, ∃ m, el ((ρ.set i .un).set i (.val d)) = .ok (g d, m) ∧ okEl (g d, m) = true) : mLc i it mTrue el ρ = .ok (.list (ds.map g), .fr) := by
  unfold mLc
  rw [h]
  dsimp only [Rs.bind]
  rw [if_pos (by omega), lcL_map hd]
  rfl
theorem rangeD_len (lo : Int) (n : Nat) : (rangeD lo n).length = n := by simp [rangeD]
theorem hJoin_ok {ys : List (List Nat)} {m : Md} (h : (ys.map (·.length)).sum ≤ 1000) : hJoin "" (PyData.list (ys.map fun y => .str (tS0 y)), m) = some (.str (tS0 ys.flatten), .cl) := by
  unfold hJoin
  have e : strsOf (ys.map fun y => PyData.str (tS0 y)) = some (ys.map tS0) := by
    have := strsOf_map (ys.map tS0)
    rw [List.map_map] at this
    exact this
  dsimp only
  rw [e]
  dsimp only
  have e2 : ((ys.map tS0).map (·.length)) = ys.map (·.length) := by
    rw [List.map_map]
    exact List.map_congr_left fun y _ => tS0_len y
  have e3 : ("" : Str).length = 0 := by decide +kernel
  rw [e2, e3, if_pos (by omega), join_tS0]
section
variable {f g : CV → Rs (D × Md)} {ρ ρ' : CV} {x y : D × Md} {t : CV → Rs Bool} {u w : CV → Out} {i : Nat}
theorem sSet_ok (h : f ρ = .ok x) : sSet i f ρ = setK i ρ x := by unfold sSet; rw [h]
theorem mStrM_ok {k : Str → CV → Rs (D × Md)} {a : Str} {m : Md} (h : f ρ = .ok (.str a, m)) : mStrM f k ρ = k a ρ := by unfold mStrM; rw [h]; rfl
theorem mUn_ok {h : D × Md → Option (D × Md)} (e : f ρ = .ok x) (e2 : h x = some y) : mUn h f ρ = .ok y := by
  unfold mUn
  rw [e]
  simp only [Rs.bind]
  rw [e2]
  rfl
theorem mBin_ok {h : D × Md → D × Md → Option (D × Md)} {z : D × Md} (e : f ρ = .ok x) (e1 : g ρ = .ok y) (e2 : h x y = some z) : mBin h f g ρ = .ok z := by
  unfold mBin
  rw [e]
  simp only [Rs.bind]
  rw [e1]
  simp only
  rw [e2]
  rfl
theorem mCmp_ok {h : D × Md → D × Md → Option Bool} {z : Bool} (e : f ρ = .ok x) (e1 : g ρ = .ok y) (e2 : h x y = some z) : mCmp h f g ρ = .ok z := by
  unfold mCmp
  rw [e]
  simp only [Rs.bind]
  rw [e1]
  simp only
  rw [e2]
  rfl
theorem mVal_ok {b : Bool} (e : t ρ = .ok b) : mVal t ρ = .ok (.bool b, .cl) := by
  unfold mVal
  rw [e]
  rfl
theorem sIf_ok {b : Bool} (e : t ρ = .ok b) : sIf t u w ρ = if b then u ρ else w ρ := by
  unfold sIf
  rw [e]
theorem sSeq_nx (e : u ρ = .nx ρ') : sSeq u w ρ = w ρ' := by
  unfold sSeq
  rw [e]
  rfl
theorem sSeq_rt {d : D} {m : Md} (e : u ρ = .rt d m ρ') : sSeq u w ρ = .rt d m ρ' := by
  unfold sSeq
  rw [e]
  rfl
theorem sRet_ok {d : D} {m : Md} (e : f ρ = .ok (d, m)) (n : m ≠ .ow) : sRet f ρ = .rt d m ρ := by
  unfold sRet
  rw [e]
  simp [n]
theorem mCall_ok {M : CV → RF} {fa : CV → Rs (List (D × Md))} {ds : List (D × Md)} (e : fa ρ = .ok ds) (e2 : retR (M (ds.map toCell)) = .ok x) : mCall M fa ρ = ofO (callMd (ds.all fun x => clA x.2) x.1 x.2) := by
  rw [mCall_eq, e]
  simp only [Rs.bind]
  rw [e2]
  rfl
end
theorem setK_cl {i : Nat} {ρ : CV} {d : D} : setK i ρ (d, .cl) = .nx (ρ.set i (.val d)) := by cases d <;> rfl
theorem callMd_cl {d : D} : callMd true d .cl = some (d, .cl) := rfl
theorem hDiv_big {i j : Int} {m m2 : Md} (h : 0 < j ∧ j < 1073741824) : hDiv (.int i, m) (.int j, m2) = some (.int (i / j), .cl) := by
  unfold hDiv
  dsimp only
  rw [if_pos h]
theorem mCons_ok {f : CV → Rs (D × Md)} {g : CV → Rs (List (D × Md))} {ρ : CV} {x : D × Md} {xs : List (D × Md)} (e : f ρ = .ok x) (e2 : g ρ = .ok xs) : mCons f g ρ = .ok (x :: xs) := by
  unfold mCons
  rw [e]
  simp only [Rs.bind]
  rw [e2]
theorem mNil_ok {ρ : CV} : mNil ρ = .ok [] := rfl
theorem mK_ok {ρ : CV} {d : D} : mK d ρ = .ok (d, .cl) := rfl
theorem hAdd_int {i j : Int} {m m2 : Md} : hAdd (.int i, m) (.int j, m2) = some (.int (i + j), .cl) := rfl
theorem hSub_int {i j : Int} {m m2 : Md} : hSub (.int i, m) (.int j, m2) = some (.int (i - j), .cl) := rfl
theorem hMul_int {i j : Int} {m m2 : Md} (h : mulOk i j = true) : hMul (.int i, m) (.int j, m2) = some (.int (i * j), .cl) := by
  unfold hMul
  dsimp only
  rw [if_pos h]
theorem mulOk_r {i j : Int} (h : -1000000 < j ∧ j < 1000000) : mulOk i j = true := by
  unfold mulOk
  simp only [Bool.or_eq_true, Bool.and_eq_true, decide_eq_true_eq]
  right
  omega
theorem mulOk_l {i j : Int} (h : -1000000 < i ∧ i < 1000000) : mulOk i j = true := by
  unfold mulOk
  simp only [Bool.or_eq_true, Bool.and_eq_true, decide_eq_true_eq]
  left
  omega
theorem mSl_ok {f : CV → Rs (D × Md)} {lo hi : CV → Rs (Option Int)} {ρ : CV} {x y : D × Md} {l h : Option Int} (e : f ρ = .ok x) (e1 : lo ρ = .ok l) (e2 : hi ρ = .ok h) (e3 : hSl x l h = some y) : mSl f lo hi ρ = .ok y := by
  unfold mSl
  rw [e]
  simp only [Rs.bind]
  rw [e1]
  simp only
  rw [e2]
  simp only
  rw [e3]
  rfl
theorem mNoP_ok {ρ : CV} : mNoP ρ = .ok none := rfl
theorem mPart_ok {f : CV → Rs (D × Md)} {ρ : CV} {i : Int} {m : Md} (e : f ρ = .ok (.int i, m)) : mPart f ρ = .ok (some i) := by
  unfold mPart
  rw [e]
  rfl
theorem mAnd_ok {t u : CV → Rs Bool} {ρ : CV} {a b : Bool} (e : t ρ = .ok a) (e2 : a = true → u ρ = .ok b) : mAnd t u ρ = .ok (a && b) := by
  unfold mAnd
  rw [e]
  cases a with
  | false => rfl
  | true => exact e2 rfl
theorem mOr_ok {t u : CV → Rs Bool} {ρ : CV} {a b : Bool} (e : t ρ = .ok a) (e2 : a = false → u ρ = .ok b) : mOr t u ρ = .ok (a || b) := by
  unfold mOr
  rw [e]
  cases a with
  | true => rfl
  | false => exact e2 rfl
theorem mNot_ok {t : CV → Rs Bool} {ρ : CV} {a : Bool} (e : t ρ = .ok a) : mNot t ρ = .ok (!a) := by
  unfold mNot
  rw [e]
  rfl
theorem mBool_ok {f : CV → Rs (D × Md)} {ρ : CV} {a : Bool} {m : Md} (e : f ρ = .ok (.bool a, m)) : mBool f ρ = .ok a := by
  unfold mBool
  rw [e]
  rfl
theorem sNx_ok {ρ : CV} : sNx ρ = .nx ρ := rfl
theorem mCallB_ok {h : List (D × Md) → Option (D × Md)} {fa : CV → Rs (List (D × Md))} {ρ : CV} {ds : List (D × Md)} {y : D × Md} (e : fa ρ = .ok ds) (e2 : h ds = some y) : mCallB h fa ρ = .ok y := by
  unfold mCallB
  rw [e]
  simp only [Rs.bind]
  rw [e2]
  rfl
theorem mLst_ok {fa : CV → Rs (List (D × Md))} {ρ : CV} {ds : List (D × Md)} (e : fa ρ = .ok ds) (h : ds.all okEl = true ∧ ds.length ≤ 1000) : mLst fa ρ = .ok (.list (ds.map (·.1)), .fr) := by
  unfold mLst
  rw [e]
  exact if_pos h
theorem mTup_ok {fa : CV → Rs (List (D × Md))} {ρ : CV} {ds : List (D × Md)} (e : fa ρ = .ok ds) (h : ds.all okEl = true ∧ ds.length ≤ 1000) : mTup fa ρ = .ok (.tuple (ds.map (·.1)), .cl) := by
  unfold mTup
  rw [e]
  exact if_pos h
theorem mVar_val {i : Nat} {ρ : CV} {d : D} (h : ρ[i]? = some (.val d)) : mVar i ρ = .ok (d, .cl) := by
  unfold mVar
  rw [h]
theorem mVar_own {i : Nat} {ρ : CV} {ds : List D} (h : ρ[i]? = some (.own ds)) : mVar i ρ = .ok (.list ds, .ow) := by
  unfold mVar
  rw [h]
theorem shr_val {i : Nat} {ρ : CV} {d : D} (h : ρ[i]? = some (.val d)) : shr i ρ = ρ := by
  unfold shr
  rw [h]
theorem forL_inv {i : Nat} {u : CV → Out} {I : CV → Prop} : ∀ {ds : List D}, (∀ d ∈ ds, ∀ ρ, I ρ → ∃ ρ', u (ρ.set i (.val d)) = .nx ρ' ∧ I ρ') → ∀ ρ, I ρ → ∃ ρ', forL i u ds ρ = .nx ρ' ∧ I ρ'
  | [], _, ρ, h => ⟨ρ, rfl, h⟩
  | d :: ds, hs, ρ, h => by
    obtain ⟨ρ1, e, h1⟩ := hs d List.mem_cons_self ρ h
    obtain ⟨ρ2, e2, h2⟩ := forL_inv (fun x hx => hs x (List.mem_cons_of_mem _ hx)) ρ1 h1
    refine ⟨ρ2, ?_, h2⟩
    unfold forL
    rw [e]
    exact e2
theorem sFor_ok {i : Nat} {it : CV → Rs (List D)} {u : CV → Out} {ρ : CV} {ds : List D} (e : it ρ = .ok ds) : sFor i it u ρ = forL i u ds ρ := by
  unfold sFor
  rw [e]
theorem sRetOwn_own {i : Nat} {ρ : CV} {ds : List D} (h : ρ[i]? = some (.own ds)) : sRetOwn i ρ = .rt (.list ds) .ow ρ := by
  unfold sRetOwn
  rw [h]
theorem sRetOwn_val {i : Nat} {ρ : CV} {d : D} (h : ρ[i]? = some (.val d)) : sRetOwn i ρ = .rt d .cl ρ := by
  unfold sRetOwn
  rw [h]
theorem ixN_nat {n k : Nat} (h : k < n) : ixN n (k : Int) = some k := by
  unfold ixN
  (rw [if_pos (by omega), if_pos (by omega)])
  simp
theorem sSetIx_ok {i : Nat} {fe fk : CV → Rs (D × Md)} {ρ : CV} {x : D × Md} {k : Nat} {m : Md} {ds : List D} (e : fe ρ = .ok x) (ok : okEl x = true) (e2 : fk ρ = .ok (.int (k : Int), m)) (e3 : ρ[i]? = some (.own ds)) (hk : k < ds.length) : sSetIx i fe fk ρ = .nx (ρ.set i (.own (ds.set k x.1))) := by
  unfold sSetIx
  rw [e]
  simp only
  rw [if_pos ok, e2]
  simp only
  rw [e3]
  simp only
  rw [ixN_nat hk]
theorem forL_invN {i : Nat} {u : CV → Out} {I : Nat → CV → Prop} : ∀ {ds : List D} (n : Nat), (∀ d ∈ ds, ∀ j ρ, I j ρ → ∃ ρ', u (ρ.set i (.val d)) = .nx ρ' ∧ I (j + 1) ρ') → ∀ ρ, I n ρ → ∃ ρ', forL i u ds ρ = .nx ρ' ∧ I (n + ds.length) ρ'
  | [], n, _, ρ, h => ⟨ρ, rfl, h⟩
  | d :: ds, n, hs, ρ, h => by
    obtain ⟨ρ1, e, h1⟩ := hs d List.mem_cons_self n ρ h
    obtain ⟨ρ2, e2, h2⟩ := forL_invN (n + 1) (fun x hx => hs x (List.mem_cons_of_mem _ hx)) ρ1 h1
    refine ⟨ρ2, ?_, ?_⟩
    · unfold forL
      rw [e]
      exact e2
    · rw [List.length_cons, show n + (ds.length + 1) = n + 1 + ds.length by omega]
      exact h2
theorem mLift_ok {f : CV → Rs (D × Md)} {ρ : CV} {x : D × Md} (e : f ρ = .ok x) (ok : okEl x = true) : mLift f ρ = .ok (x.1, ρ) := by
  unfold mLift
  rw [e]
  exact if_pos ok
theorem sApp_ok {i : Nat} {fx : CV → Rs (D × CV)} {ρ : CV} {d : D} {ds : List D} (h : ρ[i]? = some (.own ds)) (e : fx ρ = .ok (d, ρ)) (hl : ds.length ≤ 1000) : sApp i fx ρ = .nx (ρ.set i (.own (ds ++ [d]))) := by
  unfold sApp
  rw [h]
  simp only
  rw [e]
  simp only
  rw [h]
  simp only
  rw [if_pos (by omega)]
theorem mRange2_int {fa : CV → Rs (List (D × Md))} {ρ : CV} {i j : Int} {m m2 : Md} (h : fa ρ = .ok [(.int i, m), (.int j, m2)]) (h1 : -1000000 < i ∧ i < 1000000 ∧ -1000000 < j ∧ j < 1000000) : mRange2 fa ρ = .ok (rangeD i (j - i).toNat) := by
  unfold mRange2
  rw [h]
  exact if_pos h1
theorem whL_step {t : CV → Rs Bool} {u : CV → Out} {n : Nat} {ρ ρ' : CV} (e : t ρ = .ok true) (e2 : u ρ = .nx ρ') : whL t u (n + 1) ρ = whL t u n ρ' := by
  show (match t ρ with | .ok true => _ | .ok false => _ | .er c => _ | .no => _) = _
  rw [e]
  simp only
  rw [e2]
theorem whL_done {t : CV → Rs Bool} {u : CV → Out} {n : Nat} {ρ : CV} (e : t ρ = .ok false) : whL t u (n + 1) ρ = .nx ρ := by
  show (match t ρ with | .ok true => _ | .ok false => _ | .er c => _ | .no => _) = _
  rw [e]
theorem mIsi_ok {ty : String} {f : CV → Rs (D × Md)} {ρ : CV} {x : D × Md} (e : f ρ = .ok x) : mIsi ty f ρ = .ok (.bool (isD ty x.1), .cl) := by
  unfold mIsi
  rw [e]
  rfl
theorem sSetX_ok {i : Nat} {fx : CV → Rs (D × CV)} {ρ ρ' : CV} {d : D} (e : fx ρ = .ok (d, ρ')) : sSetX i fx ρ = .nx (ρ'.set i (.val d)) := by
  unfold sSetX
  rw [e]
theorem mPop_ok {i : Nat} {ρ : CV} {ds : List D} {d : D} (h : ρ[i]? = some (.own (ds ++ [d]))) : mPop i ρ = .ok (d, ρ.set i (.own ds)) := by
  unfold mPop
  rw [h]
  simp
theorem mIterL_fr {f : CV → Rs (D × Md)} {ρ : CV} {ds : List D} (e : f ρ = .ok (.list ds, .fr)) : mIterL f ρ = .ok ds := by
  unfold mIterL
  rw [e]
  rfl
theorem mIterL_cl {f : CV → Rs (D × Md)} {ρ : CV} {ds : List D} (e : f ρ = .ok (.list ds, .cl)) : mIterL f ρ = .ok ds := by
  unfold mIterL
  rw [e]
  rfl
theorem hListOf_ok {ds : List D} {m : Md} (h : itCl m = true) : hListOf [(.list ds, m)] = some (.list ds, .fr) := by
  unfold hListOf
  dsimp only
  rw [if_pos (.inl h)]
end Eng

set_option Elab.async false
set_option linter.all false
set_option maxRecDepth 100000
set_option maxHeartbeats 1234567
namespace Eng
open PySem PySem.Spec
open PyProof.Rows L2

/-! ### calls of defs that change lists of the caller -/
inductive Arg where
  | v (x : D × Md)
  | io (i : Nat)
def OVI (K : PySem.W.Frag) (Pm : List Addr) (σ : St) (H : Hp) : List V → List Arg → Prop
  | [], [] => True
  | v :: vs, .v d :: ds => OV K Pm H d.2 v d.1 ∧ OVI K Pm σ H vs ds
  | v :: vs, .io i :: ds => σ[i]? = some (some v) ∧ OVI K Pm σ H vs ds
  | _, _ => False
section
variable (C : Cf) (W : WX)
def AIR (σ : St) (H : Hp) (Pm : List Addr) (Q : List V → Hp → Prop) : Rs (List Arg) → Prop
  | .ok ds => ∀ vs H', Sm H H' → Tab C.T H' → OVI C.K Pm σ H' vs ds → Q vs H'
  | .er c => ∀ A H', C.mg c = some (.ref A) → Sm H H' → Tab C.T H' → W (.ref A) none σ H'
  | .no => False
def tAI (f : CV → Rs (List Arg)) : TA := fun σ H Q => ∃ B P ρ, Lk B C ∧ RE C.K C.T B P H σ ρ ∧ AIR C W σ H (B.M ++ P) Q (f ρ)
end
section
variable {X : Cx} {C : Cf} {W : WX} {e a b : Expr} {es : List Expr} {f g : CV → Rs (D × Md)} {fa : CV → Rs (List Arg)} {pos : Pos}
theorem AIR.sm {σ : St} {H H1 : Hp} {Pm : List Addr} {Q : List V → Hp → Prop} {r : Rs (List Arg)} (s : Sm H H1) (h : AIR C W σ H Pm Q r) : AIR C W σ H1 Pm Q r := by
  cases r with
  | ok a => exact fun vs H' s' t vr => h vs H' (s.trans s') t vr
  | er c => exact fun A H' hm s' t => h A H' hm (s.trans s') t
  | no => exact h
def mNilI : CV → Rs (List Arg) := fun _ => .ok []
def mConsV (f : CV → Rs (D × Md)) (g : CV → Rs (List Arg)) : CV → Rs (List Arg) := fun ρ => (f ρ).bind fun x => (g ρ).bind fun xs => .ok (.v x :: xs)
def mConsIo (i : Nat) (g : CV → Rs (List Arg)) : CV → Rs (List Arg) := fun ρ => match ρ[i]? with
  | some (.own _) => (g ρ).bind fun xs => .ok (.io i :: xs)
  | _ => .no
theorem sai_nil : PA X [] (tAI C W mNilI) := PA.imp pa_nil fun σ H Q w => by
  obtain ⟨B, P, ρ, hio, re, w⟩ := w
  exact w [] H (Sm.refl _) re.tab trivial
theorem sai_cons (ha : PE X e (tE C W f)) (hr : PA X es (tAI C W fa)) (hs : starEach (e :: es) X.env = (false, eval e X.env) :: starEach es X.env := by rfl) : PA X (e :: es) (tAI C W (mConsV f fa)) := PA.imp (pa_cons ha hr hs) fun σ H Q w => by
  obtain ⟨B, P, ρ, hio, re, w⟩ := w
  refine ⟨B, P, ρ, hio, re, ?_⟩
  unfold mConsV at w
  cases ef : f ρ with
  | er c => rw [ef] at w; exact w
  | no => rw [ef] at w; exact w
  | ok x =>
    obtain ⟨d, m⟩ := x
    rw [ef] at w
    dsimp only [Rs.bind] at w
    intro v H1 s tb vr
    have o1 := VR.ov re.lst vr
    refine ⟨B, P, ρ, hio, re.sm s tb, ?_⟩
    cases eg : fa ρ with
    | ok xs =>
      rw [eg] at w
      exact fun vs H2 s2 t2 ovs => w (v :: vs) H2 (s.trans s2) t2 ⟨o1.sm s2, ovs⟩
    | er c => rw [eg] at w; exact fun A H2 hm s2 t2 => w A H2 hm (s.trans s2) t2
    | no => rw [eg] at w; exact w
theorem sai_io (i : Nat) {x : Str} {p2 : Pos} (hr : PA X es (tAI C W fa)) (hN : X.N[i]? = some x := by rfl) (hlc : C.lc i = true := by rfl) (hv : Vis X.env.scope x := by first | exact Or.inl rfl | exact Or.inr (Or.inl rfl) | exact Or.inr (Or.inr rfl)) (hd : (x == ("__debug__" : Str)) = false := by decide)
    (hcd : (x == ("__classdict__" : Str)) = false := by decide) (hs : starEach (.Name x p2 :: es) X.env = (false, eval (.Name x p2) X.env) :: starEach es X.env := by rfl) : PA X (.Name x p2 :: es) (tAI C W (mConsIo i fa)) := PA.imp (pa_cons (pe_var (i := i) hN hv hd hcd) hr hs) fun σ H Q w => by
  obtain ⟨B, P, ρ, hio, re, w⟩ := w
  unfold mConsIo at w
  split at w
  · rename_i ds e
    obtain ⟨p, vs, h1, _⟩ := re.own (hio.lc hlc) e
    refine ⟨.ref p, h1, B, P, ρ, hio, re, ?_⟩
    cases eg : fa ρ with
    | ok xs =>
      rw [eg] at w
      exact fun vs H2 s2 t2 ovs => w (.ref p :: vs) H2 s2 t2 ⟨h1, ovs⟩
    | er c => rw [eg] at w; exact w
    | no => rw [eg] at w; exact w
  · exact w.elim
/-- how many arguments -/
inductive LenI : Nat → (CV → Rs (List Arg)) → Prop
  | nil : LenI 0 mNilI
  | v {f : CV → Rs (D × Md)} {fa : CV → Rs (List Arg)} {n : Nat} : LenI n fa → LenI (n + 1) (mConsV f fa)
  | io {i : Nat} {fa : CV → Rs (List Arg)} {n : Nat} : LenI n fa → LenI (n + 1) (mConsIo i fa)
theorem LenI.len {n : Nat} {fa : CV → Rs (List Arg)} (h : LenI n fa) : ∀ ρ ds, fa ρ = .ok ds → ds.length = n := by
  induction h with
  | nil => intro ρ ds e; cases e; rfl
  | @v f fa n h ih =>
    intro ρ ds e
    unfold mConsV at e
    cases ef : f ρ with
    | er c => rw [ef] at e; cases e
    | no => rw [ef] at e; cases e
    | ok x =>
      rw [ef] at e
      cases eg : fa ρ with
      | er c => rw [eg] at e; cases e
      | no => rw [eg] at e; cases e
      | ok xs =>
        rw [eg] at e
        cases e
        rw [List.length_cons, ih ρ xs eg]
  | @io i fa n h ih =>
    intro ρ ds e
    unfold mConsIo at e
    split at e
    · cases eg : fa ρ with
      | er c => rw [eg] at e; cases e
      | no => rw [eg] at e; cases e
      | ok xs =>
        rw [eg] at e
        cases e
        rw [List.length_cons, ih ρ xs eg]
    · cases e
/-- the places of the lists that change: (argument, slot) -/
def ioOf : List Arg → Nat → List (Nat × Nat)
  | [], _ => []
  | .v _ :: r, n => ioOf r (n + 1)
  | .io i :: r, n => (n, i) :: ioOf r (n + 1)
theorem ioOf_mem : ∀ {as : List Arg} {n k i : Nat}, (k, i) ∈ ioOf as n ↔ n ≤ k ∧ as[k - n]? = some (.io i)
  | [], n, k, i => by simp [ioOf]
  | .v x :: r, n, k, i => by
    have ih := ioOf_mem (as := r) (n := n + 1) (k := k) (i := i)
    show (k, i) ∈ ioOf r (n + 1) ↔ _
    rw [ih]
    constructor
    · rintro ⟨h, e⟩
      refine ⟨by omega, ?_⟩
      have : k - n = (k - (n + 1)) + 1 := by omega
      rw [this]
      exact e
    · rintro ⟨h, e⟩
      by_cases hk : k = n
      · subst hk
        rw [Nat.sub_self] at e
        cases e
      · refine ⟨by omega, ?_⟩
        have : k - n = (k - (n + 1)) + 1 := by omega
        rw [this] at e
        exact e
  | .io j :: r, n, k, i => by
    have ih := ioOf_mem (as := r) (n := n + 1) (k := k) (i := i)
    show (k, i) ∈ (n, j) :: ioOf r (n + 1) ↔ _
    rw [List.mem_cons, ih]
    constructor
    · rintro (h | ⟨h, e⟩)
      · cases h
        refine ⟨Nat.le_refl _, ?_⟩
        rw [Nat.sub_self]
        rfl
      · refine ⟨by omega, ?_⟩
        have : k - n = (k - (n + 1)) + 1 := by omega
        rw [this]
        exact e
    · rintro ⟨h, e⟩
      by_cases hk : k = n
      · subst hk
        rw [Nat.sub_self] at e
        cases e
        exact .inl rfl
      · refine .inr ⟨by omega, ?_⟩
        have : k - n = (k - (n + 1)) + 1 := by omega
        rw [this] at e
        exact e
def cellOf (ρ : CV) : Arg → Cell
  | .v x => toCell x
  | .io i => ρ.getD i .un
def clI (ρ : CV) : Arg → Bool
  | .v x => clA x.2
  | .io i => match ρ[i]? with
    | some (.own _) => true
    | _ => false
def ioSet : List (Nat × Nat) → CV → CV → CV
  | [], ρ, _ => ρ
  | (j, i) :: r, ρ, ρ2 => ioSet r (ρ.set i (ρ2.getD j .un)) ρ2
def nodupB : List Nat → Bool
  | [] => true
  | x :: r => !r.contains x && nodupB r
theorem nodupB_iff : ∀ {l : List Nat}, nodupB l = true → l.Nodup
  | [], _ => List.nodup_nil
  | x :: r, h => by
    unfold nodupB at h
    rw [Bool.and_eq_true] at h
    refine List.nodup_cons.mpr ⟨fun z => ?_, nodupB_iff h.2⟩
    have h1 := h.1
    rw [List.contains_iff_mem.mpr z] at h1
    cases h1
def mCallIo (ios : List Nat) (M : CV → RF) (fa : CV → Rs (List Arg)) : CV → Rs (D × CV) := fun ρ => match fa ρ with
  | .ok as => if as.all (clI ρ) = true ∧ (ioOf as 0).map (·.1) = ios ∧ nodupB ((ioOf as 0).map (·.2)) = true then
      match M (as.map (cellOf ρ)) with
      | .ok ((d, m), ρ2) => match callMd true d m with
        | some z => if okEl z = true then .ok (z.1, ioSet (ioOf as 0) ρ ρ2) else .no
        | none => .no
      | _ => .no
    else .no
  | _ => .no
theorem ioSet_len : ∀ (js : List (Nat × Nat)) (ρ ρ2 : CV), (ioSet js ρ ρ2).length = ρ.length
  | [], _, _ => rfl
  | (j, i) :: r, ρ, ρ2 => by
    show (ioSet r (ρ.set i _) ρ2).length = _
    rw [ioSet_len r, List.length_set]
theorem ioSet_out : ∀ {js : List (Nat × Nat)} {ρ ρ2 : CV} {k : Nat}, k ∉ js.map (·.2) → (ioSet js ρ ρ2)[k]? = ρ[k]?
  | [], _, _, _, _ => rfl
  | (j, i) :: r, ρ, ρ2, k, h => by
    simp only [List.map_cons, List.mem_cons, not_or] at h
    show (ioSet r (ρ.set i _) ρ2)[k]? = _
    rw [ioSet_out h.2, List.getElem?_set_ne fun z => h.1 z.symm]
theorem ioSet_in : ∀ {js : List (Nat × Nat)} {ρ ρ2 : CV} {j i : Nat}, (js.map (·.2)).Nodup → (j, i) ∈ js → i < ρ.length → (ioSet js ρ ρ2)[i]? = some (ρ2.getD j .un)
  | [], _, _, _, _, _, h, _ => absurd h (by simp)
  | (j0, i0) :: r, ρ, ρ2, j, i, nd, h, hl => by
    have nd' : i0 ∉ r.map (·.2) ∧ (r.map (·.2)).Nodup := by simpa using nd
    rcases List.mem_cons.mp h with (h | h)
    · have hj : j = j0 := congrArg (·.1) h
      have hi : i = i0 := congrArg (·.2) h
      subst hj hi
      show (ioSet r (ρ.set i _) ρ2)[i]? = _
      rw [ioSet_out nd'.1, List.getElem?_set_self hl]
    · show (ioSet r (ρ.set i0 _) ρ2)[i]? = _
      exact ioSet_in nd'.2 h (by rw [List.length_set]; exact hl)
theorem OVI.length {K : PySem.W.Frag} {Pm : List Addr} {σ : St} {H : Hp} : ∀ {vs : List V} {ds : List Arg}, OVI K Pm σ H vs ds → vs.length = ds.length
  | [], [], _ => rfl
  | _ :: _, .v _ :: _, h => by simp [OVI.length h.2]
  | _ :: _, .io _ :: _, h => by simp [OVI.length h.2]
  | [], _ :: _, h => h.elim
  | _ :: _, [], h => h.elim
theorem OVI.getV {K : PySem.W.Frag} {Pm : List Addr} {σ : St} {H : Hp} : ∀ {vs : List V} {ds : List Arg} {k : Nat} {d : D × Md}, OVI K Pm σ H vs ds → ds[k]? = some (.v d) → ∃ v, vs[k]? = some v ∧ OV K Pm H d.2 v d.1
  | v :: _, .v d :: _, 0, _, h, e => by
    cases e
    exact ⟨v, rfl, h.1⟩
  | v :: _, .io _ :: _, 0, _, h, e => by cases e
  | _ :: vs, .v _ :: ds, k + 1, d, h, e => by simpa using OVI.getV (k := k) h.2 (by simpa using e)
  | _ :: vs, .io _ :: ds, k + 1, d, h, e => by simpa using OVI.getV (k := k) h.2 (by simpa using e)
  | [], [], _, _, _, e => by simp at e
  | [], _ :: _, _, _, h, _ => h.elim
  | _ :: _, [], _, _, h, _ => h.elim
theorem OVI.getI {K : PySem.W.Frag} {Pm : List Addr} {σ : St} {H : Hp} : ∀ {vs : List V} {ds : List Arg} {k i : Nat}, OVI K Pm σ H vs ds → ds[k]? = some (.io i) → ∃ v, vs[k]? = some v ∧ σ[i]? = some (some v)
  | v :: _, .v d :: _, 0, _, h, e => by cases e
  | v :: _, .io j :: _, 0, i, h, e => by
    cases e
    exact ⟨v, rfl, h.1⟩
  | _ :: vs, .v _ :: ds, k + 1, d, h, e => by simpa using OVI.getI (k := k) h.2 (by simpa using e)
  | _ :: vs, .io _ :: ds, k + 1, d, h, e => by simpa using OVI.getI (k := k) h.2 (by simpa using e)
  | [], [], _, _, _, e => by simp at e
  | [], _ :: _, _, _, h, _ => h.elim
  | _ :: _, [], _, _, h, _ => h.elim
/-- the address that a slot holds -/
def adr (σ : St) (i : Nat) : Addr := match σ[i]? with
  | some (some (.ref p)) => p
  | _ => 0
theorem adr_of {σ : St} {i : Nat} {p : Addr} (h : σ[i]? = some (some (.ref p))) : adr σ i = p := by
  unfold adr
  rw [h]
theorem nodup_snd {js : List (Nat × Nat)} (nd : (js.map (·.2)).Nodup) : ∀ {j j' i : Nat}, (j, i) ∈ js → (j', i) ∈ js → j = j' := by
  induction js with
  | nil => intro _ _ _ h; simp at h
  | cons q r ih =>
    intro j j' i h h'
    have nd' : q.2 ∉ r.map (·.2) ∧ (r.map (·.2)).Nodup := by simpa using nd
    rcases List.mem_cons.mp h with (h | h) <;> rcases List.mem_cons.mp h' with (h' | h')
    · rw [← h] at h'
      exact (congrArg (·.1) h').symm
    · exact absurd (List.mem_map.mpr ⟨_, h', by rw [← h]⟩) nd'.1
    · exact absurd (List.mem_map.mpr ⟨_, h, by rw [← h']⟩) nd'.1
    · exact ih nd'.2 h h'
section
variable {K : PySem.W.Frag} {T : List Addr} {B : Bs} {P P' P2 : List Addr} {H H' H1 H2 : Hp} {σ σ' σ2 : St} {ρ ρ' ρ2 : CV}
/-- the callee's base -/
def ioBs (B : Bs) (P : List Addr) (H : Hp) (σ : St) (js : List (Nat × Nat)) : Bs := { H0 := H, M := B.M ++ P, io := js.map fun q => (q.1, adr σ q.2), ch := js.map fun q => adr σ q.2 }
structure IoOk (B : Bs) (P : List Addr) (H : Hp) (σ : St) (ρ : CV) (as : List Arg) : Prop where
  cl : as.all (clI ρ) = true
  nd : ((ioOf as 0).map (·.2)).Nodup
theorem IoOk.own {as : List Arg} (ok : IoOk B P H σ ρ as) {k i : Nat} (h : as[k]? = some (.io i)) : ∃ ds, ρ[i]? = some (.own ds) := by
  have := List.all_eq_true.mp ok.cl _ (List.mem_of_getElem? h)
  unfold clI at this
  dsimp only at this
  split at this
  · rename_i ds e
    exact ⟨ds, e⟩
  · cases this
theorem IoOk.mem {as : List Arg} {k i : Nat} (h : (k, i) ∈ ioOf as 0) : as[k]? = some (.io i) := (ioOf_mem.mp h).2
theorem IoOk.adr {as : List Arg} (ok : IoOk B P H σ ρ as) (re : RE0 K T B P H σ ρ) {k i : Nat} (h : as[k]? = some (.io i)) : ∃ ds vs, ρ[i]? = some (.own ds) ∧ σ[i]? = some (some (.ref (adr σ i))) ∧ adr σ i ∈ P ∧ H (adr σ i) = some (.lst vs) ∧ TrAll (mask (B.M ++ P) H) vs ds := by
  obtain ⟨ds, e⟩ := ok.own h
  obtain ⟨p, vs, h1, h2, _, h4, h5⟩ := re.own i ds e
  refine ⟨ds, vs, e, ?_⟩
  rw [adr_of h1]
  exact ⟨h1, h2, h4, h5⟩
theorem IoOk.ch {as : List Arg} (ok : IoOk B P H σ ρ as) (re : RE0 K T B P H σ ρ) {p : Addr} (h : p ∈ (ioOf as 0).map fun q => Eng.adr σ q.2) : p ∈ P ∧ ∃ vs, H p = some (.lst vs) := by
  obtain ⟨⟨k, i⟩, hq, rfl⟩ := List.mem_map.mp h
  obtain ⟨ds, vs, _, _, h1, h2, _⟩ := ok.adr re (IoOk.mem hq)
  exact ⟨h1, vs, h2⟩
theorem entry_io {as : List Arg} {vs : List V} (re : RE0 K T B P H σ ρ) (ok : IoOk B P H σ ρ as) (ov : OVI K (B.M ++ P) σ H vs as) : RE0 K T (ioBs B P H σ (ioOf as 0)) ((ioOf as 0).map fun q => adr σ q.2) H (vs.map some) (as.map (cellOf ρ)) := by
  have sub : ∀ a ∈ (B.M ++ P) ++ ((ioOf as 0).map fun q => adr σ q.2), a ∈ B.M ++ P := fun a ha => by
    rcases List.mem_append.mp ha with z | z
    · exact z
    · exact List.mem_append_right _ (ok.ch re z).1
  have le : SeqLe (mask (B.M ++ P) H) (mask ((B.M ++ P) ++ ((ioOf as 0).map fun q => adr σ q.2)) H) := mask_anti sub
  have at_ : ∀ {k : Nat} {c : Cell}, (as.map (cellOf ρ))[k]? = some c → (∃ x, as[k]? = some (.v x) ∧ c = toCell x) ∨ ∃ i ds, as[k]? = some (.io i) ∧ ρ[i]? = some (.own ds) ∧ c = .own ds := fun {k c} e => by
    rw [List.getElem?_map] at e
    obtain ⟨a, ea, ec⟩ := Option.map_eq_some_iff.mp e
    cases a with
    | v x => exact .inl ⟨x, ea, ec.symm⟩
    | io i =>
      obtain ⟨ds, ed⟩ := ok.own ea
      refine .inr ⟨i, ds, ea, ed, ?_⟩
      rw [← ec]
      show ρ.getD i .un = _
      rw [List.getD_eq_getElem?_getD, ed]
      rfl
  have cell : ∀ {x : D × Md} {d : D}, toCell x = .val d → x.1 = d ∧ x.2 ≠ .fz := fun {x d} e => by
    unfold toCell at e
    split at e
    · cases e
    · rename_i n
      cases e
      exact ⟨rfl, n⟩
  have cellF : ∀ {x : D × Md} {d : D}, toCell x = .fz d → x.1 = d ∧ x.2 = .fz := fun {x d} e => by
    unfold toCell at e
    split at e
    · rename_i n
      cases e
      exact ⟨rfl, n⟩
    · cases e
  have cellO : ∀ {x : D × Md} {ds : List D}, toCell x ≠ .own ds := fun {x d} e => by
    unfold toCell at e
    split at e <;> cases e
  refine ⟨by rw [List.length_map, List.length_map, ov.length], fun k d e => ?_, fun k ds e => ?_, fun k d e => ?_, fun k k' ds es p hk h1 h2 h3 => ?_, fun a o e _ => .inl e, fun p hp => .inl hp, fun p hp => re.lst p (sub p hp), fun p hp => let ⟨_, vs, e⟩ := ok.ch re hp; ⟨_, e, .lst⟩, fun p hp => ?_, fun q hq => ?_, fun q hq => ?_, re.tab⟩
  · rcases at_ e with ⟨x, ea, ec⟩ | ⟨i, ds, _, _, ec⟩
    · obtain ⟨rfl, n⟩ := cell ec.symm
      obtain ⟨v, ev, o⟩ := ov.getV ea
      refine ⟨v, by rw [List.getElem?_map, ev]; rfl, ?_⟩
      have hc := List.all_eq_true.mp ok.cl _ (List.mem_of_getElem? ea)
      have hc : clA x.2 = true := hc
      refine Tr.mono le _ _ (o.clean ?_)
      obtain ⟨d, m⟩ := x
      cases m <;> first | rfl | (cases hc; done) | exact absurd rfl n
    · cases ec
  · rcases at_ e with ⟨x, ea, ec⟩ | ⟨i, ds', ea, ed, ec⟩
    · exact absurd ec.symm cellO
    · cases ec
      obtain ⟨ds', ws, e1, e2, e3, e4, e5⟩ := ok.adr re ea
      rw [ed] at e1; cases e1
      obtain ⟨v, ev, es⟩ := ov.getI ea
      rw [e2] at es; cases es
      have hq : (k, i) ∈ ioOf as 0 := ioOf_mem.mpr ⟨Nat.zero_le _, ea⟩
      refine ⟨adr σ i, ws, by rw [List.getElem?_map, ev]; rfl, List.mem_map.mpr ⟨(k, i), hq, rfl⟩, fun z => absurd ?_ z, e4, TrAll.mono le _ _ e5⟩
      exact List.mem_map.mpr ⟨(k, adr σ i), List.mem_map.mpr ⟨(k, i), hq, rfl⟩, rfl⟩
  · rcases at_ e with ⟨x, ea, ec⟩ | ⟨i, ds, _, _, ec⟩
    · obtain ⟨rfl, n⟩ := cellF ec.symm
      obtain ⟨v, ev, o⟩ := ov.getV ea
      rw [n] at o
      exact ⟨v, by rw [List.getElem?_map, ev]; rfl, o⟩
    · cases ec
  · rcases at_ h1 with ⟨x, ea, ec⟩ | ⟨i, ds', ea, ed, ec⟩
    · exact absurd ec.symm cellO
    · rcases at_ h2 with ⟨x, ea2, ec2⟩ | ⟨i2, ds2, ea2, ed2, ec2⟩
      · exact absurd ec2.symm cellO
      · have hq : (k, i) ∈ ioOf as 0 := ioOf_mem.mpr ⟨Nat.zero_le _, ea⟩
        have hq2 : (k', i2) ∈ ioOf as 0 := ioOf_mem.mpr ⟨Nat.zero_le _, ea2⟩
        have ne : i ≠ i2 := fun z => by
          subst z
          exact hk (nodup_snd ok.nd hq hq2)
        obtain ⟨v, ev, es⟩ := ov.getI ea
        obtain ⟨v2, ev2, es2⟩ := ov.getI ea2
        rw [List.getElem?_map, ev] at h3
        rw [List.getElem?_map, ev2]
        have h3' : v = .ref p := by
          have := Option.some.inj h3
          exact Option.some.inj this
        subst h3'
        have := re.sep i i2 ds' ds2 p ne ed ed2 es
        intro z
        have z' : v2 = .ref p := by
          have := Option.some.inj z
          exact Option.some.inj this
        rw [z'] at es2
        exact this es2
  · obtain ⟨vs, z⟩ := (ok.ch re hp).2
    intro w
    have w : H p = none := w
    rw [z] at w
    cases w
  · obtain ⟨⟨k, i⟩, hm, rfl⟩ := List.mem_map.mp hq
    obtain ⟨ds, ws, e1, e2, _⟩ := ok.adr re (IoOk.mem hm)
    obtain ⟨v, ev, es⟩ := ov.getI (IoOk.mem hm)
    rw [e2] at es; cases es
    show (vs.map some)[k]? = _
    rw [List.getElem?_map, ev]
    rfl
  · obtain ⟨⟨k, i⟩, hm, rfl⟩ := List.mem_map.mp hq
    obtain ⟨ds, e1⟩ := ok.own (IoOk.mem hm)
    refine ⟨ds, ?_⟩
    show (as.map (cellOf ρ))[k]? = _
    rw [List.getElem?_map, IoOk.mem hm]
    show some (ρ.getD i .un) = _
    rw [List.getD_eq_getElem?_getD, e1]
    rfl
theorem back_io {as : List Arg} (re : RE0 K T B P H σ ρ) (ok : IoOk B P H σ ρ as) (re2 : RE0 K T (ioBs B P H σ (ioOf as 0)) P2 H2 σ2 ρ2) : RE0 K T B P H2 σ (ioSet (ioOf as 0) ρ ρ2) := by
  have kp : ∀ a o, H a = some o → a ∉ ((ioOf as 0).map fun q => adr σ q.2) → H2 a = some o ∨ ∃ ps ps', o = .tbl ps ∧ H2 a = some (.tbl ps') := re2.keep
  have le : SeqLe (mask (B.M ++ P) H) (mask (B.M ++ P) H2) := le_of_keep (P := (ioOf as 0).map fun q => adr σ q.2) (fun p hp => List.mem_append_right _ (ok.ch re hp).1) kp (fun p hp => .inl hp)
  have lsts : Lsts (B.M ++ P) H2 := fun p hp => re2.lst p (List.mem_append_left _ hp)
  -- an owned slot behind the call
  have back : ∀ {j : Nat} {ds : List D}, (ioSet (ioOf as 0) ρ ρ2)[j]? = some (.own ds) → (j ∉ (ioOf as 0).map (·.2) ∧ ρ[j]? = some (.own ds)) ∨ ∃ k, (k, j) ∈ ioOf as 0 ∧ ρ2[k]? = some (.own ds) := fun {j ds} h => by
    by_cases hj : j ∈ (ioOf as 0).map (·.2)
    · obtain ⟨⟨k, i⟩, hm, rfl⟩ := List.mem_map.mp hj
      obtain ⟨ds0, e0⟩ := ok.own (IoOk.mem hm)
      have hl := (List.getElem?_eq_some_iff.mp e0).1
      rw [ioSet_in ok.nd hm hl] at h
      refine .inr ⟨k, hm, ?_⟩
      have h := Option.some.inj h
      rw [List.getD_eq_getElem?_getD] at h
      cases e : ρ2[k]? with
      | none => exact absurd (e ▸ h) (by simp)
      | some c => rw [e] at h; exact congrArg some h
    · rw [ioSet_out hj] at h
      exact .inl ⟨hj, h⟩
  have io2 : ∀ {k i : Nat}, (k, i) ∈ ioOf as 0 → ∃ ds, ρ2[k]? = some (.own ds) := fun {k i} hm => re2.ioo (k, adr σ i) (List.mem_map.mpr ⟨(k, i), hm, rfl⟩)
  have inn : ∀ {j : Nat} {c : Cell}, j ∈ (ioOf as 0).map (·.2) → (ioSet (ioOf as 0) ρ ρ2)[j]? = some c → ∃ ds, c = .own ds := fun {j c} hj h => by
    obtain ⟨⟨k, i⟩, hm, rfl⟩ := List.mem_map.mp hj
    obtain ⟨ds0, e0⟩ := ok.own (IoOk.mem hm)
    have hl := (List.getElem?_eq_some_iff.mp e0).1
    rw [ioSet_in ok.nd hm hl] at h
    obtain ⟨ds, e⟩ := io2 hm
    rw [List.getD_eq_getElem?_getD, e] at h
    exact ⟨ds, (Option.some.inj h).symm⟩
  have notCh : ∀ {a : Addr} {o : HO}, H a = some o → (∀ vs, o ≠ .lst vs) → a ∉ ((ioOf as 0).map fun q => adr σ q.2) := fun {a o} e n z => by
    obtain ⟨_, vs, e2⟩ := ok.ch re z
    rw [e] at e2; cases e2
    exact n vs rfl
  -- the address of an owned slot
  have where_ : ∀ {j : Nat} {ds : List D}, (ioSet (ioOf as 0) ρ ρ2)[j]? = some (.own ds) → ∃ ds0, ρ[j]? = some (.own ds0) := fun {j ds} h => by
    rcases back h with ⟨_, h⟩ | ⟨k, hm, _⟩
    · exact ⟨ds, h⟩
    · exact ok.own (IoOk.mem hm)
  refine ⟨by rw [ioSet_len]; exact re.len, fun j d h => ?_, fun j ds h => ?_, fun j d h => ?_, fun i j ds es p hij h1 h2 h3 => ?_, fun a o e hn => ?_, fun p hp => re.new p hp, lsts, fun p hp => ?_, re.io0, re.ios, fun q hq => ?_, re2.tab⟩
  · by_cases hj : j ∈ (ioOf as 0).map (·.2)
    · obtain ⟨ds, z⟩ := inn hj h
      cases z
    · rw [ioSet_out hj] at h
      obtain ⟨v, h1, h2⟩ := re.val j d h
      exact ⟨v, h1, Tr.mono le _ _ h2⟩
  · rcases back h with ⟨hj, h⟩ | ⟨k, hm, h⟩
    · obtain ⟨p, vs, h1, h2, h3, h4, h5⟩ := re.own j ds h
      have np : p ∉ ((ioOf as 0).map fun q => adr σ q.2) := fun z => by
        obtain ⟨⟨k, i⟩, hm, e⟩ := List.mem_map.mp z
        obtain ⟨ds', vs', e1, e2, _⟩ := ok.adr re (IoOk.mem hm)
        have e : adr σ i = p := e
        rw [e] at e2
        have hij : j ≠ i := fun y => hj (List.mem_map.mpr ⟨(k, i), hm, y.symm⟩)
        exact re.sep j i ds ds' p hij h e1 h1 e2
      have h4' : H2 p = some (.lst vs) := by
        rcases kp p _ h4 np with z | ⟨_, _, z, _⟩
        · exact z
        · cases z
      exact ⟨p, vs, h1, h2, h3, h4', TrAll.mono le _ _ h5⟩
    · obtain ⟨ds0, vs0, e1, e2, e3, e4, _⟩ := ok.adr re (IoOk.mem hm)
      obtain ⟨p0, vs1, f1, f2, f3, f4, f5⟩ := re.own j ds0 e1
      rw [e2] at f1; cases f1
      obtain ⟨p, vs, g1, g2, g3, g4, g5⟩ := re2.own k ds h
      have gs : σ2[k]? = some (some (.ref (adr σ j))) := re2.ios (k, adr σ j) (List.mem_map.mpr ⟨(k, j), hm, rfl⟩)
      rw [gs] at g1; cases g1
      refine ⟨adr σ j, vs, e2, f2, f3, g4, TrAll.mono (mask_anti fun a ha => ?_) _ _ g5⟩
      exact List.mem_append_left _ ha
  · by_cases hj : j ∈ (ioOf as 0).map (·.2)
    · obtain ⟨ds, z⟩ := inn hj h
      cases z
    · rw [ioSet_out hj] at h
      obtain ⟨v, h1, h2⟩ := re.fz j d h
      refine ⟨v, h1, ?_⟩
      cases h2 with
      | lst e f =>
        rcases e with ⟨o, e⟩ | e
        · rcases kp _ _ e (notCh e fun vs z => by cases z) with z | ⟨_, _, z, _⟩
          · exact .lst (.inl ⟨o, z⟩) f
          · cases z
        · exact .lst (.inr e) f
      | tup e f => exact .tup e f
  · obtain ⟨ds0, g1⟩ := where_ h1
    obtain ⟨es0, g2⟩ := where_ h2
    exact re.sep i j ds0 es0 p hij g1 g2 h3
  · have na : a ∉ ((ioOf as 0).map fun q => adr σ q.2) := fun z => by
      rcases re.new a (ok.ch re z).1 with w | w
      · exact hn w
      · rw [e] at w; cases w
    rcases re.keep a o e hn with z | ⟨ps, ps', rfl, z⟩
    · exact kp a o z na
    · rcases kp a _ z na with z2 | ⟨_, qs, _, z2⟩
      · exact .inr ⟨ps, ps', rfl, z2⟩
      · exact .inr ⟨ps, qs, rfl, z2⟩
  · obtain ⟨o, e, c⟩ := re.iol p hp
    by_cases z : p ∈ ((ioOf as 0).map fun q => adr σ q.2)
    · exact lsts p (List.mem_append_right _ (ok.ch re z).1)
    · rcases kp p _ e z with w | ⟨_, _, w, _⟩
      · exact ⟨o, w, c⟩
      · subst w
        rcases c with ⟨_, y⟩ | ⟨_, _, _, y⟩ <;> cases y
  · obtain ⟨ds, e⟩ := re.ioo q hq
    by_cases hj : q.1 ∈ (ioOf as 0).map (·.2)
    · obtain ⟨⟨k, i⟩, hm, z⟩ := List.mem_map.mp hj
      have z : i = q.1 := z
      obtain ⟨ds2, e2⟩ := io2 hm
      refine ⟨ds2, ?_⟩
      rw [← z] at e ⊢
      rw [ioSet_in ok.nd hm (List.getElem?_eq_some_iff.mp e).1, List.getD_eq_getElem?_getD, e2]
      rfl
    · exact ⟨ds, by rw [ioSet_out hj]; exact e⟩
/-- what such a call gives back -/
theorem val_io {as : List Arg} (re : RE0 K T B P H σ ρ) (ok : IoOk B P H σ ρ as) (re2 : RE0 K T (ioBs B P H σ (ioOf as 0)) P2 H2 σ2 ρ2) {m : Md} {v : V} {d : D} {z : D × Md} (rv : RV K (ioBs B P H σ (ioOf as 0)) P2 H2 m v d) (e : callMd true d m = some z) (h : okEl z = true) : Tr (mask (B.M ++ P) H2) v z.1 := by
  have lsts : Lsts (B.M ++ P) H2 := fun p hp => re2.lst p (List.mem_append_left _ hp)
  cases m with
  | fr =>
    obtain ⟨p, vs, ds, rfl, rfl, h0, h1, h2, h3⟩ := rv
    cases e
    have n : p ∉ B.M ++ P := fun w => h1 (List.mem_append_left _ w)
    refine .lst (by rw [mask_out n]; exact h2) (TrAll.mono (mask_anti fun a ha => ?_) _ _ h3)
    exact List.mem_cons_of_mem _ (List.mem_append_left _ ha)
  | ow =>
    obtain ⟨p, vs, ds, rfl, rfl, h1, h2, h3, h4, h5⟩ := rv
    cases e
    exact .lst (by rw [mask_out (show p ∉ B.M ++ P from h2)]; exact h4) (TrAll.mono (mask_anti fun a ha => List.mem_append_left _ ha) _ _ h5)
  | cl =>
    cases e
    exact Tr.mono (mask_anti fun a ha => List.mem_append_left _ ha) _ _ (show Tr (mask ((B.M ++ P) ++ P2) H2) v d from rv)
  | vw =>
    unfold callMd at e
    dsimp only at e
    split at e
    · rename_i hl
      cases e
      exact Tr.lfMask lsts rv hl
    · cases e
      unfold okEl at h
      rw [Bool.or_eq_true, Bool.and_eq_true] at h
      rcases h with h | h
      · cases h
      · exact Tr.lfMask lsts rv h.2
  | fz => cases e
end
theorem callIo_core {n : Nat} {ios : List Nat} {M : CV → RF} {σ : St} {H : Hp} {Q : VK} {E : XK} (w : tX C (mCallIo ios M fa) σ H Q) (hl : LenI n fa) (hob : C.ob = none) : tAI C W fa σ H fun vs H1 => spM { C with ios := ios, ob := none } n M vs H1 Q E := by
  obtain ⟨B, P, ρ, hio, re, w⟩ := w
  refine ⟨B, P, ρ, hio, re, ?_⟩
  unfold mCallIo at w
  cases ea : fa ρ with
  | er c => rw [ea] at w; exact w.elim
  | no => rw [ea] at w; exact w.elim
  | ok as =>
    rw [ea] at w
    dsimp only at w
    split at w
    · rename_i hc
      obtain ⟨h1, h2, h3⟩ := hc
      intro vs H1 s tb ov
      have hb0 := hio.ob.trans hob
      have re1 := (re.sm s tb).to0 hb0
      have ok : IoOk B P H1 σ ρ as := ⟨h1, nodupB_iff h3⟩
      refine ⟨ioBs B P H1 σ (ioOf as 0), (ioOf as 0).map fun q => adr σ q.2, as.map (cellOf ρ), by rw [ov.length]; exact hl.len ρ as ea, ⟨?_, rfl⟩, rfl, ?_, .of0 rfl (entry_io re1 ok ov), ?_⟩
      · rw [← h2]
        show ((ioOf as 0).map fun q => (q.1, adr σ q.2)).map (·.1) = _
        rw [List.map_map]
        rfl
      · show ((ioOf as 0).map fun q => adr σ q.2) = ((ioOf as 0).map fun q => (q.1, adr σ q.2)).map (·.2)
        rw [List.map_map]
        rfl
      · cases em : M (as.map (cellOf ρ)) with
        | er c => rw [em] at w; exact w.elim
        | no => rw [em] at w; exact w.elim
        | ok y =>
          obtain ⟨⟨d, m⟩, ρ2⟩ := y
          rw [em] at w
          dsimp only at w
          intro P2 σ2 H2 v re2 rv
          cases ez : callMd true d m with
          | none => rw [ez] at w; exact w.elim
          | some z =>
            rw [ez] at w
            dsimp only at w
            split at w
            · rename_i hk
              exact w v H2 (.of0 hb0 (back_io re1 ok (re2.to0 rfl))) (val_io re1 ok (re2.to0 rfl) rv ez hk)
            · exact w.elim
    · exact w.elim
/-- a def that changes lists, as its callers know it -/
structure CalIo (P : Program) (w : World) (K : PySem.W.Frag) (mg : Str → Option Value) (base : Heap) (T : List Addr) (x : Str) (n k : Nat) (ios : List Nat) (M : CV → RF) : Prop where
  ex : ∃ (f : Addr) (fd : FuncData) (ps : List Str), FnOk P w K mg base (L2N.CX P w) k f fd ps (spM { K := K, T := T, mg := mg, ios := ios } n M) ∧ mg x = some (.ref f) ∧ PySem.W.keepIn K (.ref f) = true ∧ Binds K fd ps []
theorem CalIo.of {P : Program} {w : World} {K : PySem.W.Frag} {mg : Str → Option Value} {base : Heap} {T : List Addr} {x qual : Str} {st : Stmt} {f : Addr} {fd : FuncData} {n k : Nat} {ios : List Nat} {M : CV → RF} {C : Cf} {ps : List Str} (hC : C = { K := K, T := T, mg := mg, ios := ios })
    (F : Fun K x qual st f fd) (hm : mg x = some (.ref f)) (hb : Binds K fd ps []) (h : FnOk P w K mg base (L2N.CX P w) k f fd ps (spM C n M)) : CalIo P w K mg base T x n k ios M := ⟨f, fd, ps, hC ▸ h, hm, F.kp, hb⟩
theorem sx_callIo {x : Str} {k k' n : Nat} {ios : List Nat} {M : CV → RF} {p : Pos} (G : CalIo X.prog X.w X.K X.mg X.base C.T x n k ios M) (hr : Room k' X.A) (tk : L2N.Takes X W) (ha : PA X (e :: es) (tAI C W fa)) (hl : LenI n fa) (hC : { C with ios := ios, ob := none } = { K := X.K, T := C.T, mg := X.mg, ios := ios : Cf } := by rfl) (hob : C.ob = none := by rfl)
    (hkk : k ≤ k' := by decide) (hg : Gl X x := by rfl) (hdb : (x == ("__debug__" : Str)) = false := by decide) (he : starEach (e :: es) X.env = (false, eval e X.env) :: starEach es X.env := by rfl) (hpl : (backTo pos (starEach es X.env)).any (·.1) = false := by rfl) :
    PE X (.Call (.Name x p) (e :: es) [] pos) (tX C (mCallIo ios M fa)) := by
  obtain ⟨f, fd, ps, h1, h2, h3, h4⟩ := G.ex
  exact PE.imp (pe_callS (E := WE W) (hC ▸ h1) (hr.mono hkk) hg h2 h3 h4 (fun σ => L2N.passAt tk σ) ha hdb he hpl) fun σ H Q w => callIo_core w hl hob
end
end Eng

set_option Elab.async false
set_option linter.all false
set_option maxRecDepth 100000
set_option maxHeartbeats 1234567
namespace Eng
open PySem PySem.Spec
open PyProof.Rows L2

/-! ### in, of things of any depth -/
def rInW (K : PySem.W.Frag) (neg : Bool) : R2 := fun x y H Q => ∃ d ds, Dp K H x d ∧ (Dp K H y (.list ds) ∨ Dp K H y (.tuple ds)) ∧ d.canLay0 = true ∧ PyData.canLayAll0 ds = true ∧ min (PyData.depthAll ds) d.depth ≤ 150 ∧ Q (.bl (if neg then !(ds.any fun z => PyData.eqv z d) else ds.any fun z => PyData.eqv z d)) H
/-- both operands as the state reads them -/
theorem two_read {X : Cx} {pins : List (Addr × Obj)} {σ : St} {H : Hp} {st : Shared} {a c : V} {ua uc : Value} {da dc : D} (inv : Inv X pins σ H st) (ha : Dp X.K H a da) (hc : Dp X.K H c dc) (ra : RelV a ua) (rc : RelV c uc) : (∃ l, Reads st.heap ua da l) ∧ ∃ l, Reads st.heap uc dc l := ⟨inv |> fun w => Dp.reads w _ _ _ ha ra, inv |> fun w => Dp.reads w _ _ _ hc rc⟩
theorem op_inW {X : Cx} (hu : X.A.units + 200 < cLine) : OpR X (compareOp .In) (rInW X.K false) := fun pins st σ Hp a c ua uc Q inv ra rc want => by
  obtain ⟨da, ds, h1, h2, lay, lays, dep, fin⟩ := want
  have room : X.A.units + 1 + min (PyData.depthAll ds) da.depth < cLine := by omega
  cases h2 with
  | inl h2 =>
    obtain ⟨⟨_, k1⟩, _, k2⟩ := two_read inv h1 h2 ra rc
    exact SeqAt.in_list_reads k2 k1 lays lay room ⟨.bl _, Hp, inv, rfl, fin⟩
  | inr h2 =>
    obtain ⟨⟨_, k1⟩, _, k2⟩ := two_read inv h1 h2 ra rc
    exact SeqAt.in_tuple_reads k2 k1 lays lay room ⟨.bl _, Hp, inv, rfl, fin⟩
theorem op_notInW {X : Cx} (hu : X.A.units + 200 < cLine) : OpR X (compareOp .NotIn) (rInW X.K true) := fun pins st σ Hp a c ua uc Q inv ra rc want => by
  obtain ⟨da, ds, h1, h2, lay, lays, dep, fin⟩ := want
  have room : X.A.units + 1 + min (PyData.depthAll ds) da.depth < cLine := by omega
  cases h2 with
  | inl h2 =>
    obtain ⟨⟨_, k1⟩, _, k2⟩ := two_read inv h1 h2 ra rc
    exact SeqAt.notIn_list_reads k2 k1 lays lay room ⟨.bl _, Hp, inv, rfl, fin⟩
  | inr h2 =>
    obtain ⟨⟨_, k1⟩, _, k2⟩ := two_read inv h1 h2 ra rc
    exact SeqAt.notIn_tuple_reads k2 k1 lays lay room ⟨.bl _, Hp, inv, rfl, fin⟩
def inW (x : D) (ds : List D) : Option Bool := if x.canLay0 = true ∧ PyData.canLayAll0 ds = true ∧ min (PyData.depthAll ds) x.depth ≤ 150 then some (ds.any fun z => PyData.eqv z x) else none
def hInW (x y : D × Md) : Option Bool := match y.1 with
  | .list ds => inW x.1 ds
  | .tuple ds => inW x.1 ds
  | _ => none
def hNotInW (x y : D × Md) : Option Bool := (hInW x y).map (!·)
theorem inW_core {C : Cf} (neg : Bool) : ∀ (Pm : List Addr) (H : Hp) (x y : V) (dx dy : D × Md) (k : Bool) (Q : VK), OV C.K Pm H dx.2 x dx.1 → Dp C.K H y dy.1 → hInW dx dy = some k → Q (.bl (if neg then !k else k)) H → rInW C.K neg x y H Q := by
  rintro Pm H x y ⟨dx, mx⟩ ⟨dy, my⟩ k Q ox oy e q
  have go : ∀ ds, (Dp C.K H y (.list ds) ∨ Dp C.K H y (.tuple ds)) → inW dx ds = some k → rInW C.K neg x y H Q := fun ds hy e => by
    unfold inW at e
    split at e
    · rename_i h
      cases e
      exact ⟨dx, ds, ox.dp, hy, h.1, h.2.1, h.2.2, q⟩
    · cases e
  unfold hInW at e
  dsimp only at e oy
  split at e
  · exact go _ (.inl oy) e
  · exact go _ (.inr oy) e
  · cases e
theorem ok_inW {C : Cf} : CmpOk C (rInW C.K false) hInW := fun Pm H x y dx dy k Q l ox oy e q => inW_core false Pm H x y dx dy k Q ox oy.dp e (by simpa using q)
theorem ok_notInW {C : Cf} : CmpOk C (rInW C.K true) hNotInW := fun Pm H x y dx dy k Q l ox oy e q => by
  unfold hNotInW at e
  obtain ⟨b, e0, hb⟩ := Option.map_eq_some_iff.mp e
  subst hb
  exact inW_core true Pm H x y dx dy b Q ox oy.dp e0 (by simpa using q)
/-- a written global of any depth -/
structure GlobD (K : PySem.W.Frag) (mg : Str → Option Value) (x : Str) (d : D) : Prop where
  ex : ∃ A : Addr, mg x = some (.ref A) ∧ ∀ H, Dp K H (.ref A) d
theorem kd_tup {K : PySem.W.Frag} {H : Hp} {a : Addr} {dd : Option Addr} {its : Array Value} {n : Nat} {sl : Array (Option Value)} {xs : List V} {ds : List D} (l : K.lookup a = some ⟨.type "tuple", dd, .seq its n, sl⟩) (hs : its.size ≤ 1000) (v : Vals xs its.toList) (d : DpAll K H xs ds) : Dp K H (.ref a) (.tuple ds) :=
  .tup (.inr ⟨_, its, n, l, rfl, rfl, le_line hs, v⟩) d
def mInG (ds : List D) (f : CV → Rs (D × Md)) : CV → Rs Bool := fun ρ => (f ρ).bind fun x => ofO (inW x.1 ds)
section
variable {X : Cx} {C : Cf} {W : WX} {a : Expr} {f : CV → Rs (D × Md)} {pos p2 : Pos} {x : Str} {ds : List D}
theorem tInG {σ : St} {H : Hp} {A : Addr} {Q : Bool → Hp → Prop} {Q' : VK} (hG : ∀ H, Dp C.K H (.ref A) (.tuple ds)) {B : Bs} {P : List Addr} {ρ : CV} (hio : Lk B C) (re : RE C.K C.T B P H σ ρ) (w : BR C W σ H Q (mInG ds f ρ)) (hq : ∀ k H1, Q k H1 → Q' (.bl k) H1) :
    tOp (rInW C.K false) (tE C W f) (tC (.ref A)) σ H Q' := by
  refine tT_then hio re w fun d m v H1 s re1 vr w1 => ?_
  have o1 := VR.ov re.lst vr
  cases e : inW d ds with
  | none => rw [e] at w1; exact w1.elim
  | some k =>
    rw [e] at w1
    exact inW_core false (B.M ++ P) H1 v (.ref A) (d, m) (.tuple ds, .cl) k Q' o1 (hG H1) e (hq _ _ (w1 H1 (Sm.refl _) re1.tab))
theorem st_inG (hu : X.A.units + 200 < cLine) (hG : GlobD X.K X.mg x (.tuple ds)) (ha : PE X a (tE C W f)) (hK : C.K = X.K := by rfl) (hg : Gl X x := by rfl) (hd : (x == ("__debug__" : Str)) = false := by decide) (hm : behindInMarks .In (.Name x p2) = false := by first | exact nomark _ | rfl) : PT X (.Compare a [.In] [.Name x p2] pos) (tT C W (mInG ds f)) := by
  obtain ⟨A, h1, h2⟩ := hG.ex
  refine PT.imp (pt_cmpR (op_inW hu) ha (pe_glob hg h1 (v := .ref A) rfl hd) hm) fun σ H Q w => ?_
  obtain ⟨B, P, ρ, hio, re, w⟩ := w
  rw [← hK]
  exact tInG (hK ▸ h2) hio re w fun k H1 q => ⟨k, rfl, q⟩
theorem se_inG (hu : X.A.units + 200 < cLine) (hG : GlobD X.K X.mg x (.tuple ds)) (ha : PE X a (tE C W f)) (hK : C.K = X.K := by rfl) (hg : Gl X x := by rfl) (hd : (x == ("__debug__" : Str)) = false := by decide) (hm : behindInMarks .In (.Name x p2) = false := by first | exact nomark _ | rfl) : PE X (.Compare a [.In] [.Name x p2] pos) (tE C W (mVal (mInG ds f))) := by
  obtain ⟨A, h1, h2⟩ := hG.ex
  refine PE.imp (pe_cmpR (op_inW hu) ha (pe_glob hg h1 (v := .ref A) rfl hd) hm) fun σ H Q w => ?_
  obtain ⟨B, P, ρ, hio, re, w⟩ := w
  rw [← hK]
  exact tInG (hK ▸ h2) hio re (ER_val w) fun k H1 q => q
end
theorem room200 {k : Nat} {A : Around} (h : Room k A) : A.units + 200 < cLine := by have := h.un; omega
abbrev sShr (i : Nat) (u : CV → Out) : CV → Out := fun ρ => u (shr i ρ)
end Eng

set_option Elab.async false
set_option linter.all false
set_option maxRecDepth 100000
set_option maxHeartbeats 2345678
namespace Eng
open PySem PySem.Spec
open PyProof.Rows L2 GxR

/-! ### all(..) over an iterator whose turns run own code -/
/-- the truths that the iterator at it hands out; St: where it stands, Fin: what is left at the end -/
structure Turns (prog : Program) (w : World) (A : Around) (it : Addr) (bs : List Bool) (St : Nat → Shared → Prop) (Fin : Shared → Prop) : Prop where
  item : ∀ (i : Nat) (c : Bool) (s : Shared) (Q : Option Value → Shared → Prop) (E : Value → Shared → Prop), bs[i]? = some c → St i s → (∀ s', St (i + 1) s' → Q (some (.bool c)) s') → wpAny (model prog w) A (pyNext (.ref it)) Q E s
  done : ∀ (s : Shared) (Q : Option Value → Shared → Prop) (E : Value → Shared → Prop), St bs.length s → (∀ s', Fin s' → Q none s') → wpAny (model prog w) A (pyNext (.ref it)) Q E s
  fin : ∀ i s, St i s → Fin s
section
variable {prog : Program} {w : World} {A : Around} {it : Addr} {bs : List Bool} {St : Nat → Shared → Prop} {Fin : Shared → Prop} {R : Result → Shared → Prop} {Q : Value → Shared → Prop} {E : Value → Shared → Prop}
theorem turns_loop (W : Turns prog w A.in1 it bs St Fin) : ∀ (cs : List Bool) (i : Nat) (s : Shared), bs.drop i = cs → i ≤ bs.length → St i s → (∀ s', Fin s' → R (.ok (.ret (.bool (cs.all fun b => b)))) s') →
    codeAny (model prog w) A (.builtin "all.loop" ⟨[.ref it], []⟩) R s := by
  intro cs
  induction cs with
  | nil =>
    intro i s hd hi st hR
    have e : i = bs.length := by
      have := List.drop_eq_nil_iff.mp hd
      omega
    rw [e] at st
    apply codeAny_builtin F.entry_all_loop
    (rw [Around.under_plainId F.plain_all_loop _])
    show wpAny _ (A.in1) (pyNext (.ref it) >>= _) _ _ s
    exact wpAny_bind (W.done s _ _ st fun s' f => wpAny_bind (wpAny_rule (wpAny_pure (hR s' f))))
  | cons c cs ih =>
    intro i s hd hi st hR
    have ec : bs[i]? = some c := by
      have := congrArg (fun l => l[0]?) hd
      simpa using this
    have en : bs.drop (i + 1) = cs := by
      rw [← List.drop_drop, hd]
      rfl
    apply codeAny_builtin F.entry_all_loop
    (rw [Around.under_plainId F.plain_all_loop _])
    show wpAny _ (A.in1) (pyNext (.ref it) >>= _) _ _ s
    refine wpAny_bind (W.item i c s _ _ ec st fun s' st' => wpAny_bind (wpAny_holding (wpAny_truthy_bool (wpAny_bind (wpAny_letGo ?_)))))
    cases c with
    | false =>
      (rw [if_neg Bool.false_ne_true])
      exact wpAny_bind (wpAny_rule (wpAny_pure (hR s' (W.fin _ _ st'))))
    | true =>
      rw [if_pos rfl]
      exact wpAny_pure ⟨plainId_quiet F.plain_all_loop _, ih (i + 1) s' en (List.getElem?_eq_some_iff.mp ec).1 st' hR⟩
theorem turns_all {x : Value} {s : Shared} (h : wpAny (model prog w) A.in1 (pyIter x) (fun v s2 => ∃ it bs St Fin, v = .ref it ∧ Turns prog w A.in1 it bs St Fin ∧ St 0 s2 ∧ ∀ s', Fin s' → Q (.bool (bs.all fun b => b)) s') E s) :
    (wpAny (model prog w) A (call (.builtin "all") [x]) Q E s) := by
  apply call_function_tree F.kind_all F.plain_all F.entry_all (F.args_all1 _)
  unfold Builtin.«all»
  refine wpAny_bind (m := oneArg "all" _) (wpAny_pure (wpAny_bind (thn h fun v s2 hv => ?_)))
  obtain ⟨it, bs, St, Fin, rfl, W, st, hQ⟩ := hv
  exact wpAny_pure ⟨plainId_quiet F.plain_all_loop _, turns_loop W bs 0 s2 rfl (Nat.zero_le _) st hQ⟩
end

/-! ### the generator's frame -/
theorem setGen_get {s : Shared} {g : Nat} {x : GenState} (h : g < s.gens.size) : (s.setGen g x).gens[g]? = some x := by
  show (Array.setIfInBounds s.gens g x)[g]? = some x
  rw [Array.getElem?_setIfInBounds_self_of_lt h]
theorem setGen_bare {s : Shared} {g : Nat} {x : GenState} (h : AllBare s.gens) (hx : x.bare = true) : AllBare (s.setGen g x).gens := by
  intro y hy
  rcases Array.mem_or_eq_of_mem_setIfInBounds hy with z | z
  · exact h y z
  · rw [z]; exact hx
section
variable {X : Cx} {pins : List (Addr × Obj)} {σ : L2.St} {T : List Addr} {H0 H H' : Hp} {L I a l : Addr} {g i : Nat} {s : Shared} {cenv : Env}
theorem Inv.gensTo {G : Array GenState} (J : Inv X pins σ H s) (h : AllBare G) : Inv X pins σ H { s with gens := G } := ⟨J.ok, J.os, h, J.base, J.loc, J.cell, J.free, J.freeC, J.pin, J.hok, J.len⟩
/-- the caller's state, whatever was told since -/
def Home (X : Cx) (pins : List (Addr × Obj)) (σ : L2.St) (T : List Addr) (H0 : Hp) (s : Shared) : Prop := ∃ H, Sm H0 H ∧ Tab T H ∧ Inv X pins σ H s
/-- three addresses of ours: the frame, the list's iterator, the generator -/
structure Ours (X : Cx) (pins : List (Addr × Obj)) (L I a : Addr) : Prop where
  fp : ∀ b, b = L ∨ b = I ∨ b = a → ∀ H, H b = none → FpOk X pins H b
  li : L ≠ I
  la : L ≠ a
  ia : I ≠ a
  new : X.base.get? L = none
/-- between two items; i: the next one -/
structure GJ (X : Cx) (pins : List (Addr × Obj)) (σ : L2.St) (T : List Addr) (H0 : Hp) (L I a l : Addr) (g i : Nat) (s : Shared) : Prop where
  hp : ∃ H, Sm H0 H ∧ Tab T H ∧ Inv X pins σ H s ∧ ∀ b, b = L ∨ b = I ∨ b = a → H b = none
  it : s.heap.IsListIter I l i
  ns : ∃ m, s.heap.Ns L m
  gen : s.heap.IsGen a g
  lt : g < s.gens.size
theorem GJ.home (J : GJ X pins σ T H0 L I a l g i s) : Home X pins σ T H0 s := let ⟨H, h1, h2, h3, _⟩ := J.hp; ⟨H, h1, h2, h3⟩
theorem GJ.setGen {x : GenState} (J : GJ X pins σ T H0 L I a l g i s) (hx : x.bare = true) : GJ X pins σ T H0 L I a l g i (s.setGen g x) := by
  obtain ⟨⟨H, h1, h2, h3, h4⟩, j1, j2, j3, j4⟩ := J
  exact ⟨⟨H, h1, h2, Inv.gensTo h3 (setGen_bare h3.bare hx), h4⟩, j1, j2, j3, by rw [GenW.setGen_size]; exact j4⟩
theorem Ours.turned (O : Ours X pins L I a) (J : Inv X pins σ H s) {b : Addr} (hb : b = L ∨ b = I ∨ b = a) (n : H b = none) {h' : Heap} {t' : Nat} (k : Heap.SameBut b s.heap h') : Inv X pins σ H { s with heap := h', toks := t' } := by
  obtain ⟨q1, q2, q3, q4, q5, q6⟩ := O.fp b hb H n
  exact J.turned (t' := t') (fun c o hc e => k.extBut c o hc e) q1 q2 q4 q5 q6
theorem GJ.turn (O : Ours X pins L I a) (J : GJ X pins σ T H0 L I a l g i s) {h' : Heap} {t' : Nat} (it' : h'.IsListIter I l (i + 1)) (k : Heap.SameBut I s.heap h') : GJ X pins σ T H0 L I a l g (i + 1) { s with heap := h', toks := t' } := by
  obtain ⟨⟨H, h1, h2, h3, h4⟩, j1, ⟨m, j2⟩, j3, j4⟩ := J
  refine ⟨⟨H, h1, h2, O.turned h3 (.inr (.inl rfl)) (h4 I (.inr (.inl rfl))) k, h4⟩, it', ⟨m, j2.sameBut k O.li⟩, ?_, j4⟩
  obtain ⟨o, nm, qn, ho, r⟩ := j3
  exact ⟨o, nm, qn, k.extBut a o O.ia.symm ho, r⟩
theorem GJ.store (O : Ours X pins L I a) (J : GJ X pins σ T H0 L I a l g i s) {h' : Heap} {m : Str → Option Value} {t' : Nat} (ns' : h'.Ns L m) (k : Heap.SameBut L s.heap h') : GJ X pins σ T H0 L I a l g i { s with heap := h', toks := t' } := by
  obtain ⟨⟨H, h1, h2, h3, h4⟩, ⟨ob, j1, j1'⟩, _, ⟨o, nm, qn, ho, r⟩, j4⟩ := J
  exact ⟨⟨H, h1, h2, O.turned h3 (.inl rfl) (h4 L (.inl rfl)) k, h4⟩, ⟨ob, k.extBut I ob O.li.symm j1, j1'⟩, ⟨m, ns'⟩, ⟨o, nm, qn, k.extBut a o O.la.symm ho, r⟩, j4⟩
/-- behind a call from the generator's frame -/
theorem GJ.called (O : Ours X pins L I a) (J : GJ X pins σ T H0 L I a l g i s) (hf : cenv.frame = some L) (hJ : Inv X pins σ H s) (h4 : ∀ b, b = L ∨ b = I ∨ b = a → H b = none) {s' : Shared} (h1 : Sm H0 H') (h2 : Tab T H') (hos : s'.os = s.os) (hb : AllBare s'.gens)
    (un : Un (frs (cenv :: X.stack)) [] H H' s.heap s'.heap) (hok : HOk X.prog X.w H' s'.heap) (hg : s.gens.size ≤ s'.gens.size) : GJ X pins σ T H0 L I a l g i s' := by
  have fr : frs (cenv :: X.stack) = L :: frs X.stack := by
    unfold frs
    rw [List.filterMap_cons, hf]
  rw [fr] at un
  have nf : ∀ b, b = L ∨ b = I ∨ b = a → b ∉ frs X.stack := fun b hb' z => by
    obtain ⟨_, q2, q3, _⟩ := O.fp b hb' H (h4 b hb')
    rcases List.mem_cons.mp (hJ.stkSub b z) with w | w
    · exact q2 w
    · exact q3 w
  have hI : ∀ o, s.heap.get? I = some o → s'.heap.get? I = some o := fun o e => un.keep I o e (h4 I (.inr (.inl rfl))) (fun z => (List.mem_cons.mp z).elim (fun w => O.li w.symm) (nf I (.inr (.inl rfl)))) (by simp)
  have ha : ∀ o, s.heap.get? a = some o → s'.heap.get? a = some o := fun o e => un.keep a o e (h4 a (.inr (.inr rfl))) (fun z => (List.mem_cons.mp z).elim (fun w => O.la w.symm) (nf a (.inr (.inr rfl)))) (by simp)
  obtain ⟨_, ⟨ob, j1, j1'⟩, ⟨m, ol, es, ep, hol, r⟩, ⟨o, nm, qn, ho, r2⟩, j4⟩ := J
  obtain ⟨sl, eL⟩ := un.any hol (h4 L (.inl rfl)) (by simp)
  refine ⟨⟨H', h1, h2, ?_, fun b hb' => ?_⟩, ⟨ob, hI ob j1, j1'⟩, ⟨m, _, es, ep, eL, r⟩, ⟨o, nm, qn, ha o ho, r2⟩, Nat.lt_of_lt_of_le j4 hg⟩
  · refine hJ.call' (ch := [L]) hos ⟨fun b o e n h1 h2 => un.keep b o e n (fun z => (List.mem_cons.mp z).elim (fun w => h2 (by rw [w]; exact List.mem_singleton.mpr rfl)) h1) (by simp), fun b o e n h1 _ => un.slot b o e n (List.mem_cons_of_mem _ h1) (by simp),
      fun b o e n _ => un.free b o e n (by simp), fun b o e _ => un.there b o e (by simp), un.tups, un.frzs, un.tbls⟩ hok hb fun b hb' => ?_
    rw [List.mem_singleton.mp hb']
    obtain ⟨_, q2, _, q4, q5, q6⟩ := O.fp L (.inl rfl) H (h4 L (.inl rfl))
    exact ⟨q4, q2, q5, q6⟩
  · rcases hb' with z | z | z
    · rw [z]; exact un.free L _ hol (h4 L (.inl rfl)) (by simp)
    · rw [z]; exact un.free I _ j1 (h4 I (.inr (.inl rfl))) (by simp)
    · rw [z]; exact un.free a _ ho (h4 a (.inr (.inr rfl))) (by simp)
end
section
variable {X : Cx} {pins : List (Addr × Obj)} {σ : L2.St} {T : List Addr} {H0 : Hp} {L I a l : Addr} {g j k : Nat} {sc : Scope} {fn tn y : Str} {p1 p2 p3 p4 py gp : Pos} {src : Expr} {f : Addr} {fd : FuncData} {ps : List Str} {sp : Sp} {vt : V} {vs : List V} {bs : List Bool} {co bi : Value}
/-- the generator's names: y its own, tn the def's that it captured, fn a global def -/
structure GSc (X : Cx) (sc : Scope) (fn tn y : Str) : Prop where
  kind : sc.kind = .function
  co : sc.isCoroutine = false
  cell : ∀ z ∈ sc.names, z.2 ≠ .cell
  dot : sc.names.lookup (".0" : Str) = some NameKind.local
  loc : sc.names.lookup y = some .local
  fn : sc.names.lookup fn = some .globalImplicit
  cap : sc.names.lookup tn = some .free
  only : ∀ z ∈ sc.names, z.2 = .free → z.1 = tn
  own : X.env.scope.names.lookup tn = some .cell
theorem GSc.free (S : GSc X sc fn tn y) (ok : X.Ok) : ∀ z ∈ sc.names, z.2 = .free → ∃ c, X.env.cells.lookup z.1 = some c := fun z hz e => by
  rw [S.only z hz e]
  exact ok.has tn (.inl S.own)
/-- fn(tn, y) -/
abbrev gElt (fn tn y : Str) (p1 p2 p3 p4 : Pos) : Expr := .Call (.Name fn p1) [.Name tn p2, .Name y p3] [] p4
abbrev gEnv (X : Cx) (sc : Scope) (L : Addr) (co : Value) (bi : Addr) : Env := genEnv sc (cloFrom X.env.cells sc.names []) L co bi X.env
/-- the called def: x -> c, whatever was told since H0 -/
structure GFn (X : Cx) (σ : L2.St) (T : List Addr) (H0 : Hp) (fn tn y : Str) (j k l : Nat) (f : Addr) (fd : FuncData) (ps : List Str) (sp : Sp) (vt : V) (vs : List V) (bs : List Bool) : Prop where
  F : FnOk X.prog X.w X.K X.mg X.base (L2N.CX X.prog X.w) k f fd ps sp
  hm : X.mg fn = some (.ref f)
  kp : PySem.W.keepIn X.K (.ref f) = true
  hb : Binds X.K fd ps []
  hj : X.N[j]? = some tn
  hv : σ[j]? = some (some vt)
  hl : H0 l = some (.lst vs)
  len : bs.length = vs.length
  d1 : (fn == ("__debug__" : Str)) = false
  d2 : (tn == ("__debug__" : Str)) = false
  d3 : (y == ("__debug__" : Str)) = false
  d4 : (tn == ("__classdict__" : Str)) = false
  does : ∀ (i : Nat) (x : V) (c : Bool), vs[i]? = some x → bs[i]? = some c → ∀ H2 : Hp, Sm H0 H2 → Tab T H2 → sp [vt, x] H2 (fun u H3 => u = .bl c ∧ Sm H2 H3 ∧ Tab T H3) (fun _ _ _ => False)
theorem elt_turn {A' : Around} {E : Value → Shared → Prop} {bi : Addr} {i q : Nat} {c : Bool} {x : V} {ux : Value} {s : Shared} {m : Str → Option Value} (G : GFn X σ T H0 fn tn y j k l f fd ps sp vt vs bs) (S : GSc X sc fn tn y) (rm : Room k A')
    (hfr : A'.frames = some (gEnv X sc L co bi :: X.stack)) (O : Ours X pins L I a) (J : GJ X pins σ T H0 L I a l g q s) (hn : s.heap.Ns L m) (hy : m y = some ux) (rx : RelV x ux) (ex : vs[i]? = some x) (ec : bs[i]? = some c) :
    wpAny (model X.prog X.w) A' (eval (gElt fn tn y p1 p2 p3 p4) (gEnv X sc L co bi)) (fun v s' => v = .bool c ∧ GJ X pins σ T H0 L I a l g q s') E s := by
  obtain ⟨H, h1, h2, hJ, h4⟩ := J.hp
  have gl : s.heap.Ns (gEnv X sc L co bi).globals X.mg := by
    show s.heap.Ns X.env.globals X.mg
    rw [hJ.ok.glob]
    exact hJ.mod.glob.keeps hJ.bk
  refine wpAny_Call_Name_kw (Calls.Name_function_global S.kind S.fn (Calls.loadGlobal_global gl G.hm ?_) G.d1)
  refine PySem.W.callWith_K (h₀ := X.base) hJ.ok.mod.kin G.kp ?_ rfl rfl
  show wpAny _ _ (spliced ((false, eval (.Name tn p2) (gEnv X sc L co bi)) :: (false, eval (.Name y p3) (gEnv X sc L co bi)) :: [])) _ _ s
  obtain ⟨m2, n2, hl⟩ := hJ.loc
  obtain ⟨ut, rt, lk⟩ := hl j tn vt G.hj G.hv (.inr (.inl S.own))
  obtain ⟨c0, hc0, hcell⟩ : ∃ c0, X.env.cells.lookup tn = some c0 ∧ s.heap.IsCell c0 (some ut) := by
    rcases lk with ⟨z, _⟩ | ⟨_, z⟩
    · have z : X.env.scope.names.lookup tn = some .local := z
      rw [S.own] at z
      cases z
    · exact z
  refine Calls.spliced_cons (wpAny_Name (wpAny_loadName_free S.kind S.cap (NdefX.clo_has (S.free hJ.ok) (PySem.mem_of_lookup S.cap) hc0) hcell ?_ G.d4) G.d2)
  refine Calls.spliced_cons (wpAny_Name (wpAny_loadName_local S.kind S.loc hn hy ?_) G.d3)
  refine Calls.spliced_nil ⟨hJ.kIn, ?_⟩
  have r : Vals [vt, x] [ut, ux] := .cons rt (.cons rx .nil)
  have hs := G.does i x c ex ec H h1 h2
  have lp : ps.length = 2 := (G.F.len _ _ _ _ hs).symm
  have b := G.hb s [ut, ux] hJ.kIn (by rw [lp]; rfl)
  rw [List.append_nil] at b
  have e0 : Env0 X.prog X.w X.K X.mg X.base A' (gEnv X sc L co bi :: X.stack) s H :=
    ⟨hfr, hJ.ok.mod, hJ.bs, Nat.le_trans hJ.ok.bsz hJ.sz, .cons (by show sc.kind ≠ .module; rw [S.kind]; decide) rfl hn O.new hJ.stack, fun b hb => by
      rcases List.mem_cons.mp hb with (z | z)
      · rw [z]; exact h4 L (.inl rfl)
      · exact hJ.stkFree b z, hJ.hok, hJ.bare⟩
  refine GenW.wpAny_gsz (Nat.le_refl _) (wpAny_call (codeAny_mono (G.F.run A' _ s H ⟨[ut, ux], []⟩ [ut, ux] [vt, x] _ _ rm e0 b r hs) fun r s' hq => ?_))
  cases r with
  | error e =>
    obtain ⟨_, _, _, _, _, _, _, _, _, _, _, _, z⟩ := hq
    exact z.elim
  | ok fl =>
    cases fl with
    | next => exact False.elim hq
    | brk => exact False.elim hq
    | cont => exact False.elim hq
    | ret u =>
      obtain ⟨v, H', os, bare, un, hok, rv, rfl, sm, tb⟩ := hq
      intro hg
      exact ⟨rv, J.called O (cenv := gEnv X sc L co bi) rfl hJ h4 (h1.trans sm) tb os bare un hok hg⟩

/-! ### its loop -/
abbrev gExp (fn tn y : Str) (p1 p2 p3 p4 py gp : Pos) (src : Expr) (sc : Scope) : Expr := .GeneratorExp (gElt fn tn y p1 p2 p3 p4) [⟨.Name y py, src, [], 0⟩] sc gp
def GEnds (X : Cx) (pins : List (Addr × Obj)) (σ : L2.St) (T : List Addr) (H0 : Hp) : GenEnd := fun n _ r s => r = .ok .next ∧ (n = 0 ∧ Home X pins σ T H0 s)
def GPro (X : Cx) (pins : List (Addr × Obj)) (σ : L2.St) (T : List Addr) (H0 : Hp) (L I a l : Addr) (g : Nat) (bs : List Bool) : Protocol := fun n _ v s kap =>
  ∃ i c, bs[i]? = some c ∧ v = .bool c ∧ n + (i + 1) = bs.length ∧ GJ X pins σ T H0 L I a l g (i + 1) s ∧ ∀ s', GJ X pins σ T H0 L I a l g (i + 1) s' → kap (.send .none) s'
theorem GJ.list {i : Nat} {s : Shared} (J : GJ X pins σ T H0 L I a l g i s) (hl : H0 l = some (.lst vs)) : ∃ its : List Value, Vals vs its ∧ s.heap.IsList l its.toArray := by
  obtain ⟨H, h1, _, hJ, _⟩ := J.hp
  rcases h1 l _ hl with e | ⟨_, _, e, _⟩
  · obtain ⟨_, its, n, r, e2⟩ := hJ.hok l _ e
    exact ⟨its, r, _, e2, rfl, n, rfl⟩
  · cases e
theorem gl_loop {A : Around} {bi : Addr} (G : GFn X σ T H0 fn tn y j k l f fd ps sp vt vs bs) (S : GSc X sc fn tn y) (hh : A.handled = none) (rm : Room k (A.over (.compLoop (gExp fn tn y p1 p2 p3 p4 py gp src sc) 0 (.ref I) .none (gEnv X sc L co bi)) []))
    (hfr : (A.over (.compLoop (gExp fn tn y p1 p2 p3 p4 py gp src sc) 0 (.ref I) .none (gEnv X sc L co bi)) []).frames = some (gEnv X sc L co bi :: X.stack)) (O : Ours X pins L I a) : ∀ (cs : List Bool) (i : Nat) (s0 s : Shared), bs.drop i = cs → i ≤ bs.length → GJ X pins σ T H0 L I a l g i s →
    Seg (model X.prog X.w) A (GEnds X pins σ T H0) (GPro X pins σ T H0 L I a l g bs) cs.length s0 (.compLoop (gExp fn tn y p1 p2 p3 p4 py gp src sc) 0 (.ref I) .none (gEnv X sc L co bi))
      ((model X.prog X.w).den (.compLoop (gExp fn tn y p1 p2 p3 p4 py gp src sc) 0 (.ref I) .none (gEnv X sc L co bi))) [] s := by
  have hh' : (A.over (.compLoop (gExp fn tn y p1 p2 p3 p4 py gp src sc) 0 (.ref I) .none (gEnv X sc L co bi)) []).handled = none := hh
  intro cs
  induction cs with
  | nil =>
    intro i s0 s hd hi J
    have ei : i = bs.length := by
      have := List.drop_eq_nil_iff.mp hd
      omega
    obtain ⟨its, r, hl⟩ := J.list G.hl
    have hx : its.toArray[i]? = none := by
      rw [List.getElem?_toArray]
      exact List.getElem?_eq_none (by rw [← r.length, ← G.len, ei]; exact Nat.le_refl _)
    show Seg _ A _ _ _ s0 _ ((compTurn (gExp fn tn y p1 p2 p3 p4 py gp src sc) 0 (.ref I) .none (gEnv X sc L co bi)).onRaise (leaving (gEnv X sc L co bi))) [] s
    (rw [compTurn_gen, Sem.onRaise_eq_wrap])
    refine seg_bind_wrap (wpAny_standAt (seg_bind_wrap (wpAny_pyNext_list_end hh' J.it hl hx fun h' hk => ?_)))
    obtain ⟨H, h1, h2, h3, h4⟩ := J.hp
    obtain ⟨q1, q2, q3, q4, q5, q6⟩ := O.fp I (.inr (.inl rfl)) H (h4 I (.inr (.inl rfl)))
    exact seg_end (.ok .next) ⟨rfl, rfl, H, h1, h2, h3.turned (t' := s.toks) (fun b o hb e => hk b o hb e) q1 q2 q4 q5 q6⟩
  | cons c cs ih =>
    intro i s0 s hd hi J
    have ec : bs[i]? = some c := by
      have := congrArg (fun l => l[0]?) hd
      simpa using this
    have en : bs.drop (i + 1) = cs := by
      rw [← List.drop_drop, hd]
      rfl
    have lt := (List.getElem?_eq_some_iff.mp ec).1
    obtain ⟨its, r, hl⟩ := J.list G.hl
    obtain ⟨x, ex⟩ : ∃ x, vs[i]? = some x := ⟨_, List.getElem?_eq_getElem (by rw [← G.len]; exact lt)⟩
    obtain ⟨ux, eu, rx⟩ := r.get ex
    show Seg _ A _ _ _ s0 _ ((compTurn (gExp fn tn y p1 p2 p3 p4 py gp src sc) 0 (.ref I) .none (gEnv X sc L co bi)).onRaise (leaving (gEnv X sc L co bi))) [] s
    (rw [compTurn_gen, Sem.onRaise_eq_wrap])
    refine seg_bind_wrap (wpAny_standAt (seg_bind_wrap (wpAny_pyNext_list_item J.it hl (by rw [List.getElem?_toArray]; exact eu) fun h1 it1 k1 => ?_)))
    have J1 := J.turn (t' := s.toks) O it1 k1
    obtain ⟨m1, n1⟩ := J1.ns
    refine seg_bind_wrap (wpAny_of_eq (rfl : letOwnedTupleGo (.Name y py) (.ref I) ux = pure ()) ?_)
    refine seg_bind_wrap (wpAny_assign_Name (wpAny_storeName_local (show (gEnv X sc L co bi).kindOf y = some .local from S.loc) n1 (fun h2 n2 k2 => ?_) (by show (sc.kind == .class || (sc.kind == .module && _)) = false; rw [S.kind]; rfl)))
    have J2 := J1.store (t' := s.toks + 1) O n2 k2
    simp only [List.forIn_nil]
    refine seg_bind_wrap (wpAny_pure ?_)
    have hy : ∀ v, yieldOut (gEnv X sc L co bi) v = yieldValue v := fun v => by
      unfold yieldOut
      rw [show (gEnv X sc L co bi).scope.isCoroutine = false from S.co]
      rfl
    simp only [if_true, hy]
    (rw [Sem.bind_eq_wrap', Sem.bind_eq_wrap', Sem.wrap_wrap, Sem.wrap_wrap])
    refine seg_wrap (thn (elt_turn G S rm hfr O J2 n2 (if_pos rfl) rx ex ec) fun v s4 hv => ?_)
    obtain ⟨rfl, J4⟩ := hv
    have hlen : cs.length + (i + 1) = bs.length := by
      rw [← en, List.length_drop]
      omega
    exact seg_at (seg_yield rfl rfl rfl ⟨i, c, ec, rfl, hlen, J4, fun s5 J5 => seg_again rfl (ih (i + 1) s5 s5 en lt J5)⟩)
theorem gl_start {A : Around} {bi : Addr} (G : GFn X σ T H0 fn tn y j k l f fd ps sp vt vs bs) (S : GSc X sc fn tn y) (hh : A.handled = none) (rm : Room k (A.over (.compLoop (gExp fn tn y p1 p2 p3 p4 py gp src sc) 0 (.ref I) .none (gEnv X sc L co bi)) []))
    (hfr : (A.over (.compLoop (gExp fn tn y p1 p2 p3 p4 py gp src sc) 0 (.ref I) .none (gEnv X sc L co bi)) []).frames = some (gEnv X sc L co bi :: X.stack)) (O : Ours X pins L I a) {s0 s : Shared} (J : GJ X pins σ T H0 L I a l g 0 s) :
    Seg (model X.prog X.w) A (GEnds X pins σ T H0) (GPro X pins σ T H0 L I a l g bs) bs.length s0 (.compStart (gExp fn tn y p1 p2 p3 p4 py gp src sc) 0 (.ref I) .none (gEnv X sc L co bi))
      ((model X.prog X.w).den (.compStart (gExp fn tn y p1 p2 p3 p4 py gp src sc) 0 (.ref I) .none (gEnv X sc L co bi))) [] s := by
  have go := gl_loop (p1 := p1) (p2 := p2) (p3 := p3) (p4 := p4) (py := py) (gp := gp) (src := src) G S hh rm hfr O bs 0 s0 s rfl (Nat.zero_le _) J
  show Seg _ A _ _ _ s0 _ ((compStart (gExp fn tn y p1 p2 p3 p4 py gp src sc) 0 (.ref I) .none (gEnv X sc L co bi)).onRaise (leaving (gEnv X sc L co bi))) [] s
  unfold compStart
  rw [Sem.onRaise_eq_wrap]
  show Seg _ A _ _ _ s0 _ ((ask >>= _).wrap _ _ _ _) [] s
  refine (seg_bind_wrap (wpAny_askSetting ?_))
  split
  · exact seg_again rfl go
  · first
      | exact seg_bind_wrap (wpAny_rule (seg_bind_wrap (wpAny_standAt (seg_bind_wrap (wpAny_pyIter_listiter J.it (seg_again rfl go))))))
      | (refine seg_bind_wrap (wpAny_rule ?_)
         show Seg _ A _ _ _ s0 _ ((standAt _ >>= _).wrap _ _ _ _) [] s
         exact seg_bind_wrap (wpAny_standAt (seg_bind_wrap (wpAny_pyIter_listiter J.it (seg_again rfl go)))))
/-- the generator, drawn from -/
def GSt (X : Cx) (A : Around) (pins : List (Addr × Obj)) (σ : L2.St) (T : List Addr) (H0 : Hp) (L I a l : Addr) (g : Nat) (bs : List Bool) (i : Nat) (s : Shared) : Prop :=
  GJ X pins σ T H0 L I a l g i s ∧ ∃ gs, s.gens[g]? = some gs ∧ ∀ s', GJ X pins σ T H0 L I a l g i s' → gs.Goes (model X.prog X.w) A.in1 (GEnds X pins σ T H0) (GPro X pins σ T H0 L I a l g bs) (bs.length - i) (.send .none) s'
theorem gen_turns {A : Around} (hh : A.handled = none) (hroom : A.depth < recursionLimit) : Turns X.prog X.w A a bs (GSt X A pins σ T H0 L I a l g bs) (Home X pins σ T H0) where
  item := fun i c s Q E ec st hQ => by
    obtain ⟨J, gs, hgs, hgo⟩ := st
    have lt := (List.getElem?_eq_some_iff.mp ec).1
    obtain ⟨H, _, _, hJ, _⟩ := J.hp
    obtain ⟨n, hn⟩ : ∃ n, bs.length - i = n + 1 := ⟨bs.length - i - 1, by omega⟩
    rw [hn] at hgo
    refine wpAny_pyNext_genexpQ (P := fun n _ s1 => n = 0 ∧ Home X pins σ T H0 s1) hh hJ.nolimit hroom J.gen hgs (hgo _ (J.setGen rfl)) (fun v s1 gs' hb hv => ?_) (fun s1 hp h' hk => ?_)
    · obtain ⟨i', c', ec', rfl, hl, J', hkap⟩ := hv
      have ei : i' = i := by omega
      subst ei
      rw [ec] at ec'
      cases ec'
      refine hQ _ ⟨J'.setGen hb, gs', setGen_get J'.lt, fun s' J2 => ?_⟩
      have e : bs.length - (i' + 1) = n := by omega
      rw [e]
      exact hkap s' J2
    · exact absurd hp.1 (Nat.succ_ne_zero n)
  done := fun s Q E st hQ => by
    obtain ⟨J, gs, hgs, hgo⟩ := st
    obtain ⟨H, _, _, hJ, _⟩ := J.hp
    rw [Nat.sub_self] at hgo
    refine wpAny_pyNext_genexpQ (P := fun n _ s1 => n = 0 ∧ Home X pins σ T H0 s1) hh hJ.nolimit hroom J.gen hgs (hgo _ (J.setGen rfl)) (fun v s1 gs' hb hv => ?_) (fun s1 hp h' hk => ?_)
    · obtain ⟨i', c', ec', rfl, hl, J', hkap⟩ := hv
      exact (hkap s1 J').elim
    · obtain ⟨_, H2, h1, h2, h3⟩ := hp
      exact hQ _ ⟨H2, h1, h2, (Inv.gensTo h3 (setGen_bare h3.bare rfl)).kept (t' := (s1.setGen g .finished).toks) hk⟩
  fin := fun i s st => st.1.home

/-! ### all(fn(tn, y) for y in a list) -/
def tAllG (T : List Addr) (tb : Addr) (j : Nat) (sp : Sp) (te : TE) : TE := fun σ H Q => te σ H fun v H1 => ∃ (l : Addr) (vs : List V) (vt : V) (bs : List Bool), v = .ref l ∧ H1 l = some (.lst vs) ∧ σ[j]? = some (some vt) ∧ Tab T H1 ∧ tb ∈ T ∧ bs.length = vs.length ∧
  (∀ (i : Nat) (x : V) (c : Bool), vs[i]? = some x → bs[i]? = some c → ∀ H2 : Hp, Sm H1 H2 → Tab T H2 → sp [vt, x] H2 (fun u H3 => u = .bl c ∧ Sm H2 H3 ∧ Tab T H3) (fun _ _ _ => False)) ∧ ∀ H2, Sm H1 H2 → Tab T H2 → Q (.bl (bs.all fun b => b)) H2
theorem pe_allG {cd tb : Addr} {te : TE} {p pos : Pos} (hr : Room (k + 1) X.A) (hg : Gl X "all") (hma : X.mg "all" = none) (hb : bootBuiltins "all" = some (.builtin "all")) (TB : TabB X.base X.mg cd tb) (hcode : X.env.code = .ref cd) (S : GSc X sc fn tn y) (hsrc : PE X src te)
    (F : FnOk X.prog X.w X.K X.mg X.base (L2N.CX X.prog X.w) k f fd ps sp) (hm : X.mg fn = some (.ref f)) (kp : PySem.W.keepIn X.K (.ref f) = true) (hbn : Binds X.K fd ps []) (hj : X.N[j]? = some tn) (d1 : (fn == ("__debug__" : Str)) = false) (d2 : (tn == ("__debug__" : Str)) = false)
    (d3 : (y == ("__debug__" : Str)) = false) (d4 : (tn == ("__classdict__" : Str)) = false) (hs : ∀ v, genFold src X.env v = pure v)
    (he : starEach [gExp fn tn y p1 p2 p3 p4 py gp src sc] X.env = (false, eval (gExp fn tn y p1 p2 p3 p4 py gp src sc) X.env) :: starEach [] X.env := by rfl) :
    PE X (.Call (.Name "all" p) [gExp fn tn y p1 p2 p3 p4 py gp src sc] [] pos) (tAllG T tb j sp te) := by
  refine ⟨fun pins s σ H Q I0 want => ?_⟩
  refine wpAny_Call_Name_kw (ld_blt I0 hg hma hb (PyProof.Rows.callWith_builtin1 ?_ he (by rfl)))
  rw [he]
  refine Calls.spliced_cons ?_
  refine wpAny_GeneratorExp_make S.co (closure_ok (S.free I0.ok)) S.cell S.dot S.kind (by have := hr.dp; omega) ?_ hs
  refine thn (hsrc.run pins s σ H _ I0 want) ?_
  rintro xv s1 ⟨v, H1, inv, rel, l, vs, vt, bs, rfl, hl, hv, tab, tbT, hlen, hdo, next⟩
  cases rel
  obtain ⟨rows, hrows, trip⟩ := tab tb tbT
  obtain ⟨_, its, cap, r, el⟩ := inv.hok l _ hl
  have isl : s1.heap.IsList l its.toArray := ⟨_, el, rfl, cap, rfl⟩
  refine wpAny_pyIter_list isl ?_
  have tabS : s1.heap.get? tb = some { cls := .none, data := .fields rows } := inv.hok tb _ hrows
  have stays : ∀ b o, s1.heap.get? b = some o → (s1.heap.push { cls := .type "list_iterator", data := .fields #[.ref l, .int 0 0] }).get? b = some o := fun b o q => Heap.get?_push_of_some _ q
  have grown : (s1.heap.push { cls := .type "list_iterator", data := .fields #[.ref l, .int 0 0] }).objs.size = s1.heap.objs.size + 1 := Heap.size_push ..
  have tbI : tb < s1.heap.objs.size := Heap.lt_size tabS
  refine ⟨inv.nolimit.push _, gen_code hcode (TB.code.keeps fun b o q => stays b o (inv.bk b o q)) (stays tb _ tabS) trip ?_⟩
  intro cv hp tk2 add ext ge tabN tripN
  rw [grown] at ge
  obtain ⟨bm, ob, m1, m2, m3, m4, m5, m6, m7, m8⟩ := TB.bm
  have onTop : ∀ b o, b ≠ tb → s1.heap.get? b = some o → hp.get? b = some o := fun b o n q => ext b o n (stays b o q)
  refine wpAny_builtinsFor (m := X.mg) (by rw [inv.ok.glob]; exact ((inv.mod.glob.keeps inv.bk).push _).extBut ext TB.gP) m1 m2 (onTop bm ob m4 (inv.bk bm ob m5)) m6 m7 m8 ?_
  intro h' hn' hs'
  have sz' : h'.objs.size = hp.objs.size + 1 := by rw [hs'.1, Heap.size_push]
  have keep' : ∀ b o, hp.get? b = some o → h'.get? b = some o := fun b o e => hs'.extBut b o (Nat.ne_of_lt (Heap.lt_size e)) (Heap.get?_push_of_some _ e)
  have gLt : s1.gens.size < (s1.gens.push (.fresh (.compStart (gExp fn tn y p1 p2 p3 p4 py gp src sc) 0 (.ref s1.heap.objs.size) .none (gEnv X sc hp.objs.size cv builtinsNs)))).size := by
    rw [Array.size_push]; exact Nat.lt_succ_self _
  have isI : hp.IsListIter s1.heap.objs.size l 0 := ⟨_, ext _ _ (Nat.ne_of_gt tbI) (Heap.get?_push_size _ rfl), rfl, rfl⟩
  have O : Ours X pins hp.objs.size s1.heap.objs.size h'.objs.size := by
    refine ⟨fun b hb H hn => inv.fpOk (H' := H) ?_ hn, Nat.ne_of_gt (by omega), Nat.ne_of_lt (by omega), Nat.ne_of_lt (by omega), Heap.get?_none_of_le ?_⟩
    · rcases hb with z | z | z <;> (rw [z]; first | exact Nat.le_refl _ | (show s1.heap.objs.size ≤ _; omega))
    · have q1 := inv.ok.bsz
      have q2 := inv.sz
      show X.base.objs.size ≤ hp.objs.size
      omega
  have sm5 : Sm H1 (upd H1 tb (.tbl (rows ++ add))) := fun b o e => by
    by_cases hb' : b = tb
    · rw [hb'] at e ⊢
      rw [hrows] at e
      cases e
      exact .inr ⟨rows, _, rfl, upd_same⟩
    · exact .inl (by rw [upd_ne hb']; exact e)
  have tab5 : Tab T (upd H1 tb (.tbl (rows ++ add))) := fun q hq => by
    by_cases hb' : q = tb
    · rw [hb']
      exact ⟨_, upd_same, tripN⟩
    · obtain ⟨qs, e1, e2⟩ := tab q hq
      exact ⟨qs, by rw [upd_ne hb']; exact e1, e2⟩
  apply Calls.spliced_nil
  have G : GFn X σ T H1 fn tn y j k l f fd ps sp vt vs bs := ⟨F, hm, kp, hbn, hj, hv, hl, hlen, d1, d2, d3, d4, hdo⟩
  have J0 : GJ X pins σ T H1 hp.objs.size s1.heap.objs.size h'.objs.size l s1.gens.size 0 { s1 with gens := s1.gens.push (.fresh (.compStart (gExp fn tn y p1 p2 p3 p4 py gp src sc) 0 (.ref s1.heap.objs.size) .none (gEnv X sc hp.objs.size cv builtinsNs))), toks := tk2 + 1 + 1 + 1, heap := h'.push { cls := .type "generator", data := .fields #[.int s1.gens.size 0, .str "<genexpr>" (tk2 + 1), .str (X.env.qual ++ "<genexpr>") (tk2 + 1 + 1)] } } := by
    refine ⟨⟨_, sm5, tab5, ?_, fun b hb' => ?_⟩, ?_, ⟨_, hn'.push _⟩, ⟨_, _, _, Heap.get?_push_size _ rfl, rfl, rfl, rfl⟩, gLt⟩
    · exact inv_tab (σ := σ) (more := add) (d' := s1.drawn) inv hrows (fun b o n q => Heap.get?_push_of_some _ (keep' b o (onTop b o n q))) (Heap.get?_push_of_some _ (keep' tb _ tabN)) (fun z hz => by
        rcases Array.mem_push.mp hz with w | w
        · exact inv.bare z w
        · rw [w]; rfl)
    · have hge : s1.heap.objs.size ≤ b := by rcases hb' with z | z | z <;> (rw [z]; first | exact Nat.le_refl _ | (show s1.heap.objs.size ≤ _; omega))
      rw [upd_ne (Nat.ne_of_gt (Nat.lt_of_lt_of_le tbI hge))]
      exact inv.hok.fresh hge
    · obtain ⟨oi, i1, i2⟩ := isI
      exact ⟨oi, Heap.get?_push_of_some _ (keep' _ _ i1), i2⟩
  refine turns_all (wpAny_pyIter_gen J0.gen ⟨_, bs, _, Home X pins σ T H1, rfl, gen_turns (l := l) (A := X.A.in1) hr.hd (by show X.A.depth < _; have := hr.dp; omega), ⟨J0, _, Array.getElem?_push_size .., fun s' J' => ⟨rfl, ?_⟩⟩, fun s' hs2 => ?_⟩)
  · refine gl_start (A := X.A.in1.in1) G S hr.hd ⟨hr.hd, ?_, ?_⟩ ?_ O J'
    · have e : (X.A.in1.in1.over (.compLoop (gExp fn tn y p1 p2 p3 p4 py gp src sc) 0 (.ref s1.heap.objs.size) .none (gEnv X sc hp.objs.size cv builtinsNs)) []).depth ≤ X.A.depth + 1 := Nat.le_of_eq rfl
      have := hr.dp
      omega
    · have e : (X.A.in1.in1.over (.compLoop (gExp fn tn y p1 p2 p3 p4 py gp src sc) 0 (.ref s1.heap.objs.size) .none (gEnv X sc hp.objs.size cv builtinsNs)) []).units ≤ X.A.units + 5 := Nat.le_of_eq rfl
      have := hr.un
      omega
    · have e := inv.ok.frames
      revert e
      generalize X.A = A
      intro e
      have e : A.in1.in1.frames = some X.stack := e
      unfold Around.over
      dsimp only
      rw [e]
      rfl
  · obtain ⟨H2, s2, t2, i2⟩ := hs2
    exact ⟨.bl _, H2, i2, rfl, next H2 s2 t2⟩
end

/-! ### its mirror -/
def bits (f : D → RF) : List D → Option (List Bool)
  | [] => some []
  | x :: xs => match f x with
    | .ok ((.bool c, _), _) => (bits f xs).map (c :: ·)
    | _ => none
theorem bits_ok {f : D → RF} : ∀ {ds : List D} {bs : List Bool}, bits f ds = some bs → bs.length = ds.length ∧ ∀ (i : Nat) (d : D) (c : Bool), ds[i]? = some d → bs[i]? = some c → ∃ m ρ, f d = .ok ((.bool c, m), ρ)
  | [], bs, h => by
    cases h
    exact ⟨rfl, fun i d c e => by simp at e⟩
  | x :: xs, bs, h => by
    unfold bits at h
    split at h
    · rename_i c0 m0 ρ0 e0
      obtain ⟨cs, hc, rfl⟩ := Option.map_eq_some_iff.mp h
      obtain ⟨h1, h2⟩ := bits_ok hc
      refine ⟨by simp [h1], fun i d c e1 e2 => ?_⟩
      cases i with
      | zero =>
        simp at e1 e2
        subst e1
        subst e2
        exact ⟨m0, ρ0, e0⟩
      | succ i => exact h2 i d c (by simpa using e1) (by simpa using e2)
    · cases h
theorem bits_make {f : D → RF} {g : D → Bool} : ∀ {ds : List D}, (∀ d ∈ ds, ∃ m ρ, f d = .ok ((.bool (g d), m), ρ)) → bits f ds = some (ds.map g)
  | [], _ => rfl
  | x :: xs, h => by
    obtain ⟨m, ρ, e⟩ := h x (by simp)
    unfold bits
    rw [e]
    show (bits f xs).map _ = _
    rw [bits_make fun d hd => h d (List.mem_cons_of_mem _ hd)]
    rfl
/-- all(f(t, y) for y in a list), t the slot j -/
def mAllG (M : CV → RF) (j : Nat) (fs : CV → Rs (D × Md)) : CV → Rs (D × Md) := fun ρ => (fs ρ).bind fun x => match x, ρ[j]? with
  | (.list ds, m), some (.val t) => if m = .fz then .no else match bits (fun d => M [.val t, .val d]) ds with
    | some bs => .ok (.bool (bs.all fun b => b), .cl)
    | none => .no
  | _, _ => .no
theorem TrAll.item {H : Hp} : ∀ {vs : List V} {ds : List D} {i : Nat} {v : V}, TrAll H vs ds → vs[i]? = some v → ∃ d, ds[i]? = some d ∧ Tr H v d
  | _, _, 0, _, .cons t _, e => by simp at e; subst e; exact ⟨_, rfl, t⟩
  | _, _, i + 1, _, .cons _ t, e => by simpa using TrAll.item (i := i) t (by simpa using e)
  | _, _, _, _, .nil, e => (by simp at e)
theorem TrAll.lenEq {H : Hp} : ∀ {vs : List V} {ds : List D}, TrAll H vs ds → vs.length = ds.length
  | _, _, .nil => rfl
  | _, _, .cons _ t => by simp [TrAll.lenEq t]
section
variable {X : Cx} {C : Cf} {W : WX} {fs : CV → Rs (D × Md)} {src : Expr}
theorem se_allG {cd tb : Addr} {k : Nat} {M : CV → RF} {fn tn y : Str} {sc : Scope} {p1 p2 p3 p4 py gp p pos : Pos} (j : Nat) (G : Cal X.prog X.w X.K X.mg X.base C.T fn 2 k M) (hr : Room (k + 1) X.A) (hP : tb ∈ C.T) (TB : TabB X.base X.mg cd tb) (hcode : X.env.code = .ref cd) (hma : X.mg "all" = none) (hi : PE X src (tE C W fs))
    (hC : { C with ios := [], ob := none } = { K := X.K, T := C.T, mg := X.mg, ios := [], ob := none : Cf } := by rfl) (hj : X.N[j]? = some tn := by rfl) (hlc : C.lc j = true := by rfl)
    (hkd : sc.kind = .function := by rfl) (hco : sc.isCoroutine = false := by rfl) (hce : ∀ y ∈ sc.names, y.2 ≠ .cell := by decide +kernel) (hon : ∀ z ∈ sc.names, z.2 = .free → z.1 = tn := by decide +kernel) (hdt : sc.names.lookup (".0" : Str) = some NameKind.local := by rfl)
    (hfn : sc.names.lookup fn = some .globalImplicit := by rfl) (hcap : sc.names.lookup tn = some .free := by rfl) (hy : sc.names.lookup y = some .local := by rfl) (hown : X.env.scope.names.lookup tn = some .cell := by rfl) (hg : Gl X "all" := by rfl) (hs : ∀ v, genFold src X.env v = pure v := by intro _; rfl)
    (d1 : (fn == ("__debug__" : Str)) = false := by decide) (d2 : (tn == ("__debug__" : Str)) = false := by decide) (d3 : (y == ("__debug__" : Str)) = false := by decide) (d4 : (tn == ("__classdict__" : Str)) = false := by decide)
    (he : starEach [gExp fn tn y p1 p2 p3 p4 py gp src sc] X.env = (false, eval (gExp fn tn y p1 p2 p3 p4 py gp src sc) X.env) :: starEach [] X.env := by rfl) :
    PE X (.Call (.Name "all" p) [gExp fn tn y p1 p2 p3 p4 py gp src sc] [] pos) (tE C W (mAllG M j fs)) := by
  obtain ⟨f, fd, ps, h1, h2, h3, h4⟩ := G.ex
  refine PE.imp (pe_allG (T := C.T) hr hg hma (by decide +kernel) TB hcode ⟨hkd, hco, hce, hdt, hy, hfn, hcap, hon, hown⟩ hi h1 h2 h3 h4 hj d1 d2 d3 d4 hs he) fun σ H Q w => ?_
  obtain ⟨B, P, ρ, hio, re, w⟩ := w
  refine tE_then hio re w fun d m v H1 s re1 vr w1 => ?_
  have o1 := VR.ov re.lst vr
  split at w1
  · rename_i ds m0 t ed et
    cases ed
    split at w1
    · exact w1.elim
    rename_i hm
    split at w1
    · rename_i bs eb
      obtain ⟨l1, l2⟩ := bits_ok eb
      obtain ⟨vt, hvt, tt⟩ := re1.val (hio.lc hlc) et
      cases o1.tr hm with
      | lst hl tl =>
        rename_i a vs
        refine ⟨a, vs, vt, bs, rfl, hl, hvt, re1.tab, hP, by rw [l1, tl.lenEq], fun i x c ex ec H2 s2 t2 => ?_, fun H2 s2 t2 => w1 _ H2 s2 t2 (.bl _)⟩
        obtain ⟨dx, edx, tx⟩ := tl.item ex
        obtain ⟨mx, ρx, eM⟩ := l2 i dx c edx ec
        have q1 : Tr H2 vt t := Tr.mono s2.seq _ _ (Tr.mono mask_le _ _ tt)
        have q2 : Tr H2 x dx := Tr.mono s2.seq _ _ tx
        refine ⟨{ H0 := H2, M := [], io := [], ch := [] }, [], [.val t, .val dx], rfl, ⟨rfl, rfl⟩, rfl, rfl, entry_call (C := { K := X.K, T := C.T, mg := X.mg, ios := [] }) (Pm := []) (M := []) (ds := [(t, .cl), (dx, .cl)]) (fun q hq => by simp at hq) t2 ⟨by show Tr (mask [] H2) vt t; rw [mask_nil]; exact q1, by show Tr (mask [] H2) x dx; rw [mask_nil]; exact q2, trivial⟩ (fun z u o nf hz => ?_), ?_⟩
        · rw [mask_nil]
          exact o.tr nf
        · rw [eM]
          intro P' σ' H' v' re' rv
          refine ⟨?_, re'.smOf rfl, re'.tab⟩
          cases mx with
          | fr => obtain ⟨_, _, _, _, e, _⟩ := rv; cases e
          | ow => obtain ⟨_, _, _, _, e, _⟩ := rv; cases e
          | cl =>
            have rv : Tr (mask ([] ++ P') H') v' (.bool c) := rv
            cases rv
            rfl
          | vw =>
            have rv : Tr H' v' (.bool c) := rv
            cases rv
            rfl
          | fz =>
            have rv : Fz X.K H' v' (.bool c) := rv
            cases rv
    · exact w1.elim
  · exact w1.elim
end
end Eng

set_option Elab.async false
set_option linter.all false
set_option maxRecDepth 100000
set_option maxHeartbeats 1234567
namespace Eng
open PySem PySem.Spec
open PyProof.Rows L2

/-! ### the truth of a list or a tuple -/
def mTruth (f : CV → Rs (D × Md)) : CV → Rs Bool := fun ρ => (f ρ).bind fun x => match x.1 with
  | .bool b => .ok b
  | .list ds => .ok (!ds.isEmpty)
  | .tuple ds => .ok (!ds.isEmpty)
  | _ => .no
theorem isEmpty_len {α β : Type} {a : List α} {b : List β} (h : a.length = b.length) : (!a.isEmpty) = !b.isEmpty := by
  cases a <;> cases b <;> first | rfl | cases h
def hSlT (x : D × Md) (l h : Option Int) : Option (D × Md) := match x with
  | (.tuple ds, .cl) => some (.tuple (cut ds l h), .cl)
  | (.tuple ds, .vw) => some (.tuple (cut ds l h), .vw)
  | _ => none
def mSlT (f : CV → Rs (D × Md)) (lo hi : CV → Rs (Option Int)) : CV → Rs (D × Md) := fun ρ => (f ρ).bind fun x => (lo ρ).bind fun l => (hi ρ).bind fun h => ofO (hSlT x l h)
section
variable {X : Cx} {C : Cf} {W : WX} {a e : Expr} {le he : Option Expr} {f : CV → Rs (D × Md)} {lo hi : CV → Rs (Option Int)} {pos p2 : Pos}
theorem st_truth (ha : PE X e (tE C W f)) (hK : X.K = C.K := by rfl) (he : ∀ whole, isTrue e X.env whole = (do let v ← whole; standAt e.pos; holding [v] (truthy v)) := by intro _; rfl) : PT X e (tT C W (mTruth f)) :=
  PT.imp (pt_truth ha he) fun σ H Q w => by
    obtain ⟨B, P, ρ, hio, re, w⟩ := w
    refine tT_then hio re w fun d m v H1 s re1 vr w1 => ?_
    have o1 := VR.ov re.lst vr
    cases d with
    | bool b =>
      by_cases n : m = .fz
      · subst n
        cases o1
      · have t := o1.tr n
        cases t
        exact ⟨_, rfl, w1 H1 (Sm.refl _) re1.tab⟩
    | list ds =>
      obtain ⟨p, vs, rfl, hs, t, c⟩ := o1.seqL
      exact ⟨_, .inl ⟨vs, by rw [hK]; exact hs, (isEmpty_len t.lenEq).symm⟩, w1 H1 (Sm.refl _) re1.tab⟩
    | tuple ds =>
      obtain ⟨p, vs, rfl, hs, t, c⟩ := o1.seqT
      exact ⟨_, .inr (.inl ⟨vs, by rw [hK]; exact hs, (isEmpty_len t.lenEq).symm⟩), w1 H1 (Sm.refl _) re1.tab⟩
    | _ => exact w1.elim
/-- t[lo:hi], t a tuple -/
theorem se_slT (ha : PE X a (tE C W f)) (hl : PO X le (tO C W lo)) (hh : PO X he (tO C W hi)) (hK : X.K = C.K) : PE X (.Subscript a (.Slice le he none p2) pos) (tE C W (mSlT f lo hi)) :=
  PE.imp (pe_slice sl_tupA ha hl hh) fun σ H Q w => by
    obtain ⟨B, P, ρ, hio, re, w⟩ := w
    refine tE_then hio re w fun d m v H1 s re1 vr w1 => ?_
    have o1 := VR.ov re.lst vr
    refine tO_then hio re1 w1 fun l H2 s2 re2 w2 => ?_
    refine tO_then hio re2 w2 fun h H3 s3 re3 w3 => ?_
    have o3 := (o1.sm s2).sm s3
    have go : ∀ (G : Hp) (ds : List D), SeqLe G H3 → (∀ p, H3 p = none → ∀ vs, TrAll G vs ds → TrAll G (cutV vs l h) (Eng.cut ds l h)) → Tr G v (.tuple ds) → (Tr G v (.tuple (Eng.cut ds l h)) → Q v H3) →
        (∀ vs p, H3 p = none → TrAll G (cutV vs l h) (Eng.cut ds l h) → Q (.ref p) (upd H3 p (.tup (cutV vs l h)))) → rSlA X.K v l h H3 Q := by
      intro G ds le _ tr q1 q2
      cases tr with
      | @tup p vs ds e t =>
        have hlen : vs.length = ds.length := t.lenEq
        refine ⟨p, vs, rfl, SqT.of (le.2 _ _ e), fun hw => ?_, fun _ r hr => q2 vs r hr (t.cut l h)⟩
        have ec : Eng.cut ds l h = ds := by
          unfold Eng.cut
          rw [hlen] at hw
          rw [hw.1, hw.2]
          simp
        exact q1 (by rw [ec]; exact .tup e t)
    cases d <;> try exact w3.elim
    rename_i ds
    cases m with
    | cl => exact go _ ds mask_le (fun _ _ vs t => t.cut l h) o3 (fun t => w3 _ H3 (Sm.refl _) re3.tab t) fun vs p hp t => new_tup (C := C) (Pm := B.M ++ P) re3.lst re3.tab hp t w3
    | vw => exact go _ ds ⟨fun _ _ h => h, fun _ _ h => h⟩ (fun _ _ vs t => t.cut l h) o3 (fun t => w3 _ H3 (Sm.refl _) re3.tab t) fun vs p hp t => w3 _ _ (Sm.upd hp) (re3.tab.new hp) (.tup upd_same (TrAll.mono (Sm.upd hp).seq _ _ t))
    | fr => exact w3.elim
    | ow => exact w3.elim
    | fz => exact w3.elim
/-! ### xs.extend(t), t a tuple -/
theorem meets_extT (l b : Addr) (items items2 : Array Value) (n : Nat) (hz : items.size + items2.size ≤ sizeLine) :
    Meets (Builtin.«list.extend» ⟨[.ref l, .ref b], []⟩) (fun _ R s => s.heap.get? l = some { cls := .type "list", data := .seq items n } ∧ IsTup s.heap b items2 ∧ R (.ok (.ret Value.none)) { s with heap := s.heap.update l (Obj.mapSeq fun x => x ++ items2), toks := s.toks }) :=
  Meets.of_wp fun prog w A R s h => by
    obtain ⟨hl, ⟨o, ho, hc, n2, hd⟩, hR⟩ := h
    show wpAny _ _ (Builtin.List.listExtendWith (.ref l) (.ref b) .none) _ _ s
    (unfold Builtin.List.listExtendWith)
    refine wpAny_bind (wpAny_typeOf ⟨_, ho, hc⟩ ?_)
    have h1 : (Builtin.List.listSameRef (.ref l) (.ref b) || Value.type "tuple" == Value.type "list" || Value.type "tuple" == Value.type "tuple") = true := by simp
    rw [if_pos h1]
    have h2 : ¬ (!items.isEmpty && Builtin.List.listTooLong (items.size + items2.size)) = true := by
      rw [notLongL hz, Bool.and_false]
      exact Bool.false_ne_true
    have h3 : items.size ≤ sizeLine := by omega
    refine wpAny_bind (wpAny_bind (wpAny_seqItems ho hd (wpAny_pure ?_)))
    refine wpAny_bind (wpAny_bind (wpAny_seqItems hl rfl (wpAny_pure ?_)))
    rw [if_neg h2]
    exact wpAny_bind (wpAny_updateSeq hl rfl (wpAny_pure ⟨_, rfl, hR⟩))
def rExtT : V → List V → Hp → VK → Prop := fun x vs H Q => ∃ l b xs zs, x = .ref l ∧ vs = [.ref b] ∧ H l = some (.lst xs) ∧ H b = some (.tup zs) ∧ xs.length + zs.length ≤ sizeLine ∧ Q .non (upd H l (.lst (xs ++ zs)))
theorem mt_extT : MtM X "list.extend" rExtT := by
  intro pins s σ H x vs v us Q J rx rv want
  obtain ⟨l, b, xs, zs, rfl, rfl, hH, hB, hz, go⟩ := want
  cases rx
  obtain ⟨u, rfl, ru⟩ := rv.one
  cases ru
  obtain ⟨z, its, n, r, hl, e⟩ := J.lstM hH
  obtain ⟨its2, r2, ht, _⟩ := J.tuple (SqT.of hB)
  have hl2 := r2.length
  refine call_meets F.slot_list_extend ⟨_, e, rfl⟩ F.entry_list_extend (F.args_list_extend_2 _ _) (meets_extT l b its.toArray its2.toArray n (by rw [List.size_toArray, List.size_toArray]; omega)) ⟨e, ht, ?_⟩
  refine ⟨.non, _, J.lset (its' := its ++ its2) hH e (by simp) (r.append r2) ?_, rfl, go⟩
  rw [List.length_append]
  omega
def sExt (i : Nat) (f : CV → Rs (D × Md)) : CV → Out := fun ρ => match ρ[i]? with
  | some (.own ds) => match f ρ with
    | .ok (.tuple es, .cl) => if ds.length + es.length < 1000000 then .nx (ρ.set i (.own (ds ++ es))) else .no
    | _ => .no
  | _ => .no
theorem ss_ext (i : Nat) {x : Str} {p2 apos cpos : Pos} (ha : PE X e (tE C W f)) (hN : X.N[i]? = some x := by rfl) (hlc : C.lc i = true := by rfl) (hv : Vis X.env.scope x := by first | exact Or.inl rfl | exact Or.inr (Or.inl rfl) | exact Or.inr (Or.inr rfl)) (hd : (x == ("__debug__" : Str)) = false := by decide)
    (hcd : (x == ("__classdict__" : Str)) = false := by decide) (hbase : attributeBase (.Name x p2) "extend" X.env (eval (.Name x p2) X.env) = eval (.Name x p2) X.env := by rfl)
    (hfew : ((backTo cpos (starEach [e] X.env)).all (fun x => !x.1) && (backToKw cpos (keywordEach [] X.env)).all (fun x => x.1.isSome) && decide (([e] : List Expr).length + ([] : List Keyword).length + (if ([] : List Keyword).isEmpty then 0 else 1) < 30)) = true := by rfl)
    (hline : (apos.endLine == cpos.line) = true := by rfl) (hs : starEach [e] X.env = (false, eval e X.env) :: starEach [] X.env := by rfl) (hplain : (backTo cpos (starEach [] X.env)).any (·.1) = false := by rfl)
    (hsw : swapsWith (.Call (.Attribute (.Name x p2) "extend" apos) [e] [] cpos) none pos.line X.env = pure false := by rfl) : PS X (.Expr (.Call (.Attribute (.Name x p2) "extend" apos) [e] [] cpos) pos) (tS C W (sExt i f)) :=
  PS.imp (ps_expr (pe_bm PySem.F.plainAttrs_list PySem.F.slot_list_extend PySem.F.type_list_extend mt_extT (pe_var (i := i) hN hv hd hcd) (pa_cons ha pa_nil hs) hbase hfew hline hs hplain) hsw) fun D' σ H h => by
    obtain ⟨B, P, ρ, hb, re, h⟩ := h
    unfold sExt at h
    split at h
    · rename_i ds0 e0
      obtain ⟨p, vs, h1, h2, h3, h4⟩ := slot_own (hb.lc hlc) re e0
      refine ⟨.ref p, h1, .inl ⟨rfl, vs, SqL.of h2⟩, B, P, ρ, hb, re, ?_⟩
      split at h
      · rename_i es ef
        rw [ef]
        intro v H1 s tb vr
        have re1 := re.sm s tb
        split at h
        · rename_i hz
          have vr : Tr (mask (B.M ++ P) H1) v (.tuple es) := vr
          cases vr with
          | tup e t =>
            obtain ⟨q, ws, g1, g2, g3, g4⟩ := slot_own (hb.lc hlc) re1 e0
            rw [h1] at g1
            cases g1
            refine ⟨p, _, ws, _, rfl, rfl, g2, (mask_some e).2, ?_, h P σ _ (re1.mutOwn (hb.lc hlc) e0 h1 g2 (g3.append t))⟩
            rw [g3.lenEq, t.lenEq]
            exact Nat.le_of_lt (Nat.lt_trans hz (by decide))
        · exact h.elim
      · exact h.elim
    · exact h.elim
end
end Eng

set_option Elab.async false
set_option linter.all false
set_option maxRecDepth 100000
set_option maxHeartbeats 1234567
namespace Eng
open PySem PySem.Spec
open PyProof.Rows L2

/-! ### attributes -/
theorem lookup_zip : ∀ {fs : List Str} {vs : List V} {j : Nat} {f : Str} {v : V}, fs.Nodup → fs[j]? = some f → vs[j]? = some v → (fs.zip vs).lookup f = some v
  | g :: fs, x :: vs, 0, f, v, _, h, h2 => by
    simp at h h2
    subst h
    subst h2
    simp
  | g :: fs, x :: vs, j + 1, f, v, nd, h, h2 => by
    obtain ⟨n1, n2⟩ : g ∉ fs ∧ fs.Nodup := by simpa using nd
    have h : fs[j]? = some f := by simpa using h
    have ne : (f == g) = false := beq_eq_false_iff_ne.mpr fun z => n1 (z ▸ List.mem_of_getElem? h)
    rw [List.zip_cons_cons, List.lookup_cons, ne]
    exact lookup_zip n2 h (by simpa using h2)
  | [], _, _, _, _, _, h, _ => (by simp at h)
  | _ :: _, [], _, _, _, _, _, h => (by simp at h)
theorem putF_zip : ∀ {fs : List Str} {vs : List V} {j : Nat} {f : Str} (y : V), fs.Nodup → vs.length = fs.length → fs[j]? = some f → putF f y (fs.zip vs) = fs.zip (vs.set j y)
  | g :: fs, x :: vs, 0, f, y, _, _, h => by
    simp at h
    subst h
    show (if g = g then _ else _) = _
    rw [if_pos rfl]
    rfl
  | g :: fs, x :: vs, j + 1, f, y, nd, hl, h => by
    obtain ⟨n1, n2⟩ : g ∉ fs ∧ fs.Nodup := by simpa using nd
    have h : fs[j]? = some f := by simpa using h
    have ne : g ≠ f := fun z => n1 (z ▸ List.mem_of_getElem? h)
    show (if g = f then _ else _) = _
    rw [if_neg ne]
    exact congrArg _ (putF_zip y n2 (by simpa using hl) h)
  | [], _, _, _, _, _, _, h => by simp at h
  | _ :: _, [], _, _, _, _, hl, _ => by simp at hl
section
variable {K : PySem.W.Frag} {T : List Addr} {B : Bs} {P : List Addr} {H H' : Hp} {σ : St} {ρ : CV} {c : Obc}
/-- the object behind an attribute that holds something -/
theorem vw_fld (ok : ViewOk B P H σ) (hob : B.ob = some c) {j : Nat} {v : V} (e : (vw B H σ)[c.nl + j]? = some (some v)) :
    ∃ o dx vs, (∀ a, B.oa = some a → c.k = 0 → o = a) ∧ σ[c.k]? = some (some (.ref o)) ∧ H o = some (.ins c.C dx (c.fs.zip vs)) ∧ vs.length = c.fs.length ∧ (c.wr = true → o ∈ P) ∧ vs[j]? = some v ∧ vw B H σ = σ ++ vs.map some := by
  obtain ⟨h1, h2, h3⟩ := ok c hob
  rcases h3 with ⟨_, z⟩ | ⟨o, dx, vs, z1, z2, z3, z4, z5⟩
  · exfalso
    unfold vw at e
    rw [hob] at e
    dsimp only at e
    rw [z] at e
    dsimp only at e
    rw [List.getElem?_append_right (by omega), List.getElem?_replicate] at e
    split at e <;> cases e
  · have ev : vw B H σ = σ ++ vs.map some := by
      unfold vw
      rw [hob]
      dsimp only
      rw [z2]
      dsimp only
      rw [z3]
      dsimp only
      have : ((c.fs.zip vs).map fun f => some f.2) = vs.map some := by
        have q := zip_snd z4
        calc ((c.fs.zip vs).map fun f => some f.2) = (((c.fs.zip vs).map (·.2)).map some) := by rw [List.map_map]; rfl
          _ = vs.map some := by rw [q]
      rw [this]
    refine ⟨o, dx, vs, z1, z2, z3, z4, z5, ?_, ev⟩
    rw [ev, List.getElem?_append_right (by omega), h1, Nat.add_sub_cancel_left, List.getElem?_map] at e
    cases q : vs[j]? with
    | none => (rw [q] at e; cases e)
    | some x =>
      rw [q] at e
      cases e
      rfl
/-- an instance of ours is changed -/
theorem RE0.updIns (r : RE0 K T B P H σ ρ) {o C dx : Addr} {fs fs' : List (Str × V)} (ho : o ∈ P) (e : H o = some (.ins C dx fs)) : RE0 K T B P (upd H o (.ins C dx fs')) σ ρ := by
  have pm : o ∈ B.M ++ P := List.mem_append_right _ ho
  have me : mask (B.M ++ P) (upd H o (.ins C dx fs')) = mask (B.M ++ P) H := mask_upd pm
  have lst : ∀ (S : List Addr), Lsts S H → Lsts S (upd H o (.ins C dx fs')) := fun S l q hq => by
    by_cases z : q = o
    · exact ⟨_, by rw [z, upd_same], .inr ⟨_, _, _, rfl⟩⟩
    · obtain ⟨ws, g, c⟩ := l q hq
      exact ⟨ws, by rw [upd_ne z]; exact g, c⟩
  refine ⟨r.len, fun i d h => ?_, fun i ds h => ?_, fun i d h => ?_, r.sep, fun a ob h hn => ?_, r.new, lst _ r.lst, lst _ r.iol, r.io0, r.ios, r.ioo, r.tab.upd fun ps z => by rw [e] at z; cases z⟩
  · rw [me]
    exact r.val i d h
  · obtain ⟨p, vs, h1, h2, h3, h4, h5⟩ := r.own i ds h
    have ne : p ≠ o := fun z => by rw [z, e] at h4; cases h4
    exact ⟨p, vs, h1, h2, h3, by rw [upd_ne ne]; exact h4, by rw [me]; exact h5⟩
  · obtain ⟨v, h1, h2⟩ := r.fz i d h
    refine ⟨v, h1, ?_⟩
    cases h2 with
    | lst q f =>
      rcases q with ⟨ob, q⟩ | q
      · refine .lst (.inl ⟨ob, ?_⟩) f
        rw [upd_ne fun z => by rw [z, e] at q; cases q]
        exact q
      · exact .lst (.inr q) f
    | tup q f => exact .tup q f
  · have ne : a ≠ o := fun z => by
      subst z
      rcases r.new _ ho with w | w
      · exact hn w
      · rw [h] at w; cases w
    rw [upd_ne ne]
    exact r.keep a ob h hn
/-- data is stored at an attribute -/
theorem RE.setFld (r : RE K T B P H σ ρ) (hob : B.ob = some c) (hw : c.wr = true) {j : Nat} {o dx : Addr} {vs : List V} {y : V} {d : D} (hj : j < c.fs.length) (hi : c.nl + j ∉ B.io.map (·.1)) (hs : σ[c.k]? = some (some (.ref o))) (ho : H o = some (.ins c.C dx (c.fs.zip vs)))
    (hl : vs.length = c.fs.length) (t : Tr (mask (B.M ++ P) H) y d) : RE K T B P (upd H o (.ins c.C dx (c.fs.zip (vs.set j y)))) σ (ρ.set (c.nl + j) (.val d)) := by
  obtain ⟨h1, h2, h3⟩ := r.vok c hob
  obtain ⟨o', dx', vs', z1, z2, z3, z4, z5⟩ : ∃ o dx vs, (∀ a, B.oa = some a → c.k = 0 → o = a) ∧ σ[c.k]? = some (some (.ref o)) ∧ H o = some (.ins c.C dx (c.fs.zip vs)) ∧ vs.length = c.fs.length ∧ (c.wr = true → o ∈ P) := by
    rcases h3 with ⟨_, z⟩ | z
    · rw [hs] at z; cases z
    · exact z
  rw [hs] at z2
  cases z2
  have oP := z5 hw
  have view : ∀ (G : Hp) (ws : List V), G o = some (.ins c.C dx (c.fs.zip ws)) → ws.length = c.fs.length → vw B G σ = σ ++ ws.map some := fun G ws g gl => by
    unfold vw
    rw [hob]
    dsimp only
    rw [hs]
    dsimp only
    rw [g]
    dsimp only
    have q := zip_snd gl
    have : ((c.fs.zip ws).map fun f => some f.2) = ws.map some := by
      calc ((c.fs.zip ws).map fun f => some f.2) = (((c.fs.zip ws).map (·.2)).map some) := by rw [List.map_map]; rfl
        _ = ws.map some := by rw [q]
    rw [this]
  have l2 : (vs.set j y).length = c.fs.length := by rw [List.length_set]; exact hl
  have v1 := view H vs ho hl
  have v2 := view (upd H o (.ins c.C dx (c.fs.zip (vs.set j y)))) (vs.set j y) upd_same l2
  refine ⟨fun c' e' => ?_, ?_⟩
  · rw [hob] at e'
    cases e'
    exact ⟨h1, h2, .inr ⟨o, dx, vs.set j y, z1, hs, upd_same, l2, fun _ => oP⟩⟩
  · rw [v2]
    have e3 : σ ++ (vs.set j y).map some = (σ ++ vs.map some).set (c.nl + j) (some y) := by
      rw [List.set_append_right _ _ (by omega), h1, Nat.add_sub_cancel_left, List.map_set]
    rw [e3, ← v1]
    exact (r.z.setVal hi t).updIns oP ho
end
section
variable {X : Cx} {C : Cf} {W : WX} {e : Expr} {es : List Expr} {f : CV → Rs (D × Md)} {fx : CV → Rs (D × CV)} {pos : Pos} {c : Obc}
/-- what the class of the object tells, the attribute j of the name fn -/
structure Fld (X : Cx) (C : Cf) (c : Obc) (j : Nat) (x fn : Str) : Prop where
  ob : C.ob = some c
  cls : Cls X.K c.C
  no : NoAttr X.K c.C fn
  at_ : c.fs[j]? = some fn
  nd : c.fs.Nodup
  hN : X.N[c.k]? = some x
  hv : Vis X.env.scope x
  hd : (x == ("__debug__" : Str)) = false
  hcd : (x == ("__classdict__" : Str)) = false
theorem Fld.read {j : Nat} {x fn : Str} (F : Fld X C c j x fn) {p2 apos : Pos} (hb : attributeBase (.Name x p2) fn X.env (eval (.Name x p2) X.env) = eval (.Name x p2) X.env) {B : Bs} {P : List Addr} {H : Hp} {σ : St} {v : V} {Q : VK} (hio : Lk B C) (ok : ViewOk B P H σ)
    (e : (vw B H σ)[c.nl + j]? = some (some v)) (q : Q v H) : tFld X.K (fun σ H Q => ∃ v, σ[c.k]? = some (some v) ∧ Q v H) fn σ H Q := by
  obtain ⟨o, dx, vs, _, e1, e2, e3, _, e4, _⟩ := vw_fld ok (hio.ob.trans F.ob) e
  exact ⟨.ref o, e1, o, c.C, dx, _, v, rfl, e2, F.cls, F.no, lookup_zip F.nd F.at_ e4, q⟩
/-- self.f -/
theorem se_fld {j : Nat} {x fn : Str} (F : Fld X C c j x fn) {p2 : Pos} (hb : attributeBase (.Name x p2) fn X.env (eval (.Name x p2) X.env) = eval (.Name x p2) X.env := by rfl) : PE X (.Attribute (.Name x p2) fn pos) (tE C W (mVar (c.nl + j))) :=
  PE.imp (pe_fld (pe_var (i := c.k) F.hN F.hv F.hd F.hcd) hb) fun σ H Q h => by
    obtain ⟨B, P, ρ, hio, re, h⟩ := h
    unfold mVar at h
    split at h
    · rename_i d e
      obtain ⟨v, e1, t⟩ := re.z.val _ _ e
      exact F.read (apos := pos) hb hio re.vok e1 (h v H (Sm.refl H) re.tab t)
    · rename_i ds e
      obtain ⟨p, vs, e1, hp, _, e2, t⟩ := re.z.own _ _ e
      exact F.read (apos := pos) hb hio re.vok e1 (h _ H (Sm.refl H) re.tab ⟨p, vs, ds, rfl, rfl, List.mem_append_right _ hp, e2, t⟩)
    · rename_i d e
      obtain ⟨v, e1, t⟩ := re.z.fz _ _ e
      exact F.read (apos := pos) hb hio re.vok e1 (h v H (Sm.refl H) re.tab t)
    · exact h.elim
theorem not_ioB {B : Bs} (hio : Lk B C) {i : Nat} (h : C.ios.contains i = false) : i ∉ B.io.map (·.1) := fun z => by
  rw [hio.io] at z
  rw [List.contains_iff_mem.mpr z] at h
  cases h
def sSetF (i : Nat) (f : CV → Rs (D × Md)) : CV → Out := fun ρ => match f ρ with
  | .ok (d, .cl) => .nx (ρ.set i (.val d))
  | .ok _ => .no
  | .er c => .er c ρ
  | .no => .no
/-- self.f = e, e data -/
theorem ss_setF {j : Nat} {x fn : Str} (F : Fld X C c j x fn) (hw : c.wr = true) {p2 apos : Pos} (ha : PE X e (tE C W f)) (hio2 : C.ios.contains (c.nl + j) = false := by rfl) (hs : swapsWith e (some (.Attribute (.Name x p2) fn apos)) pos.line X.env = pure false := by rfl) (hk : c.fs.length ≤ 900 := by decide)
    (hpres : ∀ ρ d, f ρ = .ok (d, .cl) → ∃ z : Cell, ρ[c.nl + j]? = some z ∧ z ≠ .un) : PS X (.Assign [.Attribute (.Name x p2) fn apos] e pos) (tS C W (sSetF (c.nl + j) f)) :=
  PS.imp (ps_fld (pe_var (i := c.k) F.hN F.hv F.hd F.hcd) ha hs) fun D' σ H h => by
    obtain ⟨B, P, ρ, hio, re, h⟩ := h
    refine ⟨B, P, ρ, hio, re, ?_⟩
    unfold sSetF at h
    cases ef : f ρ with
    | er k => rw [ef] at h; exact fun A H1 hm s tb => h A P σ H1 hm (re.sm s tb)
    | no => rw [ef] at h; exact h.elim
    | ok z =>
      obtain ⟨d, m⟩ := z
      rw [ef] at h
      cases m <;> try exact h.elim
      intro v H1 s tb vr
      have re1 := re.sm s tb
      have vr : Tr (mask (B.M ++ P) H1) v d := vr
      obtain ⟨z, ez, nz⟩ := hpres ρ d ef
      have hob := hio.ob.trans F.ob
      obtain ⟨w, ew⟩ : ∃ w, (vw B H1 σ)[c.nl + j]? = some (some w) := by
        cases z with
        | un => exact absurd rfl nz
        | val d => obtain ⟨w, ew, _⟩ := re1.z.val _ _ ez; exact ⟨w, ew⟩
        | own ds => obtain ⟨p, _, ew, _⟩ := re1.z.own _ _ ez; exact ⟨_, ew⟩
        | fz d => obtain ⟨w, ew, _⟩ := re1.z.fz _ _ ez; exact ⟨w, ew⟩
      obtain ⟨o, dx, vs, _, e1, e2, e3, _, e4, _⟩ := vw_fld re1.vok hob ew
      have hj : j < c.fs.length := (List.getElem?_eq_some_iff.mp F.at_).1
      refine ⟨.ref o, e1, o, c.C, dx, _, rfl, e2, F.cls, F.no, ?_, ?_⟩
      · rw [List.length_zip]
        omega
      · rw [putF_zip v F.nd e3 F.at_]
        exact h P σ _ (re1.setFld hob hw hj (not_ioB hio hio2) e1 e2 e3 vr)
/-- an owned list at an attribute -/
theorem Fld.own {j : Nat} {x fn : Str} (F : Fld X C c j x fn) {B : Bs} {P : List Addr} {H : Hp} {σ : St} {ρ : CV} {ds : List D} (re : RE C.K C.T B P H σ ρ) (e : ρ[c.nl + j]? = some (.own ds)) :
    ∃ p vs, (vw B H σ)[c.nl + j]? = some (some (.ref p)) ∧ H p = some (.lst vs) ∧ TrAll (mask (B.M ++ P) H) vs ds ∧ p ∈ P := by
  obtain ⟨p, vs, h1, h2, _, h4, h5⟩ := re.z.own _ _ e
  exact ⟨p, vs, h1, h4, h5, h2⟩
/-- self.f.append(e) -/
theorem ss_appF {j : Nat} {x fn : Str} (F : Fld X C c j x fn) {p2 p3 apos cpos : Pos} (ha : PE X e (tE C W f)) (hfb : attributeBase (.Name x p2) fn X.env (eval (.Name x p2) X.env) = eval (.Name x p2) X.env := by rfl)
    (hbase : attributeBase (.Attribute (.Name x p2) fn p3) "append" X.env (eval (.Attribute (.Name x p2) fn p3) X.env) = eval (.Attribute (.Name x p2) fn p3) X.env := by rfl)
    (hfew : ((backTo cpos (starEach [e] X.env)).all (fun x => !x.1) && (backToKw cpos (keywordEach [] X.env)).all (fun x => x.1.isSome) && decide (([e] : List Expr).length + ([] : List Keyword).length + (if ([] : List Keyword).isEmpty then 0 else 1) < 30)) = true := by rfl)
    (hline : (apos.endLine == cpos.line) = true := by rfl) (hs : starEach [e] X.env = (false, eval e X.env) :: starEach [] X.env := by rfl) (hplain : (backTo cpos (starEach [] X.env)).any (·.1) = false := by rfl)
    (hsw : swapsWith (.Call (.Attribute (.Attribute (.Name x p2) fn p3) "append" apos) [e] [] cpos) none pos.line X.env = pure false := by rfl) : PS X (.Expr (.Call (.Attribute (.Attribute (.Name x p2) fn p3) "append" apos) [e] [] cpos) pos) (tS C W (sApp (c.nl + j) (mLift f))) :=
  PS.imp (ps_expr (pe_bm PySem.F.plainAttrs_list PySem.F.slot_list_append PySem.F.type_list_append mt_append (pe_fld (pe_var (i := c.k) F.hN F.hv F.hd F.hcd) hfb) (pa_cons ha pa_nil hs) hbase hfew hline hs hplain) hsw) fun D' σ H h => by
    obtain ⟨B, P, ρ, hb, re, h⟩ := h
    unfold sApp at h
    split at h
    · rename_i ds e0
      obtain ⟨p, vs, h1, h2, h3, h4⟩ := F.own re e0
      obtain ⟨o, dx, us, _, i1, i2, i3, _, i4, _⟩ := vw_fld re.vok (hb.ob.trans F.ob) h1
      refine ⟨.ref o, i1, o, c.C, dx, _, .ref p, rfl, i2, F.cls, F.no, lookup_zip F.nd F.at_ i4, .inl ⟨rfl, vs, SqL.of h2⟩, B, P, ρ, hb, re, ?_⟩
      unfold mLift at h
      cases ef : f ρ with
      | er c => rw [ef] at h; exact h.elim
      | no => rw [ef] at h; exact h.elim
      | ok y =>
        obtain ⟨d, m⟩ := y
        rw [ef] at h
        intro v H1 s tb vr
        have re1 := re.sm s tb
        dsimp only at h
        split at h
        · rename_i dz ρ' ez
          split at ez
          · rename_i hok
            cases ez
            rw [e0] at h
            dsimp only at h
            split at h
            · rename_i hz
              have tv : Tr (mask (B.M ++ P) H1) v d := (VR.ov re.lst vr).el (x := (d, m)) re1.lst hok
              obtain ⟨q, ws, g1, g2, g3, g4⟩ := F.own re1 e0
              have same : vw B H1 σ = vw B H σ := vw_eq re.vok (.sm s)
              rw [same, h1] at g1
              cases g1
              refine ⟨p, ws, v, rfl, rfl, g2, ?_, h P σ _ (re1.mutV e0 (by rw [same]; exact h1) g2 (g3.append (.cons tv .nil)))⟩
              rw [g3.lenEq]
              exact Nat.lt_trans hz (by decide)
            · exact h.elim
          · cases ez
        · exact h.elim
    · exact h.elim
/-- self.f.pop() -/
theorem sx_popF {j : Nat} {x fn : Str} (F : Fld X C c j x fn) {p2 p3 apos cpos : Pos} (hfb : attributeBase (.Name x p2) fn X.env (eval (.Name x p2) X.env) = eval (.Name x p2) X.env := by rfl)
    (hbase : attributeBase (.Attribute (.Name x p2) fn p3) "pop" X.env (eval (.Attribute (.Name x p2) fn p3) X.env) = eval (.Attribute (.Name x p2) fn p3) X.env := by rfl) (hline : (apos.endLine == cpos.line) = true := by rfl) :
    PE X (.Call (.Attribute (.Attribute (.Name x p2) fn p3) "pop" apos) [] [] cpos) (tX C (mPop (c.nl + j))) :=
  PE.imp (pe_bm0 PySem.F.plainAttrs_list PySem.F.slot_list_pop PySem.F.type_list_pop mt_pop (pe_fld (pe_var (i := c.k) F.hN F.hv F.hd F.hcd) hfb) hbase hline) fun σ H Q w => by
    obtain ⟨B, P, ρ, hb, re, w⟩ := w
    unfold mPop at w
    split at w
    · rename_i ds e
      split at w
      · rename_i d ed
        obtain ⟨p, vs, h1, h2, h3, h4⟩ := F.own re e
        obtain ⟨o, dx, us, _, i1, i2, i3, _, i4, _⟩ := vw_fld re.vok (hb.ob.trans F.ob) h1
        obtain ⟨v, ev, tv⟩ := pop_tr h3 ed
        refine ⟨.ref o, i1, o, c.C, dx, _, .ref p, rfl, i2, F.cls, F.no, lookup_zip F.nd F.at_ i4, .inl ⟨rfl, vs, SqL.of h2⟩, p, vs, v, rfl, rfl, h2, ev, ?_⟩
        exact w v _ (re.mutV e h1 h2 (TrAll.dropLast h3)) (by rw [mask_upd (List.mem_append_right _ h4)]; exact tv)
      · exact w.elim
    · exact w.elim
/-- a, b = e, e pops -/
def sUnpX (is : List Nat) (fx : CV → Rs (D × CV)) : CV → Out := fun ρ => match fx ρ with
  | .ok (.tuple ds, ρ') => if ds.length = is.length then .nx (setAll is ds ρ') else .no
  | _ => .no
theorem ss_unpX (is : List Nat) {k : Nat} {p2 : Pos} (hc : X.calm = true) (hN : X.N.Nodup) (he : PE X e (tX C fx)) (hu : UnpT X es is) (hio : is.all (fun i => !C.ro i) = true := by rfl) (hn : (assignEach es X.env).length = is.length := by rfl)
    (hst : (assignEach es X.env).findIdx? (·.1) = none := by rfl) (hs : swapsWithSole [.Tuple es k p2] e pos.line X.env = pure false := by rfl) (hw : swappedStores [.Tuple es k p2] e X.env = pure none := by rfl)
    (h1 : (assignEach [.Tuple es k p2] X.env).map (·.2) = [assign (.Tuple es k p2) X.env] := by rfl) : PS X (.Assign [.Tuple es k p2] e pos) (tS C W (sUnpX is fx)) :=
  PS.imp (ps_asg he (pg_tup hc (unp_pg hN hu) hn hst) hs hw h1) fun D' σ H h => by
    obtain ⟨B, P, ρ, hb, re, h⟩ := h
    refine ⟨B, P, ρ, hb, re, ?_⟩
    have hi : ∀ i ∈ is, ¬ B.ro i := fun i m => by
      have := List.all_eq_true.mp hio i m
      refine not_io (C := C) hb ?_
      cases hc : C.ro i
      · rfl
      · rw [hc] at this; cases this
    unfold sUnpX at h
    cases ef : fx ρ with
    | er c => rw [ef] at h; exact h.elim
    | no => rw [ef] at h; exact h.elim
    | ok z =>
      obtain ⟨d, ρ'⟩ := z
      rw [ef] at h
      intro v H1 re1 tv
      cases d <;> try exact h.elim
      dsimp only at h
      split at h
      · rename_i ds hz
        cases tv with
        | @tup p vs _ e t =>
          refine ⟨p, vs, rfl, SqT.of (mask_some e).2, by rw [t.lenEq]; exact hz, ?_⟩
          exact unp_run _ is ds vs σ ρ' hi hz re1 t fun σ' re' => h P σ' H1 re'
      · exact h.elim
end
end Eng

set_option Elab.async false
set_option linter.all false
set_option maxRecDepth 100000
set_option maxHeartbeats 1234567
namespace Eng
open PySem PySem.Spec
open PyProof.Rows L2

/-! ### del xs[a:] -/
theorem filter_take (p : Nat → Bool) (k : Nat) : ∀ (l : List Value) (n : Nat), (∀ i, n ≤ i → i < n + l.length → p i = decide (k ≤ i)) → (l.zipIdx n).filterMap (fun x => if p x.2 = true then none else some x.1) = l.take (k - n)
  | [], n, _ => by simp
  | x :: l, n, h => by
    have ih := filter_take p k l (n + 1) fun i h1 h2 => h i (by omega) (by rw [List.length_cons]; omega)
    have h0 := h n (Nat.le_refl _) (by rw [List.length_cons]; omega)
    rw [List.zipIdx_cons, List.filterMap_cons]
    by_cases hk : k ≤ n
    · rw [decide_eq_true hk] at h0
      have e : k - n = 0 := by omega
      have e2 : k - (n + 1) = 0 := by omega
      rw [e2] at ih
      rw [e]
      simp only [h0, if_true]
      rw [ih]
      simp
    · rw [decide_eq_false hk] at h0
      have e : k - n = (k - (n + 1)) + 1 := by omega
      rw [e, List.take_succ_cons, ← ih]
      simp only [h0, Bool.false_eq_true, if_false]
theorem meets_del {l sl : Addr} {items : List Value} {n k : Nat} {vl vu : Value} (pl : IsPart vl (some (k : Int))) (pu : IsPart vu none) (hsz : items.length ≤ sizeLine) (hk : k ≤ items.length) :
    Meets (Builtin.«list.__delitem__» ⟨[.ref l, .ref sl], []⟩) (fun _ R s => s.heap.get? l = some { cls := .type "list", data := .seq items.toArray n } ∧ s.heap.IsSliceOf sl vl vu .none ∧ ∀ f : Array Value → Array Value, f items.toArray = (items.take k).toArray → R (.ok (.ret .none)) { s with heap := s.heap.update l (Obj.mapSeq f) }) :=
  Meets.of_wp fun prog w A R s h => by
    obtain ⟨hl, ⟨os, hos, hcs, hds⟩, hR⟩ := h
    have hT : s.TypeIs (.ref sl) "slice" := ⟨os, hos, hcs⟩
    (show wpAny _ _ (Builtin.List.listSubscript? (.ref sl) >>= _) _ _ s)
    have sub : ∀ (Q : Option Int → Shared → Prop), Q none s → wpAny (model prog w) A.in1 (Builtin.List.listSubscript? (.ref sl)) Q (fun e s' => R (.error e) s') s := fun Q q => by
      (unfold Builtin.List.listSubscript?)
      refine wpAny_bind (wpAny_specialOf hT PySem.slice_no_index ?_)
      (simp only [Option.isNone_none, if_true])
      exact wpAny_pure q
    refine wpAny_bind (sub _ ?_)
    (show wpAny _ _ (typeOf (.ref sl) >>= _) _ _ s)
    (refine wpAny_bind (wpAny_typeOf hT ?_))
    rw [if_neg (by decide)]
    rw [listSliceParts_eq]
    (refine wpAny_bind (wpAny_bind (wpAny_field hos hds (x := .none) rfl (wpAny_bind (wpAny_listPart .none ?_)))))
    rw [if_neg (by exact Bool.false_ne_true)]
    (refine wpAny_bind (wpAny_field hos hds (x := vl) rfl (wpAny_bind (wpAny_listPart pl ?_))))
    (refine wpAny_bind (wpAny_field hos hds (x := vu) rfl (wpAny_bind (wpAny_listPart pu (wpAny_pure ?_)))))
    apply wpAny_bind (m := Builtin.List.listItems (.ref l))
    unfold Builtin.List.listItems
    refine wpAny_bind (wpAny_seqItems hl rfl (wpAny_pure ?_))
    have b1 : (sliceBounds (some (k : Int)) none none items.toArray.size) = ((k : Int), (items.length : Int), 1) := by
      have n0 : ¬ ((k : Int) < 0) := by omega
      have mx : max (0 : Int) (min (k : Int) (items.length : Int)) = k := by omega
      unfold sliceBounds
      simp [n0, mx]
    refine wpAny_bind (wpAny_of_eq (a := ((k : Int), (items.length : Int), (1 : Int))) ((sliceIndices_raw (some (k : Int)) none none items.toArray.size (by simp)).trans (congrArg pure b1)) ?_)
    (refine wpAny_bind (wpAny_rule ?_))
    have take : ∀ p : Nat → Bool, (∀ i, i < items.length → p i = decide (k ≤ i)) → (items.toArray.toList.zipIdx.filterMap fun x => if p x.2 = true then none else some x.1) = items.take k := fun p hp => by
      have := filter_take p k items 0 fun i _ h2 => by
        exact hp i (by omega)
      simpa using this
    have sel : ∀ i : Nat, i < items.length → ∀ b : Bool, b = (if (1 : Int) > 0 then (decide ((k : Int) ≤ (i : Int)) && decide ((i : Int) < (items.length : Int)) && (((i : Int) - (k : Int)) % 1 == 0)) else false) → b = decide (k ≤ i) := fun i hi b hb => by
      rw [hb, if_pos (by decide), decide_eq_true (show (i : Int) < (items.length : Int) by omega), Int.emod_one, Bool.and_true]
      show (decide ((k : Int) ≤ (i : Int)) && true) = _
      rw [Bool.and_true]
      exact decide_eq_decide.mpr ⟨fun h => by omega, fun h => by omega⟩
    refine wpAny_bind (wpAny_updateSeq hl rfl ?_ (hz := by rw [List.size_toArray]; exact hsz) (_hz' := ?_))
    · refine wpAny_bind (wpAny_letGo (wpAny_pure ⟨_, rfl, hR _ (congrArg List.toArray (take _ fun i hi => sel i hi _ rfl))⟩))
    · rw [List.size_toArray]
      refine Nat.le_trans (Nat.le_of_eq (congrArg List.length (take _ fun i hi => sel i hi _ rfl))) ?_
      rw [List.length_take]
      omega
section
variable {X : Cx} {C : Cf} {W : WX} {o lo : Expr} {f : CV → Rs (D × Md)} {pos p2 p3 : Pos} {c : Obc}
def tDelS (te : TE) (tl : TO) : TS := fun D σ H => te σ H fun x H1 => tl σ H1 fun i H2 => ∃ (p : Addr) (xs : List V) (k : Nat), x = .ref p ∧ i = some (k : Int) ∧ H2 p = some (.lst xs) ∧ k ≤ xs.length ∧ D.nx σ (upd H2 p (.lst (xs.take k)))
theorem ps_delS {te : TE} {tl : TO} (he : PE X o te) (hl : PO X (some lo) tl) : PS X (.Delete [.Subscript o (.Slice (some lo) none none p2) p3] pos) (tDelS te tl) := by
  refine ⟨fun pins s σ H D I want => ?_⟩
  refine wpAny_Delete (wpAny_deleteEach_cons (wpAny_delete_Subscript (thn (he.run pins s σ H _ I want) fun u s1 ⟨x, H1, I1, rx, q1⟩ => wpAny_Slice (thn (hl.run pins s1 σ H1 _ I1 q1) fun vl s2 ⟨l, H2, I2, pl, q2⟩ => ?_))))
  rw [evalPart_none]
  (refine wpAny_pure (wpAny_pure ?_))
  obtain ⟨p, xs, k, rfl, rfl, hp, hk, go⟩ := q2
  cases rx
  have I3 : Inv X pins σ H2 { s2 with heap := s2.heap.push { cls := .type "slice", data := .fields #[vl, .none, .none] } } := I2.kept (t' := s2.toks) fun b ob q => Heap.get?_push_of_some _ q
  obtain ⟨z, its, n, r, hlen, e⟩ := I3.lstM hp
  refine delItem_meets ⟨_, e, rfl⟩ (by decide) F.slot_list_delitem F.entry_list_delitem (F.args_list_delitem_2 _ _) (meets_del (k := k) pl .none (by omega) (by omega)) ⟨e, Heap.IsSliceOf.new .., fun g hg => ?_⟩
  have I4 := I3.lset (its' := its.take k) (ys := xs.take k) (t' := s2.toks) hp e hg (r.take k) (by rw [List.length_take]; omega)
  exact wpAny_deleteEach_nil ⟨σ, _, I4, go⟩
def sDelS (i : Nat) (f : CV → Rs (D × Md)) : CV → Out := fun ρ => match ρ[i]? with
  | some (.own ds) => match f ρ with
    | .ok (.int k, _) => if 0 ≤ k ∧ k ≤ (ds.length : Int) then .nx (ρ.set i (.own (ds.take k.toNat))) else .no
    | _ => .no
  | _ => .no
/-- del self.f[e:] -/
theorem ss_delF {j : Nat} {x fn : Str} (F : Fld X C c j x fn) {q2 q3 : Pos} (ha : PE X lo (tE C W f)) (hfb : attributeBase (.Name x q2) fn X.env (eval (.Name x q2) X.env) = eval (.Name x q2) X.env := by rfl) :
    PS X (.Delete [.Subscript (.Attribute (.Name x q2) fn q3) (.Slice (some lo) none none p2) p3] pos) (tS C W (sDelS (c.nl + j) f)) :=
  PS.imp (ps_delS (pe_fld (pe_var (i := c.k) F.hN F.hv F.hd F.hcd) hfb) (po_some ha)) fun D' σ H h => by
    obtain ⟨B, P, ρ, hb, re, h⟩ := h
    unfold sDelS at h
    split at h
    · rename_i ds e
      obtain ⟨p, vs, h1, h2, h3, h4⟩ := F.own re e
      obtain ⟨o, dx, us, _, i1, i2, i3, _, i4, _⟩ := vw_fld re.vok (hb.ob.trans F.ob) h1
      refine ⟨.ref o, i1, o, c.C, dx, _, .ref p, rfl, i2, F.cls, F.no, lookup_zip F.nd F.at_ i4, B, P, ρ, hb, re, ?_⟩
      split at h
      · rename_i k m ef
        rw [ef]
        split at h
        · rename_i hk
          intro v H1 s tb vr
          have re1 := re.sm s tb
          have ev := (VR.ov re.lst vr).int
          subst ev
          obtain ⟨q, ws, g1, g2, g3, g4⟩ := F.own re1 e
          have same : vw B H1 σ = vw B H σ := vw_eq re.vok (.sm s)
          rw [same, h1] at g1
          cases g1
          have hlen := g3.lenEq
          refine ⟨k, rfl, p, ws, k.toNat, rfl, ?_, g2, by omega, h P σ _ (re1.mutV e (by rw [same]; exact h1) g2 (g3.take _))⟩
          rw [Int.toNat_of_nonneg hk.1]
        · exact h.elim
      · exact h.elim
    · exact h.elim
end
end Eng

set_option Elab.async false
set_option linter.all false
set_option maxRecDepth 100000
set_option maxHeartbeats 1234567
namespace Eng
open PySem PySem.Spec
open PyProof.Rows L2

/-! ### methods: calls by promises whose errors may hang on the slots -/
def tMethE (C : Addr) (m : Str) (sp : Sp) (E : L2.St → XK) (ta : TE) (t : TA) : TE := fun σ H Q => ta σ H fun x H1 => ∃ a dx fs, x = .ref a ∧ H1 a = some (.ins C dx fs) ∧ fs.lookup m = none ∧ t σ H1 fun vs H2 => sp (x :: vs) H2 Q (E σ)
section
variable {X : Cx} {cx : CXT} {k : Nat} {g cl : Addr} {fd : FuncData} {ps : List Str} {sp : Sp} {E : L2.St → XK} {m : Str} {pos apos : Pos} {e o : Expr} {es : List Expr} {ta : TE} {t : TA} {pl : Sem Bool}
theorem pe_methE (he : PE X o ta) (c : Cls X.K cl) (hm : Meth X.K cl m g) (F : FnOk X.prog X.w X.K X.mg X.base cx k g fd ps sp) (hr : Room k X.A) (hb : L2.Binds X.K fd ps []) (hx : ∀ σ, PassesAt cx X σ (E σ)) (ha : PA X (e :: es) t)
    (hst : starEach (e :: es) X.env = (false, eval e X.env) :: starEach es X.env := by rfl)
    (hpl : (backTo pos (starEach es X.env)).any (·.1) = false := by rfl) (ht : eval (.Call (.Attribute o m apos) (e :: es) [] pos) X.env = (do let ov ← eval o X.env; standAt apos.atName; let (f, first) ← holding [ov] (getMethod ov m pl); callWith pos f first (backTo pos (starEach (e :: es) X.env)) (backToKw pos (keywordEach [] X.env))) := by rfl) :
    PE X (.Call (.Attribute o m apos) (e :: es) [] pos) (tMethE cl m sp E ta t) := by
  constructor
  intro pins st σ Hp Q inv want
  apply PySem.W.methodCall_KW (pl := pl) (thn (he.run pins st σ Hp _ inv want) ?_) ht
  rintro u s1 ⟨v, H1, J1, rv, a, dx, fs, rfl, hins, hno, go⟩
  cases rv
  refine getmeth_ok J1 hins c hm hno (PySem.W.callWith_K (first := [.ref a]) (h₀ := X.base) inv.ok.mod.kin hm.kp (thn (ha.run pos pins s1 σ H1 _ J1 go) ?_) hst hpl)
  rintro us s2 ⟨ws, H2, J2, r, go2⟩
  exact ⟨J2.kIn, run_fnS (us := .ref a :: us) (vs := .ref a :: ws) F hr hb (hx σ) J2 (.cons rfl r) go2⟩
theorem pe_methE0 (he : PE X o ta) (c : Cls X.K cl) (hm : Meth X.K cl m g) (F : FnOk X.prog X.w X.K X.mg X.base cx k g fd ps sp) (hr : Room k X.A) (hb : L2.Binds X.K fd ps []) (hx : ∀ σ, PassesAt cx X σ (E σ))
    (ht : eval (.Call (.Attribute o m apos) [] [] pos) X.env = (do let ov ← eval o X.env; standAt apos.atName; let (f, first) ← holding [ov] (getMethod ov m pl); callWith pos f first (backTo pos (starEach [] X.env)) (backToKw pos (keywordEach [] X.env))) := by rfl) :
    PE X (.Call (.Attribute o m apos) [] [] pos) (tMethE cl m sp E ta tNil) := by
  constructor
  intro pins st σ Hp Q inv want
  apply PySem.W.methodCall_KW (pl := pl) (thn (he.run pins st σ Hp _ inv want) ?_) ht
  rintro u s1 ⟨v, H1, J1, rv, a, dx, fs, rfl, hins, hno, go⟩
  cases rv
  exact getmeth_ok J1 hins c hm hno (PySem.W.callWith_K0 (first := [.ref a]) J1.kIn hm.kp (run_fnS (us := [.ref a]) (vs := [.ref a]) F hr hb (hx σ) J1 (.cons rfl .nil) go))
end

/-! ### what a method promises: the arguments and the attributes, as cells -/
/-- its mirror: n its slots -/
def runO (n : Nat) (b : CV → Out) (args attrs : CV) : RF := fin (b (args ++ List.replicate (n - args.length) .un ++ attrs))
def spO (C : Cf) (N : List Str) (n : Nat) (M : CV → CV → RF) : Sp := fun vs H Q E => ∃ B P args attrs, vs.length = n ∧ args.length = n ∧ Lk B C ∧ B.H0 = H ∧ RE C.K C.T B P H (L2.start N vs) (args ++ List.replicate (N.length - n) .un ++ attrs) ∧ FR C B Q E (M args attrs)
section
variable {P : Program} {w : World} {base : Heap} {K : PySem.W.Frag} {mg : Str → Option Value}
theorem body_readO {C : Cf} {N : List Str} {n : Nat} {b : CV → Out} {vs : List V} {H : Hp} {Q : VK} {E : XK} (h : spO C N n (runO N.length b) vs H Q E) :
    tS C (fun cls d _ H => E cls d H) b { nx := fun _ H' => Q .non H', rt := Q } (L2.start N vs) H := by
  obtain ⟨B, P, args, attrs, hl, ha, hio, h0, re, h⟩ := h
  refine ⟨B, P, _, hio, re, ?_⟩
  unfold runO at h
  rw [ha] at h
  cases e : b (args ++ List.replicate (N.length - n) .un ++ attrs) with
  | nx ρ => rw [e] at h; exact fun P' σ' H' re' => h P' σ' H' .non re' .non
  | rt d m ρ => rw [e] at h; exact fun P' σ' H' v re' rv => h P' σ' H' v re' rv
  | er c ρ => rw [e] at h; exact fun A P' σ' H' hm re' => h A P' σ' H' ρ hm re'
  | ex c => rw [e] at h; exact fun A P' σ' H' ρ' hm re' => h A P' σ' H' ρ' hm re'
  | bk ρ => rw [e] at h; exact h.elim
  | ct ρ => rw [e] at h; exact h.elim
  | no => rw [e] at h; exact h.elim
end

/-! ### entry and way back -/
theorem app_get {α : Type} (a b : List α) (i : Nat) : (a ++ b)[i]? = if i < a.length then a[i]? else b[i - a.length]? := by
  by_cases h : i < a.length
  · rw [if_pos h, List.getElem?_append_left h]
  · rw [if_neg h, List.getElem?_append_right (by omega)]
/-- the attributes that are lists of their own -/
def ownJ (attrs : CV) : List Nat := (List.range attrs.length).filter fun j => match attrs[j]? with
  | some (.own _) => true
  | _ => false
theorem ownJ_mem {attrs : CV} {j : Nat} : j ∈ ownJ attrs ↔ ∃ ds, attrs[j]? = some (.own ds) := by
  unfold ownJ
  rw [List.mem_filter, List.mem_range]
  constructor
  · rintro ⟨_, h⟩
    split at h
    · rename_i ds e
      exact ⟨ds, e⟩
    · cases h
  · rintro ⟨ds, e⟩
    refine ⟨(List.getElem?_eq_some_iff.mp e).1, ?_⟩
    rw [e]
section
variable {K : PySem.W.Frag} {T : List Addr} {B : Bs} {P P2 : List Addr} {H H2 : Hp} {σ σ2 : St} {ρ ρ2 : CV} {c : Obc} {o : Addr} {n : Nat}
/-- the callee's base -/
def obBs (B : Bs) (P : List Addr) (H : Hp) (σ : St) (ρ : CV) (c : Obc) (o : Addr) (n : Nat) : Bs :=
  { H0 := H, M := B.M ++ P, io := (ownJ (ρ.drop c.nl)).map fun j => (n + j, adr (vw B H σ) (c.nl + j)), ch := o :: (ownJ (ρ.drop c.nl)).map fun j => adr (vw B H σ) (c.nl + j),
    ob := some { k := 0, nl := n, C := c.C, fs := c.fs, wr := true }, oa := some o }
def obP (B : Bs) (H : Hp) (σ : St) (ρ : CV) (c : Obc) (o : Addr) : List Addr := o :: (ownJ (ρ.drop c.nl)).map fun j => adr (vw B H σ) (c.nl + j)
/-- the caller's object stands -/
structure ObAt (K : PySem.W.Frag) (T : List Addr) (B : Bs) (P : List Addr) (H : Hp) (σ : St) (ρ : CV) (c : Obc) (o : Addr) : Prop where
  re : RE K T B P H σ ρ
  ob : B.ob = some c
  wr : c.wr = true
  at_ : σ[c.k]? = some (some (.ref o))
theorem ObAt.ins (O : ObAt K T B P H σ ρ c o) : ∃ dx vs, H o = some (.ins c.C dx (c.fs.zip vs)) ∧ vs.length = c.fs.length ∧ o ∈ P ∧ σ.length = c.nl ∧ vw B H σ = σ ++ vs.map some ∧ (∀ a, B.oa = some a → c.k = 0 → o = a) := by
  obtain ⟨h1, h2, h3⟩ := O.re.vok c O.ob
  rcases h3 with ⟨_, z⟩ | ⟨o', dx, vs, z1, z2, z3, z4, z5⟩
  · rw [O.at_] at z; cases z
  · rw [O.at_] at z2
    cases z2
    refine ⟨dx, vs, z3, z4, z5 O.wr, h1, ?_, z1⟩
    unfold vw
    rw [O.ob]
    dsimp only
    rw [O.at_]
    dsimp only
    rw [z3]
    dsimp only
    have q := zip_snd z4
    have : ((c.fs.zip vs).map fun f => some f.2) = vs.map some := by
      calc ((c.fs.zip vs).map fun f => some f.2) = (((c.fs.zip vs).map (·.2)).map some) := by rw [List.map_map]; rfl
        _ = vs.map some := by rw [q]
    rw [this]
theorem ObAt.own (O : ObAt K T B P H σ ρ c o) {j : Nat} (h : j ∈ ownJ (ρ.drop c.nl)) : ∃ ds vs, ρ[c.nl + j]? = some (.own ds) ∧ (vw B H σ)[c.nl + j]? = some (some (.ref (adr (vw B H σ) (c.nl + j)))) ∧ adr (vw B H σ) (c.nl + j) ∈ P ∧ H (adr (vw B H σ) (c.nl + j)) = some (.lst vs) ∧ TrAll (mask (B.M ++ P) H) vs ds := by
  obtain ⟨ds, e⟩ := ownJ_mem.mp h
  rw [List.getElem?_drop] at e
  obtain ⟨p, vs, h1, h2, _, h4, h5⟩ := O.re.z.own _ _ e
  refine ⟨ds, vs, e, ?_⟩
  rw [adr_of h1]
  exact ⟨h1, h2, h4, h5⟩
theorem ObAt.sub (O : ObAt K T B P H σ ρ c o) : ∀ a ∈ obP B H σ ρ c o, a ∈ P ∧ ∃ ob, H a = some ob ∧ Chg ob := fun a ha => by
  rcases List.mem_cons.mp ha with (rfl | ha)
  · obtain ⟨dx, vs, h1, _, h2, _⟩ := O.ins
    exact ⟨h2, _, h1, .inr ⟨_, _, _, rfl⟩⟩
  · obtain ⟨j, hj, rfl⟩ := List.mem_map.mp ha
    obtain ⟨ds, vs, _, _, h1, h2, _⟩ := O.own hj
    exact ⟨h1, _, h2, .inl ⟨_, rfl⟩⟩
theorem entry_ob (O : ObAt K T B P H σ ρ c o) {ds : List (D × Md)} {vs : List V} (ov : OVs K (B.M ++ P) H vs ds) (hcl : ds.all (fun x => clA x.2) = true) (hn : ds.length + 1 ≤ n) :
    RE K T (obBs B P H σ ρ c o n) (obP B H σ ρ c o) H ((V.ref o :: vs).map some ++ List.replicate (n - (vs.length + 1)) none) ((Cell.un :: ds.map toCell) ++ List.replicate (n - (ds.length + 1)) .un ++ ρ.drop c.nl) := by
  obtain ⟨dx, us, h1, h2, h3, h4, hv, h5⟩ := O.ins
  have lv := ov.length
  generalize hS : (V.ref o :: vs).map some ++ List.replicate (n - (vs.length + 1)) none = S
  generalize hR : (Cell.un :: ds.map toCell) ++ List.replicate (n - (ds.length + 1)) Cell.un = R
  have lS : S.length = n := by rw [← hS]; simp; omega
  have lR : R.length = n := by rw [← hR]; simp; omega
  have s0 : S[0]? = some (some (.ref o)) := by rw [← hS]; rfl
  have sk : ∀ k v, vs[k]? = some v → S[k + 1]? = some (some v) := fun k v e => by
    have hk := (List.getElem?_eq_some_iff.mp e).1
    rw [← hS, List.getElem?_append_left (by simp; omega), List.map_cons, List.getElem?_cons_succ, List.getElem?_map, e]
    rfl
  have lens : ρ.length = c.nl + c.fs.length := by
    have := O.re.z.len
    rw [hv, List.length_append, List.length_map, h2, h4] at this
    exact this.symm
  have view : vw (obBs B P H σ ρ c o n) H S = S ++ us.map some := by
    unfold vw
    show (match S[0]? with | some (some (.ref o)) => (match H o with | some (.ins _ _ fs) => S ++ fs.map (fun f : Str × V => some f.2) | _ => S ++ List.replicate c.fs.length none) | _ => S ++ List.replicate c.fs.length none) = _
    rw [s0]
    dsimp only
    rw [h1]
    dsimp only
    have q := zip_snd h2
    have : ((c.fs.zip us).map fun f => some f.2) = us.map some := by
      calc ((c.fs.zip us).map fun f => some f.2) = (((c.fs.zip us).map (·.2)).map some) := by rw [List.map_map]; rfl
        _ = us.map some := by rw [q]
    rw [this]
  -- the cells
  have at_ : ∀ {i : Nat} {x : Cell}, (R ++ ρ.drop c.nl)[i]? = some x → x ≠ .un → (∃ k y, i = k + 1 ∧ ds[k]? = some y ∧ x = toCell y) ∨ ∃ j, i = n + j ∧ ρ[c.nl + j]? = some x := fun {i x} e nx => by
    rw [app_get, lR] at e
    split at e
    · rename_i hi
      rw [← hR, app_get] at e
      split at e
      · cases i with
        | zero => simp at e; exact absurd e.symm nx
        | succ k =>
          rw [List.getElem?_cons_succ, List.getElem?_map] at e
          obtain ⟨y, ey, ex⟩ := Option.map_eq_some_iff.mp e
          exact .inl ⟨k, y, rfl, ey, ex.symm⟩
      · rw [List.getElem?_replicate] at e
        split at e
        · cases e; exact absurd rfl nx
        · cases e
    · rename_i hi
      rw [List.getElem?_drop] at e
      exact .inr ⟨i - n, by omega, e⟩
  have vj : ∀ j, (S ++ us.map some)[n + j]? = (vw B H σ)[c.nl + j]? := fun j => by
    rw [hv, app_get, app_get, if_neg (by omega), if_neg (by omega), lS, h4]
    congr 1
    omega
  have vk : ∀ k v, vs[k]? = some v → (S ++ us.map some)[k + 1]? = some (some v) := fun k v e => by
    have hk := (List.getElem?_eq_some_iff.mp e).1
    rw [app_get, if_pos (by omega)]
    exact sk k v e
  have sub := O.sub
  have le : SeqLe (mask (B.M ++ P) H) (mask ((B.M ++ P) ++ obP B H σ ρ c o) H) := mask_anti fun a ha => by
    rcases List.mem_append.mp ha with z | z
    · exact z
    · exact List.mem_append_right _ (sub a z).1
  have cell : ∀ {x : D × Md} {d : D}, toCell x = .val d → x.1 = d ∧ x.2 ≠ .fz := fun {x d} e => by
    unfold toCell at e
    split at e
    · cases e
    · rename_i n
      cases e
      exact ⟨rfl, n⟩
  have cellF : ∀ {x : D × Md} {d : D}, toCell x = .fz d → x.1 = d ∧ x.2 = .fz := fun {x d} e => by
    unfold toCell at e
    split at e
    · rename_i n
      cases e
      exact ⟨rfl, n⟩
    · cases e
  have cellO : ∀ {x : D × Md} {ds : List D}, toCell x ≠ .own ds := fun {x d} e => by
    unfold toCell at e
    split at e <;> cases e
  refine ⟨fun c' e' => ?_, ?_⟩
  · cases e'
    exact ⟨lS, by show 0 < n; omega, .inr ⟨o, dx, us, fun a ha _ => Option.some.inj ha, s0, h1, h2, fun _ => List.mem_cons_self⟩⟩
  · rw [view]
    refine ⟨?_, fun i d e => ?_, fun i es e => ?_, fun i d e => ?_, fun i i' es es' p hne g1 g2 g3 => ?_, fun a ob e _ => .inl e, fun p hp => .inl hp, fun p hp => ?_, fun p hp => (sub p hp).2, fun p hp => ?_, fun q hq => ?_, fun q hq => ?_, O.re.tab⟩
    · rw [List.length_append, List.length_map, List.length_append, List.length_drop, lS, lR, h2]
      omega
    · rcases at_ e (fun z => by cases z) with ⟨k, y, rfl, ey, ex⟩ | ⟨j, rfl, ej⟩
      · obtain ⟨rfl, nf⟩ := cell ex.symm
        obtain ⟨v, ev, ovk⟩ := ov.get ey
        refine ⟨v, vk k v ev, Tr.mono le _ _ (ovk.clean ?_)⟩
        have hc := List.all_eq_true.mp hcl _ (List.mem_of_getElem? ey)
        obtain ⟨d, m⟩ := y
        cases m <;> first | rfl | (cases hc; done) | exact absurd rfl nf
      · obtain ⟨v, w1, w2⟩ := O.re.z.val _ _ ej
        exact ⟨v, by rw [vj]; exact w1, Tr.mono le _ _ w2⟩
    · rcases at_ e (fun z => by cases z) with ⟨k, y, rfl, ey, ex⟩ | ⟨j, rfl, ej⟩
      · exact absurd ex.symm cellO
      · have hj : j ∈ ownJ (ρ.drop c.nl) := ownJ_mem.mpr ⟨es, by rw [List.getElem?_drop]; exact ej⟩
        obtain ⟨ds', ws, e1, e2, e3, e4, e5⟩ := O.own hj
        rw [ej] at e1; cases e1
        refine ⟨_, ws, by rw [vj]; exact e2, List.mem_cons_of_mem _ (List.mem_map.mpr ⟨j, hj, rfl⟩), fun z => absurd ?_ z, e4, TrAll.mono le _ _ e5⟩
        exact List.mem_map.mpr ⟨_, List.mem_map.mpr ⟨j, hj, rfl⟩, rfl⟩
    · rcases at_ e (fun z => by cases z) with ⟨k, y, rfl, ey, ex⟩ | ⟨j, rfl, ej⟩
      · obtain ⟨rfl, nf⟩ := cellF ex.symm
        obtain ⟨v, ev, ovk⟩ := ov.get ey
        rw [nf] at ovk
        exact ⟨v, vk k v ev, ovk⟩
      · obtain ⟨v, w1, w2⟩ := O.re.z.fz _ _ ej
        exact ⟨v, by rw [vj]; exact w1, w2⟩
    · rcases at_ g1 (fun z => by cases z) with ⟨k, y, rfl, ey, ex⟩ | ⟨j, rfl, ej⟩
      · exact absurd ex.symm cellO
      · rcases at_ g2 (fun z => by cases z) with ⟨k, y, rfl, ey, ex⟩ | ⟨j', rfl, ej'⟩
        · exact absurd ex.symm cellO
        · rw [vj] at g3 ⊢
          exact O.re.z.sep _ _ _ _ p (by omega) ej ej' g3
    · rcases List.mem_append.mp hp with z | z
      · exact O.re.lst p z
      · exact (sub p z).2
    · obtain ⟨_, ob, z, _⟩ := sub p hp
      intro w
      have w : H p = none := w
      rw [z] at w
      cases w
    · obtain ⟨j, hj, rfl⟩ := List.mem_map.mp hq
      obtain ⟨ds', ws, e1, e2, _⟩ := O.own hj
      show (S ++ us.map some)[n + j]? = _
      rw [vj]
      exact e2
    · obtain ⟨j, hj, rfl⟩ := List.mem_map.mp hq
      obtain ⟨ds', ws, e1, _⟩ := O.own hj
      refine ⟨ds', ?_⟩
      show (R ++ ρ.drop c.nl)[n + j]? = _
      rw [app_get, if_neg (by omega), lR, Nat.add_sub_cancel_left, List.getElem?_drop]
      exact e1
/-- attributes behind a call: lists of their own only where there were some -/
def cleanC (js : List Nat) (j : Nat) : Cell → Cell
  | .own ds => if js.contains j = true then .own ds else .un
  | x => x
def cleanA (js : List Nat) (attrs : CV) : CV := attrs.mapIdx (cleanC js)
theorem cleanA_len (js : List Nat) (attrs : CV) : (cleanA js attrs).length = attrs.length := List.length_mapIdx
theorem cleanA_get {js : List Nat} {attrs : CV} {j : Nat} {x : Cell} (h : (cleanA js attrs)[j]? = some x) (n : x ≠ .un) : attrs[j]? = some x ∧ ∀ ds, x = .own ds → j ∈ js := by
  unfold cleanA at h
  rw [List.getElem?_mapIdx] at h
  obtain ⟨y, ey, ex⟩ := Option.map_eq_some_iff.mp h
  cases y with
  | own ds =>
    unfold cleanC at ex
    dsimp only at ex
    split at ex
    · rename_i hc
      subst ex
      exact ⟨ey, fun _ _ => List.contains_iff_mem.mp hc⟩
    · exact absurd ex.symm n
  | un => exact absurd ex.symm n
  | val d => cases ex; exact ⟨ey, fun _ z => by cases z⟩
  | fz d => cases ex; exact ⟨ey, fun _ z => by cases z⟩
theorem cleanA_own {js : List Nat} {attrs : CV} {j : Nat} {ds : List D} (h : attrs[j]? = some (.own ds)) (hj : j ∈ js) : (cleanA js attrs)[j]? = some (.own ds) := by
  unfold cleanA
  rw [List.getElem?_mapIdx, h]
  show some (if js.contains j = true then Cell.own ds else .un) = _
  rw [if_pos (List.contains_iff_mem.mpr hj)]
/-- behind the call: the caller's slots, the callee's attributes -/
theorem back_ob (O : ObAt K T B P H σ ρ c o) (re2 : RE K T (obBs B P H σ ρ c o n) P2 H2 σ2 ρ2) : RE K T B P H2 σ (ρ.take c.nl ++ cleanA (ownJ (ρ.drop c.nl)) (ρ2.drop n)) := by
  obtain ⟨dx, us, h1, h2, h3, h4, hv, h5⟩ := O.ins
  have lens : ρ.length = c.nl + c.fs.length := by
    have := O.re.z.len
    rw [hv, List.length_append, List.length_map, h2, h4] at this
    exact this.symm
  obtain ⟨g1, g2, g3⟩ := re2.vok _ rfl
  have g1 : σ2.length = n := g1
  obtain ⟨dx2, ws, w1, w2, wv⟩ : ∃ dx2 ws, H2 o = some (.ins c.C dx2 (c.fs.zip ws)) ∧ ws.length = c.fs.length ∧ vw (obBs B P H σ ρ c o n) H2 σ2 = σ2 ++ ws.map some := by
    rcases g3 with ⟨z, _⟩ | ⟨o', dx', ws, z1, z2, z3, z4, _⟩
    · cases z
    · have eo := z1 o rfl rfl
      subst eo
      refine ⟨dx', ws, z3, z4, ?_⟩
      unfold vw
      show (match σ2[0]? with | some (some (.ref o)) => (match H2 o with | some (.ins _ _ fs) => σ2 ++ fs.map (fun f : Str × V => some f.2) | _ => σ2 ++ List.replicate c.fs.length none) | _ => σ2 ++ List.replicate c.fs.length none) = _
      rw [z2]
      dsimp only
      rw [z3]
      dsimp only
      have q := zip_snd z4
      have : ((c.fs.zip ws).map fun f : Str × V => some f.2) = ws.map some := by
        calc ((c.fs.zip ws).map fun f : Str × V => some f.2) = (((c.fs.zip ws).map (·.2)).map some) := by rw [List.map_map]; rfl
          _ = ws.map some := by rw [q]
      rw [this]
  have lens2 : ρ2.length = n + c.fs.length := by
    have := re2.z.len
    rw [wv, List.length_append, List.length_map, w2, g1] at this
    exact this.symm
  have view : vw B H2 σ = σ ++ ws.map some := by
    unfold vw
    rw [O.ob]
    dsimp only
    rw [O.at_]
    dsimp only
    rw [w1]
    dsimp only
    have q := zip_snd w2
    have : ((c.fs.zip ws).map fun f : Str × V => some f.2) = ws.map some := by
      calc ((c.fs.zip ws).map fun f : Str × V => some f.2) = (((c.fs.zip ws).map (·.2)).map some) := by rw [List.map_map]; rfl
        _ = ws.map some := by rw [q]
    rw [this]
  have lT : (ρ.take c.nl).length = c.nl := by rw [List.length_take]; omega
  -- where a cell comes from
  have at_ : ∀ {i : Nat} {x : Cell}, (ρ.take c.nl ++ cleanA (ownJ (ρ.drop c.nl)) (ρ2.drop n))[i]? = some x → x ≠ .un → (i < c.nl ∧ ρ[i]? = some x) ∨ ∃ j, i = c.nl + j ∧ ρ2[n + j]? = some x ∧ ∀ ds, x = .own ds → j ∈ ownJ (ρ.drop c.nl) := fun {i x} e nx => by
    rw [app_get, lT] at e
    split at e
    · rename_i hi
      rw [List.getElem?_take_of_lt hi] at e
      exact .inl ⟨hi, e⟩
    · rename_i hi
      obtain ⟨e1, e2⟩ := cleanA_get e nx
      rw [List.getElem?_drop] at e1
      exact .inr ⟨i - c.nl, by omega, e1, e2⟩
  have vs1 : ∀ i, i < c.nl → (σ ++ ws.map some)[i]? = (vw B H σ)[i]? := fun i hi => by
    rw [hv, app_get, app_get, if_pos (by omega), if_pos (by omega)]
  have vs2 : ∀ j, (σ ++ ws.map some)[c.nl + j]? = (vw (obBs B P H σ ρ c o n) H2 σ2)[n + j]? := fun j => by
    rw [wv, app_get, app_get, if_neg (by omega), if_neg (by omega), h4, g1]
    congr 1
    omega
  have sub := O.sub
  have kp : ∀ a ob, H a = some ob → a ∉ obP B H σ ρ c o → H2 a = some ob ∨ ∃ ps ps', ob = .tbl ps ∧ H2 a = some (.tbl ps') := re2.z.keep
  have le : SeqLe (mask (B.M ++ P) H) (mask (B.M ++ P) H2) := le_of_keep (P := obP B H σ ρ c o) (fun p hp => List.mem_append_right _ (sub p hp).1) kp (fun p hp => .inl hp)
  have lsts : Lsts (B.M ++ P) H2 := fun p hp => re2.z.lst p (List.mem_append_left _ hp)
  have le2 : SeqLe (mask ((B.M ++ P) ++ P2) H2) (mask (B.M ++ P) H2) := mask_anti fun a ha => List.mem_append_left _ ha
  -- the own lists stay where they are
  have same : ∀ {j : Nat}, j ∈ ownJ (ρ.drop c.nl) → (vw (obBs B P H σ ρ c o n) H2 σ2)[n + j]? = some (some (.ref (adr (vw B H σ) (c.nl + j)))) := fun {j} hj => re2.z.ios (n + j, adr (vw B H σ) (c.nl + j)) (List.mem_map.mpr ⟨j, hj, rfl⟩)
  refine ⟨fun c' e' => ?_, ?_⟩
  · rw [O.ob] at e'
    cases e'
    exact ⟨h4, (O.re.vok c O.ob).2.1, .inr ⟨o, dx2, ws, h5, O.at_, w1, w2, fun _ => h3⟩⟩
  · rw [view]
    have un : ∀ {d : D}, Cell.val d ≠ .un := fun z => by cases z
    have uo : ∀ {ds : List D}, Cell.own ds ≠ .un := fun z => by cases z
    have uf : ∀ {d : D}, Cell.fz d ≠ .un := fun z => by cases z
    -- an own list behind the call: the address of before
    have own : ∀ {i : Nat} {ds : List D}, (ρ.take c.nl ++ cleanA (ownJ (ρ.drop c.nl)) (ρ2.drop n))[i]? = some (.own ds) → ∃ p vs ds0, (σ ++ ws.map some)[i]? = some (some (.ref p)) ∧ (vw B H σ)[i]? = some (some (.ref p)) ∧ ρ[i]? = some (.own ds0) ∧ p ∈ P ∧ (i ∉ B.io.map (·.1) → p ∉ B.M) ∧ H2 p = some (.lst vs) ∧ TrAll (mask (B.M ++ P) H2) vs ds := fun {i ds} e => by
      rcases at_ e uo with ⟨hi, e1⟩ | ⟨j, rfl, e1, e2⟩
      · obtain ⟨p, vs, q1, q2, q3, q4, q5⟩ := O.re.z.own _ _ e1
        have np : p ∉ obP B H σ ρ c o := fun z => by
          rcases List.mem_cons.mp z with (z | z)
          · rw [z, h1] at q4; cases q4
          · obtain ⟨j, hj, z⟩ := List.mem_map.mp z
            obtain ⟨ds', vs', f1, f2, _⟩ := O.own hj
            rw [z] at f2
            exact O.re.z.sep i (c.nl + j) ds ds' p (by omega) e1 f1 q1 f2
        have q6 : H2 p = some (.lst vs) := by
          rcases kp p _ q4 np with z | ⟨_, _, z, _⟩
          · exact z
          · cases z
        exact ⟨p, vs, ds, by rw [vs1 i hi]; exact q1, q1, e1, q2, q3, q6, TrAll.mono le _ _ q5⟩
      · have hj := e2 _ rfl
        obtain ⟨ds0, vs0, f1, f2, f3, f4, _⟩ := O.own hj
        obtain ⟨p0, vs1', k1, k2, k3, k4, _⟩ := O.re.z.own _ _ f1
        rw [f2] at k1; cases k1
        obtain ⟨p, vs, q1, q2, q3, q4, q5⟩ := re2.z.own _ _ e1
        rw [same hj] at q1; cases q1
        exact ⟨_, vs, ds0, by rw [vs2, same hj], f2, f1, k2, k3, q4, TrAll.mono le2 _ _ q5⟩
    refine ⟨?_, fun i d e => ?_, fun i ds e => ?_, fun i d e => ?_, fun i i' es es' p hne k1 k2 k3 => ?_, fun a ob e hn => ?_, fun p hp => O.re.new p hp, lsts, fun p hp => ?_, O.re.io0, fun q hq => ?_, fun q hq => ?_, re2.tab⟩
    · rw [List.length_append, List.length_map, List.length_append, lT, cleanA_len, List.length_drop, lens2, w2, h4]
      omega
    · rcases at_ e un with ⟨hi, e1⟩ | ⟨j, rfl, e1, _⟩
      · obtain ⟨v, q1, q2⟩ := O.re.z.val _ _ e1
        exact ⟨v, by rw [vs1 i hi]; exact q1, Tr.mono le _ _ q2⟩
      · obtain ⟨v, q1, q2⟩ := re2.z.val _ _ e1
        exact ⟨v, by rw [vs2]; exact q1, Tr.mono le2 _ _ q2⟩
    · obtain ⟨p, vs, _, q1, _, _, q2, q3, q4, q5⟩ := own e
      exact ⟨p, vs, q1, q2, q3, q4, q5⟩
    · rcases at_ e uf with ⟨hi, e1⟩ | ⟨j, rfl, e1, _⟩
      · obtain ⟨v, q1, q2⟩ := O.re.z.fz _ _ e1
        refine ⟨v, by rw [vs1 i hi]; exact q1, ?_⟩
        cases q2 with
        | lst x f =>
          rcases x with ⟨ob, x⟩ | x
          · have na : ∀ {a : Addr} {ob : Obj} {y : HO}, H a = some (.frz ob y) → a ∉ obP B H σ ρ c o := fun {a ob y} x z => by
              obtain ⟨_, u, z1, z2⟩ := sub a z
              rw [x] at z1
              cases z1
              rcases z2 with ⟨_, y⟩ | ⟨_, _, _, y⟩ <;> cases y
            rcases kp _ _ x (na x) with z | ⟨_, _, z, _⟩
            · exact .lst (.inl ⟨ob, z⟩) f
            · cases z
          · exact .lst (.inr x) f
        | tup x f => exact .tup x f
      · obtain ⟨v, q1, q2⟩ := re2.z.fz _ _ e1
        exact ⟨v, by rw [vs2]; exact q1, q2⟩
    · obtain ⟨p1, _, ds1, a1, a2, a3, _⟩ := own k1
      obtain ⟨p2, _, ds2, b1, b2, b3, _⟩ := own k2
      rw [a1] at k3
      cases k3
      intro z
      rw [b1] at z
      cases z
      exact O.re.z.sep i i' ds1 ds2 _ hne a3 b3 a2 b2
    · have na : a ∉ obP B H σ ρ c o := fun z => by
        rcases O.re.new a (sub a z).1 with w | w
        · exact hn w
        · rw [e] at w; cases w
      rcases O.re.keep a ob e hn with z | ⟨ps, ps', rfl, z⟩
      · exact kp a ob z na
      · rcases kp a _ z na with z2 | ⟨_, qs, _, z2⟩
        · exact .inr ⟨ps, ps', rfl, z2⟩
        · exact .inr ⟨ps, qs, rfl, z2⟩
    · obtain ⟨ob, e, ch⟩ := O.re.iol p hp
      by_cases z : p ∈ obP B H σ ρ c o
      · exact lsts p (List.mem_append_right _ (sub p z).1)
      · rcases kp p _ e z with w | ⟨_, _, w, _⟩
        · exact ⟨ob, w, ch⟩
        · subst w
          rcases ch with ⟨_, y⟩ | ⟨_, _, _, y⟩ <;> cases y
    · have q1 := O.re.z.ios q hq
      obtain ⟨ds, e⟩ := O.re.ioo q hq
      by_cases hi : q.1 < c.nl
      · rw [vs1 _ hi]; exact q1
      · obtain ⟨j, ej⟩ : ∃ j, q.1 = c.nl + j := ⟨q.1 - c.nl, by omega⟩
        rw [ej] at e q1 ⊢
        have hj : j ∈ ownJ (ρ.drop c.nl) := ownJ_mem.mpr ⟨ds, by rw [List.getElem?_drop]; exact e⟩
        rw [vs2, same hj, adr_of q1]
    · obtain ⟨ds, e⟩ := O.re.ioo q hq
      by_cases hi : q.1 < c.nl
      · refine ⟨ds, ?_⟩
        rw [app_get, lT, if_pos hi, List.getElem?_take_of_lt hi]
        exact e
      · obtain ⟨j, ej⟩ : ∃ j, q.1 = c.nl + j := ⟨q.1 - c.nl, by omega⟩
        rw [ej] at e ⊢
        have hj : j ∈ ownJ (ρ.drop c.nl) := ownJ_mem.mpr ⟨ds, by rw [List.getElem?_drop]; exact e⟩
        obtain ⟨ds2, e2⟩ := re2.z.ioo (n + j, adr (vw B H σ) (c.nl + j)) (List.mem_map.mpr ⟨j, hj, rfl⟩)
        refine ⟨ds2, ?_⟩
        rw [app_get, lT, if_neg (by omega), Nat.add_sub_cancel_left]
        refine cleanA_own ?_ hj
        rw [List.getElem?_drop]
        exact e2
end
section
variable {K : PySem.W.Frag} {T : List Addr} {B : Bs} {P P2 : List Addr} {H H2 : Hp} {σ σ2 : St} {ρ ρ2 : CV} {c : Obc} {o : Addr} {n : Nat}
theorem val_ob (re2 : RE K T (obBs B P H σ ρ c o n) P2 H2 σ2 ρ2) {m : Md} {v : V} {d : D} {z : D × Md} (rv : RV K (obBs B P H σ ρ c o n) P2 H2 m v d) (e : callMd true d m = some z) (h : okEl z = true) : Tr (mask (B.M ++ P) H2) v z.1 := by
  have lsts : Lsts (B.M ++ P) H2 := fun p hp => re2.z.lst p (List.mem_append_left _ hp)
  cases m with
  | fr =>
    obtain ⟨p, vs, ds, rfl, rfl, h0, h1, h2, h3⟩ := rv
    cases e
    have n : p ∉ B.M ++ P := fun w => h1 (List.mem_append_left _ w)
    refine .lst (by rw [mask_out n]; exact h2) (TrAll.mono (mask_anti fun a ha => ?_) _ _ h3)
    exact List.mem_cons_of_mem _ (List.mem_append_left _ ha)
  | ow =>
    obtain ⟨p, vs, ds, rfl, rfl, h1, h2, h3, h4, h5⟩ := rv
    cases e
    exact .lst (by rw [mask_out (show p ∉ B.M ++ P from h2)]; exact h4) (TrAll.mono (mask_anti fun a ha => List.mem_append_left _ ha) _ _ h5)
  | cl =>
    cases e
    exact Tr.mono (mask_anti fun a ha => List.mem_append_left _ ha) _ _ (show Tr (mask ((B.M ++ P) ++ P2) H2) v d from rv)
  | vw =>
    unfold callMd at e
    dsimp only at e
    split at e
    · rename_i hl
      cases e
      exact Tr.lfMask lsts rv hl
    · cases e
      unfold okEl at h
      rw [Bool.or_eq_true, Bool.and_eq_true] at h
      rcases h with h | h
      · cases h
      · exact Tr.lfMask lsts rv h.2
  | fz => cases e
end

/-! ### expressions that may change what is owned, or end in an error -/
section
variable (C : Cf) (W : WX)
def XRE (σ : St) (B : Bs) (P : List Addr) (Q : VK) : Rs (D × CV) → Prop
  | .ok (d, ρ') => ∀ v H', RE C.K C.T B P H' σ ρ' → Tr (mask (B.M ++ P) H') v d → Q v H'
  | .er c => ∀ A H' ρ', C.mg c = some (.ref A) → RE C.K C.T B P H' σ ρ' → W (.ref A) none σ H'
  | .no => False
def tXE (f : CV → Rs (D × CV)) : TE := fun σ H Q => ∃ B P ρ, Lk B C ∧ RE C.K C.T B P H σ ρ ∧ XRE C W σ B P Q (f ρ)
end
/-- the context of a method of the object c, n its slots -/
def metC (K : PySem.W.Frag) (T : List Addr) (mg : Str → Option Value) (cl : Addr) (fs : List Str) (js : List Nat) (n : Nat) : Cf := { K := K, T := T, mg := mg, ios := js.map fun j => n + j, ob := some { k := 0, nl := n, C := cl, fs := fs, wr := true } }
/-- self.m(..): nl the caller's slots, n the callee's -/
def mMeth (js : List Nat) (nl n : Nat) (M : CV → CV → RF) (fa : CV → Rs (List (D × Md))) : CV → Rs (D × CV) := fun ρ => if ownJ (ρ.drop nl) = js then
    (match fa ρ with
    | .ok ds => if (ds.all fun x => clA x.2) = true then
        (match M (.un :: ds.map toCell) (ρ.drop nl) with
        | .ok ((d, m), ρ2) => (match callMd true d m with
          | some z => if okEl z = true then .ok (z.1, ρ.take nl ++ cleanA js (ρ2.drop n)) else .no
          | none => .no)
        | .er c => .er c
        | .no => .no) else .no
    | .er c => .er c
    | .no => .no) else .no
section
variable {X : Cx} {C : Cf} {W : WX} {c : Obc} {e : Expr} {es : List Expr} {fa : CV → Rs (List (D × Md))} {fx : CV → Rs (D × CV)} {pos : Pos}
theorem meth_core {N : List Str} {np j0 : Nat} {js : List Nat} {M : CV → CV → RF} {m : Str} {σ : St} {H : Hp} {Q : VK} (w : tXE C W (mMeth (j0 :: js) c.nl N.length M fa) σ H Q) (hob : C.ob = some c) (hw : c.wr = true) (hm : m ∉ c.fs) (hl : ∀ ρ ds, fa ρ = .ok ds → ds.length + 1 = np) (hnp : np ≤ N.length) (hC : C.K = X.K ∧ C.mg = X.mg) :
    tMethE c.C m (spO (metC X.K C.T X.mg c.C c.fs (j0 :: js) N.length) N np M) (WE W) (fun σ H Q => ∃ v, σ[c.k]? = some (some v) ∧ Q v H) (tA C W fa) σ H Q := by
  obtain ⟨B, P, ρ, hio, re, w⟩ := w
  unfold mMeth at w
  split at w
  rotate_left
  · exact w.elim
  rename_i hj
  have hbo := hio.ob.trans hob
  obtain ⟨ds0, e0⟩ : ∃ ds, ρ[c.nl + j0]? = some (.own ds) := by
    have : j0 ∈ ownJ (ρ.drop c.nl) := by rw [hj]; exact List.mem_cons_self
    obtain ⟨ds, e⟩ := ownJ_mem.mp this
    rw [List.getElem?_drop] at e
    exact ⟨ds, e⟩
  obtain ⟨p, _, q1, _⟩ := re.z.own _ _ e0
  obtain ⟨o, dx, us, _, i1, i2, i3, _, i4, _⟩ := vw_fld re.vok hbo q1
  have look : (c.fs.zip us).lookup m = none := by
    cases q : (c.fs.zip us).lookup m with
    | none => rfl
    | some y =>
      have := PySem.mem_of_lookup q
      exact absurd (List.of_mem_zip this).1 hm
  refine ⟨.ref o, i1, o, dx, _, rfl, i2, look, B, P, ρ, hio, re, ?_⟩
  cases ea : fa ρ with
  | er k => rw [ea] at w; exact fun A H1 hA s tb => w A H1 ρ hA (re.sm s tb)
  | no => rw [ea] at w; exact w.elim
  | ok ds =>
    rw [ea] at w
    dsimp only at w
    split at w
    rotate_left
    · exact w.elim
    rename_i hcl
    intro vs H1 s tb ov
    have re1 := re.sm s tb
    have O : ObAt C.K C.T B P H1 σ ρ c o := ⟨re1, hbo, hw, i1⟩
    have len := hl ρ ds ea
    have lv := ov.length
    refine ⟨obBs B P H1 σ ρ c o N.length, obP B H1 σ ρ c o, .un :: ds.map toCell, ρ.drop c.nl, by rw [List.length_cons]; omega, by simp; omega, ⟨?_, rfl⟩, rfl, ?_, ?_⟩
    · show ((ownJ (ρ.drop c.nl)).map fun j => (N.length + j, adr (vw B H1 σ) (c.nl + j))).map (·.1) = (j0 :: js).map fun j => N.length + j
      rw [hj, List.map_map]
      rfl
    · have en := entry_ob O (n := N.length) ov hcl (by omega)
      have e1 : N.length - np = N.length - (ds.length + 1) := by omega
      show RE X.K C.T _ _ H1 ((V.ref o :: vs).map some ++ List.replicate (N.length - (V.ref o :: vs).length) none) _
      rw [← hC.1, e1, List.length_cons]
      exact en
    · cases em : M (.un :: ds.map toCell) (ρ.drop c.nl) with
      | no => rw [em] at w; exact w.elim
      | er k =>
        rw [em] at w
        intro A P2 σ2 H2 ρ2 hA re2
        have re2 : RE C.K C.T (obBs B P H1 σ ρ c o N.length) P2 H2 σ2 ρ2 := by rw [hC.1]; exact re2
        exact w A H2 _ (by rw [hC.2]; exact hA) (back_ob O re2)
      | ok y =>
        obtain ⟨⟨d, md⟩, ρ2⟩ := y
        rw [em] at w
        dsimp only at w
        intro P2 σ2 H2 v re2 rv
        have re2 : RE C.K C.T (obBs B P H1 σ ρ c o N.length) P2 H2 σ2 ρ2 := by rw [hC.1]; exact re2
        have rv : RV C.K (obBs B P H1 σ ρ c o N.length) P2 H2 md v d := by rw [hC.1]; exact rv
        cases ez : callMd true d md with
        | none => rw [ez] at w; exact w.elim
        | some z =>
          rw [ez] at w
          dsimp only at w
          split at w
          · rename_i hk
            have bk := back_ob O re2
            rw [hj] at bk
            exact w v H2 bk (val_ob re2 rv ez hk)
          · exact w.elim
/-- a method that may change its object, as its callers know it -/
structure CalM (P : Program) (w : World) (K : PySem.W.Frag) (mg : Str → Option Value) (base : Heap) (T : List Addr) (cl : Addr) (fs : List Str) (js : List Nat) (m : Str) (N : List Str) (np k : Nat) (M : CV → CV → RF) : Prop where
  ex : ∃ (g : Addr) (fd : FuncData) (ps : List Str), FnOk P w K mg base (L2N.CX P w) k g fd ps (spO (metC K T mg cl fs js N.length) N np M) ∧ Meth K cl m g ∧ L2.Binds K fd ps []
theorem sx_meth {m x : Str} {N : List Str} {np k k' j0 : Nat} {js : List Nat} {M : CV → CV → RF} {p2 apos : Pos} (G : CalM X.prog X.w X.K X.mg X.base C.T c.C c.fs (j0 :: js) m N np k M) (hr : Room k' X.A) (tk : L2N.Takes X W) (cls : Cls X.K c.C) (hob : C.ob = some c) (ha : PA X (e :: es) (tA C W fa)) (hl : ∀ ρ ds, fa ρ = .ok ds → ds.length + 1 = np)
    (hw : c.wr = true := by rfl) (hm : m ∉ c.fs := by decide) (hnp : np ≤ N.length := by decide) (hC : C.K = X.K ∧ C.mg = X.mg := by exact ⟨rfl, rfl⟩) (hkk : k ≤ k' := by decide) (hN : X.N[c.k]? = some x := by rfl) (hv : Vis X.env.scope x := by first | exact Or.inl rfl | exact Or.inr (Or.inl rfl) | exact Or.inr (Or.inr rfl))
    (hd : (x == ("__debug__" : Str)) = false := by decide) (hcd : (x == ("__classdict__" : Str)) = false := by decide) (hst : starEach (e :: es) X.env = (false, eval e X.env) :: starEach es X.env := by rfl) (hpl : (backTo pos (starEach es X.env)).any (·.1) = false := by rfl) {pl : Sem Bool}
    (ht : eval (.Call (.Attribute (.Name x p2) m apos) (e :: es) [] pos) X.env = (do let ov ← eval (.Name x p2) X.env; standAt apos.atName; let (f, first) ← holding [ov] (getMethod ov m pl); callWith pos f first (backTo pos (starEach (e :: es) X.env)) (backToKw pos (keywordEach [] X.env))) := by rfl) :
    PE X (.Call (.Attribute (.Name x p2) m apos) (e :: es) [] pos) (tXE C W (mMeth (j0 :: js) c.nl N.length M fa)) := by
  obtain ⟨g, fd, ps, h1, h2, h3⟩ := G.ex
  exact PE.imp (pe_methE (E := WE W) (pe_var (i := c.k) hN hv hd hcd) cls h2 h1 (hr.mono hkk) h3 (fun σ => L2N.passAt tk σ) ha hst hpl ht) fun σ H Q w => meth_core w hob hw hm hl hnp hC
theorem sx_meth0 {m x : Str} {N : List Str} {k k' j0 : Nat} {js : List Nat} {M : CV → CV → RF} {p2 apos : Pos} (G : CalM X.prog X.w X.K X.mg X.base C.T c.C c.fs (j0 :: js) m N 1 k M) (hr : Room k' X.A) (tk : L2N.Takes X W) (cls : Cls X.K c.C) (hob : C.ob = some c)
    (hw : c.wr = true := by rfl) (hm : m ∉ c.fs := by decide) (hnp : 1 ≤ N.length := by decide) (hC : C.K = X.K ∧ C.mg = X.mg := by exact ⟨rfl, rfl⟩) (hkk : k ≤ k' := by decide) (hN : X.N[c.k]? = some x := by rfl) (hv : Vis X.env.scope x := by first | exact Or.inl rfl | exact Or.inr (Or.inl rfl) | exact Or.inr (Or.inr rfl))
    (hd : (x == ("__debug__" : Str)) = false := by decide) (hcd : (x == ("__classdict__" : Str)) = false := by decide) {pl : Sem Bool}
    (ht : eval (.Call (.Attribute (.Name x p2) m apos) [] [] pos) X.env = (do let ov ← eval (.Name x p2) X.env; standAt apos.atName; let (f, first) ← holding [ov] (getMethod ov m pl); callWith pos f first (backTo pos (starEach [] X.env)) (backToKw pos (keywordEach [] X.env))) := by rfl) :
    PE X (.Call (.Attribute (.Name x p2) m apos) [] [] pos) (tXE C W (mMeth (j0 :: js) c.nl N.length M mNil)) := by
  obtain ⟨g, fd, ps, h1, h2, h3⟩ := G.ex
  refine PE.imp (pe_methE0 (E := WE W) (pe_var (i := c.k) hN hv hd hcd) cls h2 h1 (hr.mono hkk) h3 (fun σ => L2N.passAt tk σ) ht) fun σ H Q w => ?_
  obtain ⟨v, i1, a, dx, fs, i2, i3, i4, B, P, ρ, hio, re, q⟩ := meth_core w hob hw hm (fun ρ ds e => by cases e; rfl) hnp hC
  exact ⟨v, i1, a, dx, fs, i2, i3, i4, q [] H (Sm.refl _) re.tab trivial⟩
/-! statements over them -/
def sExprXE (fx : CV → Rs (D × CV)) : CV → Out := fun ρ => match fx ρ with
  | .ok (_, ρ') => .nx ρ'
  | .er c => .ex c
  | .no => .no
theorem ss_exprXE (he : PE X e (tXE C W fx)) (hs : swapsWith e none pos.line X.env = pure false := by rfl) : PS X (.Expr e pos) (tS C W (sExprXE fx)) := PS.imp (ps_expr he hs) fun D' σ H h => by
  obtain ⟨B, P, ρ, hb, re, h⟩ := h
  refine ⟨B, P, ρ, hb, re, ?_⟩
  unfold sExprXE at h
  cases ef : fx ρ with
  | er c => rw [ef] at h; exact fun A H1 ρ' hm re' => h A P σ H1 ρ' hm re'
  | no => rw [ef] at h; exact h.elim
  | ok y =>
    obtain ⟨d, ρ'⟩ := y
    rw [ef] at h
    exact fun v H1 re1 tv => h P σ H1 re1
def sRetXE (fx : CV → Rs (D × CV)) : CV → Out := fun ρ => match fx ρ with
  | .ok (d, ρ') => .rt d .cl ρ'
  | .er c => .ex c
  | .no => .no
theorem ss_retXE (he : PE X e (tXE C W fx)) : PS X (.Return (some e) pos) (tS C W (sRetXE fx)) := PS.imp (ps_ret he) fun D' σ H h => by
  obtain ⟨B, P, ρ, hb, re, h⟩ := h
  refine ⟨B, P, ρ, hb, re, ?_⟩
  unfold sRetXE at h
  cases ef : fx ρ with
  | er c => rw [ef] at h; exact fun A H1 ρ' hm re' => h A P σ H1 ρ' hm re'
  | no => rw [ef] at h; exact h.elim
  | ok y =>
    obtain ⟨d, ρ'⟩ := y
    rw [ef] at h
    exact fun v H1 re1 tv => h P σ H1 v re1 tv
end
section
variable {P : Program} {w : World} {base : Heap} {K : PySem.W.Frag} {mg : Str → Option Value}
/-- a method, by its body -/
theorem fn_okO {C : Cf} {x qual : Str} {st : Stmt} {f : Addr} {fd : FuncData} {N ps : List Str} {k : Nat} {b : CV → Out} (F : Fun K x qual st f fd) (S : FnScope N ps (defScope st))
    (body : ∀ (cdv : Value) (A : Around) (outer : List Env) (s : Shared) (H : Hp) (E : XK), Room k (A.deeper (envOfC qual (defScope st) s.heap.objs.size f cdv)) →
      PSs (cxOf (L2N.CX P w) P w K mg base N qual (defScope st) f cdv A outer s H E) (defBody st) (tS C (fun cls d _ H => E cls d H) b)) :
    FnOk P w K mg base (L2N.CX P w) (k + 1) f fd ps (spO C N ps.length (runO N.length b)) := by
  obtain ⟨oc, od, kV, doc, pm, an, cdv, ct, osl, rfl, lk, hcd⟩ := (F.ex)
  refine fn_of lk hcd S (fun vs H Q E h => ?_) (fun A outer s H vs Q E hr h => ⟨_, body cdv A outer s H E hr, body_readO h⟩)
  obtain ⟨B, P, args, attrs, hl, _⟩ := h
  exact hl
end
end Eng

set_option Elab.async false
set_option linter.all false
set_option maxRecDepth 100000
set_option maxHeartbeats 1234567
namespace Eng
open PySem PySem.Spec
open PyProof.Rows L2

/-! ### methods that only read their object -/
def valC : Cell → Cell
  | .own ds => .val (.list ds)
  | x => x
def metP (K : PySem.W.Frag) (T : List Addr) (mg : Str → Option Value) (cl : Addr) (fs : List Str) (n : Nat) : Cf := { K := K, T := T, mg := mg, ios := [], ob := some { k := 0, nl := n, C := cl, fs := fs, wr := false } }
def mMethP (j0 nl : Nat) (M : CV → CV → RF) (fa : CV → Rs (List (D × Md))) : CV → Rs (D × Md) := fun ρ => if (ownJ (ρ.drop nl)).contains j0 = true then
    (match fa ρ with
    | .ok ds => (match M (.un :: ds.map toCell) ((ρ.drop nl).map valC) with
      | .ok ((d, m), _) => ofO (callMd false d m)
      | .er c => .er c
      | .no => .no)
    | .er c => .er c
    | .no => .no) else .no
section
variable {K : PySem.W.Frag} {T : List Addr} {B : Bs} {P P2 : List Addr} {H H2 : Hp} {σ σ2 : St} {ρ ρ2 : CV} {c : Obc} {o : Addr} {n : Nat}
theorem RE0.noOb (r : RE0 K T B P H σ ρ) : RE0 K T { B with ob := none, oa := none } P H σ ρ := ⟨r.len, r.val, r.own, r.fz, r.sep, r.keep, r.new, r.lst, r.iol, r.io0, r.ios, r.ioo, r.tab⟩
def rdBs (H : Hp) (c : Obc) (o : Addr) (n : Nat) : Bs := { H0 := H, M := [], io := [], ch := [], ob := some { k := 0, nl := n, C := c.C, fs := c.fs, wr := false }, oa := some o }
theorem entry_rd (re : RE K T B P H σ ρ) {dx : Addr} {us : List V} (ho : H o = some (.ins c.C dx (c.fs.zip us))) (hu : us.length = c.fs.length) (hs : σ.length = c.nl) (hv : vw B H σ = σ ++ us.map some) {ds : List (D × Md)} {vs : List V} (ov : OVs K (B.M ++ P) H vs ds) (hn : ds.length + 1 ≤ n) :
    RE K T (rdBs H c o n) [] H ((V.ref o :: vs).map some ++ List.replicate (n - (vs.length + 1)) none) ((Cell.un :: ds.map toCell) ++ List.replicate (n - (ds.length + 1)) .un ++ (ρ.drop c.nl).map valC) := by
  have lv := ov.length
  generalize hS : (V.ref o :: vs).map some ++ List.replicate (n - (vs.length + 1)) none = S
  generalize hR : (Cell.un :: ds.map toCell) ++ List.replicate (n - (ds.length + 1)) Cell.un = R
  have lS : S.length = n := by rw [← hS]; simp; omega
  have lR : R.length = n := by rw [← hR]; simp; omega
  have s0 : S[0]? = some (some (.ref o)) := by rw [← hS]; rfl
  have sk : ∀ k v, vs[k]? = some v → S[k + 1]? = some (some v) := fun k v e => by
    have hk := (List.getElem?_eq_some_iff.mp e).1
    rw [← hS, List.getElem?_append_left (by simp; omega), List.map_cons, List.getElem?_cons_succ, List.getElem?_map, e]
    rfl
  have lens : ρ.length = c.nl + c.fs.length := by
    have := re.z.len
    rw [hv, List.length_append, List.length_map, hu, hs] at this
    exact this.symm
  have view : vw (rdBs H c o n) H S = S ++ us.map some := by
    unfold vw
    show (match S[0]? with | some (some (.ref o)) => (match H o with | some (.ins _ _ fs) => S ++ fs.map (fun f : Str × V => some f.2) | _ => S ++ List.replicate c.fs.length none) | _ => S ++ List.replicate c.fs.length none) = _
    rw [s0]
    dsimp only
    rw [ho]
    dsimp only
    have q := zip_snd hu
    have : ((c.fs.zip us).map fun f : Str × V => some f.2) = us.map some := by
      calc ((c.fs.zip us).map fun f : Str × V => some f.2) = (((c.fs.zip us).map (·.2)).map some) := by rw [List.map_map]; rfl
        _ = us.map some := by rw [q]
    rw [this]
  have at_ : ∀ {i : Nat} {x : Cell}, (R ++ (ρ.drop c.nl).map valC)[i]? = some x → x ≠ .un → (∃ k y, i = k + 1 ∧ ds[k]? = some y ∧ x = toCell y) ∨ ∃ j y, i = n + j ∧ ρ[c.nl + j]? = some y ∧ x = valC y := fun {i x} e nx => by
    rw [app_get, lR] at e
    split at e
    · rename_i hi
      rw [← hR, app_get] at e
      split at e
      · cases i with
        | zero => simp at e; exact absurd e.symm nx
        | succ k =>
          rw [List.getElem?_cons_succ, List.getElem?_map] at e
          obtain ⟨y, ey, ex⟩ := Option.map_eq_some_iff.mp e
          exact .inl ⟨k, y, rfl, ey, ex.symm⟩
      · rw [List.getElem?_replicate] at e
        split at e
        · cases e; exact absurd rfl nx
        · cases e
    · rename_i hi
      rw [List.getElem?_map, List.getElem?_drop] at e
      obtain ⟨y, ey, ex⟩ := Option.map_eq_some_iff.mp e
      exact .inr ⟨i - n, y, by omega, ey, ex.symm⟩
  have vj : ∀ j, (S ++ us.map some)[n + j]? = (vw B H σ)[c.nl + j]? := fun j => by
    rw [hv, app_get, app_get, if_neg (by omega), if_neg (by omega), lS, hs]
    congr 1
    omega
  have vk : ∀ k v, vs[k]? = some v → (S ++ us.map some)[k + 1]? = some (some v) := fun k v e => by
    have hk := (List.getElem?_eq_some_iff.mp e).1
    rw [app_get, if_pos (by omega)]
    exact sk k v e
  have cell : ∀ {x : D × Md} {d : D}, toCell x = .val d → x.1 = d ∧ x.2 ≠ .fz := fun {x d} e => by
    unfold toCell at e
    split at e
    · cases e
    · rename_i n
      cases e
      exact ⟨rfl, n⟩
  have cellF : ∀ {x : D × Md} {d : D}, toCell x = .fz d → x.1 = d ∧ x.2 = .fz := fun {x d} e => by
    unfold toCell at e
    split at e
    · rename_i n
      cases e
      exact ⟨rfl, n⟩
    · cases e
  have cellO : ∀ {x : D × Md} {ds : List D}, toCell x ≠ .own ds := fun {x d} e => by
    unfold toCell at e
    split at e <;> cases e
  have noOwn : ∀ {i : Nat} {es : List D}, (R ++ (ρ.drop c.nl).map valC)[i]? = some (.own es) → False := fun {i es} e => by
    rcases at_ e (fun z => by cases z) with ⟨k, y, rfl, ey, ex⟩ | ⟨j, y, rfl, ej, ex⟩
    · exact cellO ex.symm
    · cases y <;> cases ex
  refine ⟨fun c' e' => ?_, ?_⟩
  · cases e'
    exact ⟨lS, by show 0 < n; omega, .inr ⟨o, dx, us, fun a ha _ => Option.some.inj ha, s0, ho, hu, fun z => by cases z⟩⟩
  · rw [view]
    refine ⟨?_, fun i d e => ?_, fun i es e => (noOwn e).elim, fun i d e => ?_, fun i i' es es' p hne g1 g2 g3 => (noOwn g1).elim, fun a ob e _ => .inl e, fun p hp => by simp at hp, fun p hp => by simp [rdBs] at hp, fun p hp => by simp [rdBs] at hp, fun p hp => by simp [rdBs] at hp, fun q hq => by simp [rdBs] at hq, fun q hq => by simp [rdBs] at hq, re.tab⟩
    · rw [List.length_append, List.length_map, List.length_append, List.length_map, List.length_drop, lS, lR, hu]
      omega
    · show ∃ v, _ ∧ Tr (mask ([] ++ []) H) v d
      rw [List.append_nil, mask_nil]
      rcases at_ e (fun z => by cases z) with ⟨k, y, rfl, ey, ex⟩ | ⟨j, y, rfl, ej, ex⟩
      · obtain ⟨rfl, nf⟩ := cell ex.symm
        obtain ⟨v, ev, ovk⟩ := ov.get ey
        exact ⟨v, vk k v ev, ovk.tr nf⟩
      · cases y with
        | un => cases ex
        | val d' =>
          cases ex
          obtain ⟨v, w1, w2⟩ := re.z.val _ _ ej
          exact ⟨v, by rw [vj]; exact w1, Tr.mono mask_le _ _ w2⟩
        | own es =>
          cases ex
          obtain ⟨p, ws, w1, _, _, w4, w5⟩ := re.z.own _ _ ej
          exact ⟨.ref p, by rw [vj]; exact w1, .lst w4 (TrAll.mono mask_le _ _ w5)⟩
        | fz d' => cases ex
    · rcases at_ e (fun z => by cases z) with ⟨k, y, rfl, ey, ex⟩ | ⟨j, y, rfl, ej, ex⟩
      · obtain ⟨rfl, nf⟩ := cellF ex.symm
        obtain ⟨v, ev, ovk⟩ := ov.get ey
        rw [nf] at ovk
        exact ⟨v, vk k v ev, ovk⟩
      · cases y <;> cases ex
        obtain ⟨v, w1, w2⟩ := re.z.fz _ _ ej
        exact ⟨v, by rw [vj]; exact w1, w2⟩
end
section
variable {X : Cx} {C : Cf} {W : WX} {c : Obc} {e : Expr} {es : List Expr} {fa : CV → Rs (List (D × Md))} {pos : Pos}
theorem methP_core {N : List Str} {np j0 : Nat} {M : CV → CV → RF} {m : Str} {σ : St} {H : Hp} {Q : VK} (w : tE C W (mMethP j0 c.nl M fa) σ H Q) (hob : C.ob = some c) (hm : m ∉ c.fs) (hl : ∀ ρ ds, fa ρ = .ok ds → ds.length + 1 = np) (hnp : np ≤ N.length) (hC : C.K = X.K ∧ C.mg = X.mg) :
    tMethE c.C m (spO (metP X.K C.T X.mg c.C c.fs N.length) N np M) (WE W) (fun σ H Q => ∃ v, σ[c.k]? = some (some v) ∧ Q v H) (tA C W fa) σ H Q := by
  obtain ⟨B, P, ρ, hio, re, w⟩ := w
  unfold mMethP at w
  split at w
  rotate_left
  · exact w.elim
  rename_i hj
  have hbo := hio.ob.trans hob
  obtain ⟨ds0, e0⟩ : ∃ ds, ρ[c.nl + j0]? = some (.own ds) := by
    obtain ⟨ds, e⟩ := ownJ_mem.mp (List.contains_iff_mem.mp hj)
    rw [List.getElem?_drop] at e
    exact ⟨ds, e⟩
  obtain ⟨p, _, q1, _⟩ := re.z.own _ _ e0
  obtain ⟨o, dx, us, _, i1, i2, i3, _, i4, iv⟩ := vw_fld re.vok hbo q1
  have hs := (re.vok c hbo).1
  have look : (c.fs.zip us).lookup m = none := by
    cases q : (c.fs.zip us).lookup m with
    | none => rfl
    | some y =>
      have := PySem.mem_of_lookup q
      exact absurd (List.of_mem_zip this).1 hm
  refine ⟨.ref o, i1, o, dx, _, rfl, i2, look, B, P, ρ, hio, re, ?_⟩
  cases ea : fa ρ with
  | er k => rw [ea] at w; exact w
  | no => rw [ea] at w; exact w.elim
  | ok ds =>
    rw [ea] at w
    dsimp only at w
    intro vs H1 s tb ov
    have re1 := re.sm s tb
    have len := hl ρ ds ea
    have lv := ov.length
    have i2' : H1 o = some (.ins c.C dx (c.fs.zip us)) := (InsEq.sm s _ _ _ _ i2).trans i2
    have iv' : vw B H1 σ = σ ++ us.map some := (vw_eq re.vok (.sm s)).trans iv
    refine ⟨rdBs H1 c o N.length, [], .un :: ds.map toCell, (ρ.drop c.nl).map valC, by rw [List.length_cons]; omega, by simp; omega, ⟨rfl, rfl⟩, rfl, ?_, ?_⟩
    · have en := entry_rd (n := N.length) re1 i2' i3 hs iv' ov (by omega)
      have e1 : N.length - np = N.length - (ds.length + 1) := by omega
      show RE X.K C.T _ _ H1 ((V.ref o :: vs).map some ++ List.replicate (N.length - (V.ref o :: vs).length) none) _
      rw [← hC.1, e1, List.length_cons]
      exact en
    · cases em : M (.un :: ds.map toCell) ((ρ.drop c.nl).map valC) with
      | no => rw [em] at w; exact w.elim
      | er k =>
        rw [em] at w
        intro A P2 σ2 H2 ρ2 hA re2
        exact w A H2 (by rw [hC.2]; exact hA) (s.trans fun a ob q => re2.z.keep a ob q (by simp [rdBs])) re2.tab
      | ok y =>
        obtain ⟨⟨d, md⟩, ρ2⟩ := y
        rw [em] at w
        dsimp only at w
        intro P2 σ2 H2 v re2 rv
        have re3 : RE C.K C.T { H0 := H1, M := [], io := [], ch := [] } P2 H2 (vw (rdBs H1 c o N.length) H2 σ2) ρ2 := by
          rw [hC.1]
          exact .of0 rfl re2.z.noOb
        have rv3 : RV C.K { H0 := H1, M := [], io := [], ch := [] } P2 H2 md v d := by
          rw [hC.1]
          cases md <;> exact rv
        have sm2 : Sm H1 H2 := re3.smOf rfl
        cases ez : callMd false d md with
        | none => rw [ez] at w; exact w.elim
        | some z =>
          rw [ez] at w
          exact w v H2 (s.trans sm2) re2.tab ((call_back re1.lst (fun z => by cases z) re3 rv3 ez).sm s)
/-- a method that reads its object, as its callers know it -/
structure CalP (P : Program) (w : World) (K : PySem.W.Frag) (mg : Str → Option Value) (base : Heap) (T : List Addr) (cl : Addr) (fs : List Str) (m : Str) (N : List Str) (np k : Nat) (M : CV → CV → RF) : Prop where
  ex : ∃ (g : Addr) (fd : FuncData) (ps : List Str), FnOk P w K mg base (L2N.CX P w) k g fd ps (spO (metP K T mg cl fs N.length) N np M) ∧ Meth K cl m g ∧ L2.Binds K fd ps []
/-- self.m() -/
theorem se_meth0 {m x : Str} {N : List Str} {k k' : Nat} (j0 : Nat) {M : CV → CV → RF} {p2 apos : Pos} (G : CalP X.prog X.w X.K X.mg X.base C.T c.C c.fs m N 1 k M) (hr : Room k' X.A) (tk : L2N.Takes X W) (cls : Cls X.K c.C) (hob : C.ob = some c)
    (hm : m ∉ c.fs := by decide) (hnp : 1 ≤ N.length := by decide) (hC : C.K = X.K ∧ C.mg = X.mg := by exact ⟨rfl, rfl⟩) (hkk : k ≤ k' := by decide) (hN : X.N[c.k]? = some x := by rfl) (hv : Vis X.env.scope x := by first | exact Or.inl rfl | exact Or.inr (Or.inl rfl) | exact Or.inr (Or.inr rfl))
    (hd : (x == ("__debug__" : Str)) = false := by decide) (hcd : (x == ("__classdict__" : Str)) = false := by decide) {pl : Sem Bool}
    (ht : eval (.Call (.Attribute (.Name x p2) m apos) [] [] pos) X.env = (do let ov ← eval (.Name x p2) X.env; standAt apos.atName; let (f, first) ← holding [ov] (getMethod ov m pl); callWith pos f first (backTo pos (starEach [] X.env)) (backToKw pos (keywordEach [] X.env))) := by rfl) :
    PE X (.Call (.Attribute (.Name x p2) m apos) [] [] pos) (tE C W (mMethP j0 c.nl M mNil)) := by
  obtain ⟨g, fd, ps, h1, h2, h3⟩ := G.ex
  refine PE.imp (pe_methE0 (E := WE W) (pe_var (i := c.k) hN hv hd hcd) cls h2 h1 (hr.mono hkk) h3 (fun σ => L2N.passAt tk σ) ht) fun σ H Q w => ?_
  obtain ⟨v, i1, a, dx, fs, i2, i3, i4, B, P, ρ, hio, re, q⟩ := methP_core w hob hm (fun ρ ds e => by cases e; rfl) hnp hC
  exact ⟨v, i1, a, dx, fs, i2, i3, i4, q [] H (Sm.refl _) re.tab trivial⟩
end
end Eng

set_option Elab.async false
set_option linter.all false
set_option maxRecDepth 100000
set_option maxHeartbeats 1234567
namespace Eng
open PySem PySem.Spec
open PyProof.Rows L2

/-! ### a def with an object of its own, in a slot -/
section
variable {K : PySem.W.Frag} {T : List Addr} {B B' : Bs} {P P' : List Addr} {H H' : Hp} {σ : St} {ρ : CV} {c : Obc}
theorem RE0.base (r : RE0 K T B P H σ ρ) (h : B'.H0 = B.H0 ∧ B'.M = B.M ∧ B'.io = B.io ∧ B'.ch = B.ch) : RE0 K T B' P H σ ρ := by
  obtain ⟨a, b, c, d, e, f⟩ := B
  obtain ⟨a', b', c', d', e', f'⟩ := B'
  obtain ⟨h1, h2, h3, h4⟩ := h
  dsimp only at h1 h2 h3 h4
  subst h1 h2 h3 h4
  exact ⟨r.len, r.val, r.own, r.fz, r.sep, r.keep, r.new, r.lst, r.iol, r.io0, r.ios, r.ioo, r.tab⟩
/-- nothing stands there yet -/
theorem RE.withOb (re : RE K T B P H σ ρ) (h : B.ob = none) (c : Obc) (hl : σ.length = c.nl) (hk : c.k < c.nl) (hs : σ[c.k]? = some none) : RE K T { B with ob := some c, oa := none } P H σ (ρ ++ List.replicate c.fs.length .un) := by
  have r := re.to0 h
  have lr := r.len
  have view : vw { B with ob := some c, oa := none } H σ = σ ++ List.replicate c.fs.length none := by
    unfold vw
    dsimp only
    rw [hs]
  have at_ : ∀ {i : Nat} {x : Cell}, (ρ ++ List.replicate c.fs.length Cell.un)[i]? = some x → x ≠ .un → ρ[i]? = some x := fun {i x} e n => by
    rw [app_get] at e
    split at e
    · exact e
    · rw [List.getElem?_replicate] at e
      split at e
      · cases e; exact absurd rfl n
      · cases e
  have st : ∀ {i : Nat} {x : Cell}, ρ[i]? = some x → (σ ++ List.replicate c.fs.length none)[i]? = σ[i]? := fun {i x} e => by
    have := (List.getElem?_eq_some_iff.mp e).1
    rw [app_get, if_pos (by omega)]
  refine ⟨fun c' e' => ?_, ?_⟩
  · cases e'
    exact ⟨hl, hk, .inl ⟨rfl, hs⟩⟩
  · rw [view]
    refine ⟨by simp [lr], fun i d e => ?_, fun i ds e => ?_, fun i d e => ?_, fun i j ds es p hij e1 e2 e3 => ?_, r.keep, r.new, r.lst, r.iol, r.io0, fun q hq => ?_, fun q hq => ?_, r.tab⟩
    · have e' := at_ e (fun z => by cases z)
      rw [st e']
      exact r.val i d e'
    · have e' := at_ e (fun z => by cases z)
      rw [st e']
      exact r.own i ds e'
    · have e' := at_ e (fun z => by cases z)
      rw [st e']
      exact r.fz i d e'
    · have g1 := at_ e1 (fun z => by cases z)
      have g2 := at_ e2 (fun z => by cases z)
      rw [st g1] at e3
      rw [st g2]
      exact r.sep i j ds es p hij g1 g2 e3
    · obtain ⟨ds, e⟩ := r.ioo q hq
      rw [st e]
      exact r.ios q hq
    · obtain ⟨ds, e⟩ := r.ioo q hq
      refine ⟨ds, ?_⟩
      rw [app_get, if_pos (List.getElem?_eq_some_iff.mp e).1]
      exact e
end
def runL (n nf : Nat) (b : CV → Out) (args : CV) : RF := fin (b (args ++ List.replicate (n - args.length) .un ++ List.replicate nf .un))
section
variable {P : Program} {w : World} {base : Heap} {K : PySem.W.Frag} {mg : Str → Option Value}
theorem body_readL {C : Cf} {c : Obc} (hob : C.ob = some c) {N : List Str} {n : Nat} {b : CV → Out} {vs : List V} {H : Hp} {Q : VK} {E : XK} (hnl : c.nl = N.length) (hn : n ≤ c.k) (hk : c.k < N.length) (h : spM { C with ob := none } n (runL N.length c.fs.length b) vs H Q E) :
    tS C (fun cls d _ H => E cls d H) b { nx := fun _ H' => Q .non H', rt := Q } (L2.start N vs) H := by
  obtain ⟨B, P, args, hl, hio, h0, hch, re, h⟩ := h
  have bo : B.ob = none := hio.ob
  have la : args.length = vs.length := by
    have := (re.to0 bo).len
    rw [List.length_map] at this
    exact this.symm
  have ent := re.entry (N := N) bo (by omega)
  have l1 : (L2.start N vs).length = c.nl := by
    unfold L2.start
    (rw [List.length_append, List.length_map, List.length_replicate])
    omega
  have s1 : (L2.start N vs)[c.k]? = some none := by
    unfold L2.start
    rw [List.getElem?_append_right (by rw [List.length_map]; omega), List.length_map, List.getElem?_replicate, if_pos (by omega)]
  have re2 := ent.withOb bo c l1 (by omega) s1
  refine ⟨{ B with ob := some c, oa := none }, P, _, ⟨hio.io, hob.symm⟩, re2, ?_⟩
  have down : ∀ {P' : List Addr} {H' : Hp} {σ' : L2.St} {ρ' : CV}, RE C.K C.T { B with ob := some c, oa := none } P' H' σ' ρ' → RE C.K C.T B P' H' (vw { B with ob := some c, oa := none } H' σ') ρ' := fun r => .of0 bo (r.z.base ⟨rfl, rfl, rfl, rfl⟩)
  have rvd : ∀ {P' : List Addr} {H' : Hp} {m : Md} {v : V} {d : D}, RV C.K { B with ob := some c, oa := none } P' H' m v d → RV C.K B P' H' m v d := fun {P' H' m v d} r => by cases m <;> exact r
  unfold runL at h
  cases e : b (args ++ List.replicate (N.length - args.length) .un ++ List.replicate c.fs.length .un) with
  | nx ρ => rw [e] at h; exact fun P' σ' H' re' => h P' _ H' .non (down re') .non
  | rt d m ρ => rw [e] at h; exact fun P' σ' H' v re' rv => h P' _ H' v (down re') (rvd rv)
  | er c ρ => rw [e] at h; exact fun A P' σ' H' hm re' => h A P' _ H' ρ hm (down re')
  | ex c => rw [e] at h; exact fun A P' σ' H' ρ' hm re' => h A P' _ H' ρ' hm (down re')
  | bk ρ => rw [e] at h; exact h.elim
  | ct ρ => rw [e] at h; exact h.elim
  | no => rw [e] at h; exact h.elim
theorem fn_okL {C : Cf} {c : Obc} {x qual : Str} {st : Stmt} {f : Addr} {fd : FuncData} {N ps : List Str} {k : Nat} {b : CV → Out} (F : Fun K x qual st f fd) (S : FnScope N ps (defScope st)) (hob : C.ob = some c) (hnl : c.nl = N.length) (hn : ps.length ≤ c.k) (hk : c.k < N.length)
    (body : ∀ (cdv : Value) (A : Around) (outer : List Env) (s : Shared) (H : Hp) (E : XK), Room k (A.deeper (envOfC qual (defScope st) s.heap.objs.size f cdv)) →
      PSs (cxOf (L2N.CX P w) P w K mg base N qual (defScope st) f cdv A outer s H E) (defBody st) (tS C (fun cls d _ H => E cls d H) b)) :
    FnOk P w K mg base (L2N.CX P w) (k + 1) f fd ps (spM { C with ob := none } ps.length (runL N.length c.fs.length b)) := by
  obtain ⟨oc, od, kV, doc, pm, an, cdv, ct, osl, rfl, lk, hcd⟩ := (F.ex)
  refine fn_of lk hcd S (fun vs H Q E h => ?_) (fun A outer s H vs Q E hr h => ⟨_, body cdv A outer s H E hr, body_readL hob hnl hn hk h⟩)
  obtain ⟨B, P, args, hl, _⟩ := h
  exact hl
end
/-! ### the object is made -/
section
variable {K : PySem.W.Frag} {T : List Addr} {B : Bs} {P : List Addr} {H : Hp} {σ : St} {ρ : CV} {c : Obc}
/-- the heap behind the making: the object at o, its dict at dx, two empty lists -/
def madeH (H : Hp) (cl o dx pw po : Addr) (f0 f1 f2 f3 : Str) (v : V) : Hp := L2.upd (L2.upd (L2.upd (L2.upd H dx (.own o)) pw (.lst [])) po (.lst [])) o (.ins cl dx [(f0, v), (f1, .ref pw), (f2, .ref po), (f3, .bl true)])
theorem RE.make (re : RE K T B P H σ ρ) (hob : B.ob = some c) {f0 f1 f2 f3 : Str} (hfs : c.fs = [f0, f1, f2, f3]) (hk0 : c.k ≠ 0) (hio : ∀ q ∈ B.io, q.1 < c.nl ∧ q.1 ≠ c.k) {o dx pw po : Addr} {v : V} {d : D} (n1 : H o = none) (n2 : H dx = none) (n3 : H pw = none) (n4 : H po = none)
    (a1 : dx ≠ o) (a2 : pw ≠ o) (a3 : po ≠ o) (a4 : pw ≠ po) (a5 : dx ≠ pw) (a6 : dx ≠ po) (t : Tr (mask (B.M ++ P) H) v d) (huk : ρ[c.k]? = some .un) :
    RE K T B (o :: pw :: po :: P) (madeH H c.C o dx pw po f0 f1 f2 f3 v) (σ.set c.k (some (.ref o))) (ρ.take c.nl ++ [.val d, .own [], .own [], .val (.bool true)]) := by
  obtain ⟨h1, h2, _⟩ := re.vok c hob
  have hfl : c.fs.length = 4 := by rw [hfs]; rfl
  -- the new heap
  have at_o : madeH H c.C o dx pw po f0 f1 f2 f3 v o = some (.ins c.C dx (c.fs.zip [v, .ref pw, .ref po, .bl true])) := by rw [hfs]; exact upd_same
  have at_po : madeH H c.C o dx pw po f0 f1 f2 f3 v po = some (.lst []) := by unfold madeH; rw [upd_ne a3, upd_same]
  have at_pw : madeH H c.C o dx pw po f0 f1 f2 f3 v pw = some (.lst []) := by unfold madeH; rw [upd_ne a2, upd_ne a4, upd_same]
  have old : ∀ a ob, H a = some ob → madeH H c.C o dx pw po f0 f1 f2 f3 v a = some ob := fun a ob e => by
    have e1 : a ≠ o := fun z => by rw [z, n1] at e; cases e
    have e2 : a ≠ dx := fun z => by rw [z, n2] at e; cases e
    have e3 : a ≠ pw := fun z => by rw [z, n3] at e; cases e
    have e4 : a ≠ po := fun z => by rw [z, n4] at e; cases e
    unfold madeH
    rw [upd_ne e1, upd_ne e4, upd_ne e3, upd_ne e2]
    exact e
  generalize madeH H c.C o dx pw po f0 f1 f2 f3 v = G at *
  have sm : Sm H G := fun a ob e => .inl (old a ob e)
  have tab : Tab T G := fun q hq => by
    obtain ⟨ps, e1, e2⟩ := re.tab q hq
    exact ⟨ps, old _ _ e1, e2⟩
  have re1 := re.sm sm tab
  have le : SeqLe (mask (B.M ++ P) H) (mask (B.M ++ (o :: pw :: po :: P)) G) := le_of_keep (P := []) (fun p hp => by simp at hp) (fun a ob e _ => .inl (old a ob e)) fun p hp => by
    simp only [List.mem_append, List.mem_cons] at hp ⊢
    rcases hp with z | z | z | z | z
    · exact .inl (.inl z)
    · rw [z]; exact .inr n1
    · rw [z]; exact .inr n3
    · rw [z]; exact .inr n4
    · exact .inl (.inr z)
  have lens : ρ.length = c.nl + 4 ∨ True := .inr trivial
  have hlen : c.nl < ρ.length ∨ ρ.length = c.nl + 4 := by
    have := re.z.len
    obtain ⟨ext, e, _⟩ := vw_app hob H σ
    exact .inr (by
      unfold vw at this
      rw [hob] at this
      dsimp only at this
      rcases (re.vok c hob).2.2 with ⟨_, z⟩ | ⟨o', dx', us, _, z2, z3, z4, _⟩
      · rw [z] at this
        simp [h1, hfl] at this
        omega
      · rw [z2] at this
        dsimp only at this
        rw [z3] at this
        simp [h1, z4, hfl] at this
        omega)
  have lT : (ρ.take c.nl).length = c.nl := by rw [List.length_take]; omega
  have view : vw B G (σ.set c.k (some (.ref o))) = σ.set c.k (some (.ref o)) ++ [some v, some (.ref pw), some (.ref po), some (.bl true)] := by
    unfold vw
    rw [hob]
    dsimp only
    rw [List.getElem?_set_self (by omega)]
    dsimp only
    rw [at_o, hfs]
    rfl
  have at_ : ∀ {i : Nat} {x : Cell}, (ρ.take c.nl ++ [Cell.val d, .own [], .own [], .val (.bool true)])[i]? = some x → x ≠ .un → (i < c.nl ∧ i ≠ c.k ∧ ρ[i]? = some x) ∨ (i = c.nl ∧ x = .val d) ∨ (i = c.nl + 1 ∧ x = .own []) ∨ (i = c.nl + 2 ∧ x = .own []) ∨ (i = c.nl + 3 ∧ x = .val (.bool true)) := fun {i x} e nx => by
    rw [app_get, lT] at e
    split at e
    · rename_i hi
      rw [List.getElem?_take_of_lt hi] at e
      refine .inl ⟨hi, fun z => ?_, e⟩
      rw [z, huk] at e
      cases e
      exact nx rfl
    · rename_i hi
      obtain ⟨j, hj⟩ : ∃ j, i = c.nl + j := ⟨i - c.nl, by omega⟩
      rw [hj, Nat.add_sub_cancel_left] at e
      match j, hj, e with
      | 0, hj, e => cases e; exact .inr (.inl ⟨hj, rfl⟩)
      | 1, hj, e => cases e; exact .inr (.inr (.inl ⟨hj, rfl⟩))
      | 2, hj, e => cases e; exact .inr (.inr (.inr (.inl ⟨hj, rfl⟩)))
      | 3, hj, e => cases e; exact .inr (.inr (.inr (.inr ⟨hj, rfl⟩)))
      | j + 4, hj, e => simp at e
  have slot : ∀ {i : Nat}, i < c.nl → i ≠ c.k → (σ.set c.k (some (.ref o)) ++ [some v, some (.ref pw), some (.ref po), some (.bl true)])[i]? = (vw B G σ)[i]? := fun {i} hi hne => by
    obtain ⟨ext, e, _⟩ := vw_app hob G σ
    rw [e, app_get, if_pos (by rw [List.length_set]; omega), List.getElem?_set_ne (fun z => hne z.symm), app_get, if_pos (by omega)]
  have att : ∀ (j : Nat) (y : Option V), [some v, some (.ref pw), some (.ref po), some (.bl true)][j]? = some y → (σ.set c.k (some (.ref o)) ++ [some v, some (.ref pw), some (.ref po), some (.bl true)])[c.nl + j]? = some y := fun j y e => by
    rw [app_get, if_neg (by rw [List.length_set]; omega), List.length_set, h1, Nat.add_sub_cancel_left]
    exact e
  have notOld : ∀ {p : Addr} {i : Nat} {ds : List D}, ρ[i]? = some (.own ds) → (vw B G σ)[i]? = some (some (.ref p)) → p ≠ pw ∧ p ≠ po := fun {p i ds} e q => by
    have : vw B G σ = vw B H σ := vw_eq re.vok (.sm sm)
    obtain ⟨p', vs, q1, _, _, q4, _⟩ := re.z.own _ _ e
    rw [this, q1] at q
    cases q
    exact ⟨fun z => (by rw [z, n3] at q4; cases q4), fun z => (by rw [z, n4] at q4; cases q4)⟩
  refine ⟨fun c' e' => ?_, ?_⟩
  · rw [hob] at e'
    cases e'
    refine ⟨by rw [List.length_set]; exact h1, h2, .inr ⟨o, dx, [v, .ref pw, .ref po, .bl true], fun _ _ z => absurd z hk0, List.getElem?_set_self (by omega), at_o, by rw [hfl]; rfl, fun _ => List.mem_cons_self⟩⟩
  · rw [view]
    have hvw : vw B G σ = vw B H σ := vw_eq re.vok (.sm sm)
    have noM : ∀ {p : Addr}, H p = none → p ∉ B.M ++ P := fun {p} e z => by
      obtain ⟨ob, q, _⟩ := re.lst p z
      rw [e] at q
      cases q
    have uv : ∀ {d : D}, Cell.val d ≠ .un := fun z => by cases z
    have uo : ∀ {ds : List D}, Cell.own ds ≠ .un := fun z => by cases z
    have uf : ∀ {d : D}, Cell.fz d ≠ .un := fun z => by cases z
    have mem : ∀ {p : Addr}, p ∈ P → p ∈ o :: pw :: po :: P := fun h => List.mem_cons_of_mem _ (List.mem_cons_of_mem _ (List.mem_cons_of_mem _ h))
    refine ⟨?_, fun i d' e => ?_, fun i ds e => ?_, fun i d' e => ?_, fun i i' ds ds' p hne e1 e2 e3 => ?_, re1.z.keep, fun p hp => ?_, fun p hp => ?_, re1.iol, re.io0, fun q hq => ?_, fun q hq => ?_, tab⟩
    · rw [List.length_append, List.length_set, List.length_append, lT, h1]
      rfl
    · rcases at_ e uv with ⟨hi, hk, e'⟩ | ⟨rfl, z⟩ | ⟨_, z⟩ | ⟨_, z⟩ | ⟨rfl, z⟩
      · obtain ⟨y, q1, q2⟩ := re.z.val _ _ e'
        exact ⟨y, by rw [slot hi hk, hvw]; exact q1, Tr.mono le _ _ q2⟩
      · cases z
        exact ⟨v, att 0 _ rfl, Tr.mono le _ _ t⟩
      · cases z
      · cases z
      · cases z
        exact ⟨_, att 3 _ rfl, .bl _⟩
    · rcases at_ e uo with ⟨hi, hk, e'⟩ | ⟨_, z⟩ | ⟨rfl, z⟩ | ⟨rfl, z⟩ | ⟨_, z⟩
      · obtain ⟨p, vs, q1, q2, q3, q4, q5⟩ := re.z.own _ _ e'
        exact ⟨p, vs, by rw [slot hi hk, hvw]; exact q1, mem q2, q3, old _ _ q4, TrAll.mono le _ _ q5⟩
      · cases z
      · cases z
        exact ⟨pw, [], att 1 _ rfl, by simp, fun _ z => noM n3 (List.mem_append_left _ z), at_pw, .nil⟩
      · cases z
        exact ⟨po, [], att 2 _ rfl, by simp, fun _ z => noM n4 (List.mem_append_left _ z), at_po, .nil⟩
      · cases z
    · rcases at_ e uf with ⟨hi, hk, e'⟩ | ⟨_, z⟩ | ⟨_, z⟩ | ⟨_, z⟩ | ⟨_, z⟩
      · obtain ⟨y, q1, q2⟩ := re.z.fz _ _ e'
        exact ⟨y, by rw [slot hi hk, hvw]; exact q1, q2.sm sm⟩
      · cases z
      · cases z
      · cases z
      · cases z
    · have w1 : (σ.set c.k (some (.ref o)) ++ [some v, some (.ref pw), some (.ref po), some (.bl true)])[c.nl + 1]? = some (some (.ref pw)) := att 1 _ rfl
      have w2 : (σ.set c.k (some (.ref o)) ++ [some v, some (.ref pw), some (.ref po), some (.bl true)])[c.nl + 2]? = some (some (.ref po)) := att 2 _ rfl
      intro e4
      rcases at_ e1 uo with ⟨hi, hk, f1⟩ | ⟨_, z⟩ | ⟨r1, _⟩ | ⟨r1, _⟩ | ⟨_, z⟩
      · rw [slot hi hk] at e3
        obtain ⟨x1, x2⟩ := notOld f1 e3
        rcases at_ e2 uo with ⟨hi', hk', f2⟩ | ⟨_, z⟩ | ⟨r2, _⟩ | ⟨r2, _⟩ | ⟨_, z⟩
        · rw [slot hi' hk', hvw] at e4
          rw [hvw] at e3
          exact re.z.sep i i' ds ds' p hne f1 f2 e3 e4
        · cases z
        · rw [r2, w1] at e4
          cases e4
          exact x1 rfl
        · rw [r2, w2] at e4
          cases e4
          exact x2 rfl
        · cases z
      · cases z
      · rw [r1, w1] at e3
        cases e3
        rcases at_ e2 uo with ⟨hi', hk', f2⟩ | ⟨_, z⟩ | ⟨r2, _⟩ | ⟨r2, _⟩ | ⟨_, z⟩
        · rw [slot hi' hk'] at e4
          exact (notOld f2 e4).1 rfl
        · cases z
        · exact hne (r1.trans r2.symm)
        · rw [r2, w2] at e4
          cases e4
          exact a4 rfl
        · cases z
      · rw [r1, w2] at e3
        cases e3
        rcases at_ e2 uo with ⟨hi', hk', f2⟩ | ⟨_, z⟩ | ⟨r2, _⟩ | ⟨r2, _⟩ | ⟨_, z⟩
        · rw [slot hi' hk'] at e4
          exact (notOld f2 e4).2 rfl
        · cases z
        · rw [r2, w1] at e4
          cases e4
          exact a4 rfl
        · exact hne (r1.trans r2.symm)
        · cases z
      · cases z
    · simp only [List.mem_cons] at hp
      rcases hp with rfl | rfl | rfl | hp
      · exact .inr (re.fresh0 n1)
      · exact .inr (re.fresh0 n3)
      · exact .inr (re.fresh0 n4)
      · exact re.new p hp
    · simp only [List.mem_append, List.mem_cons] at hp
      rcases hp with hp | rfl | rfl | rfl | hp
      · exact re1.lst p (List.mem_append_left _ hp)
      · exact ⟨_, at_o, .inr ⟨_, _, _, rfl⟩⟩
      · exact ⟨_, at_pw, .inl ⟨_, rfl⟩⟩
      · exact ⟨_, at_po, .inl ⟨_, rfl⟩⟩
      · exact re1.lst p (List.mem_append_right _ hp)
    · obtain ⟨b1, b2⟩ := hio q hq
      rw [slot b1 b2, hvw]
      exact re.z.ios q hq
    · obtain ⟨b1, b2⟩ := hio q hq
      obtain ⟨ds, e⟩ := re.ioo q hq
      refine ⟨ds, ?_⟩
      rw [app_get, lT, if_pos b1, List.getElem?_take_of_lt b1]
      exact e
end
end Eng

set_option Elab.async false
set_option linter.all false
set_option maxRecDepth 100000
set_option maxHeartbeats 1234567
namespace Eng
open PySem PySem.Spec
open PyProof.Rows L2

/-! ### __init__ of a class of four attributes: data, two empty lists, True -/
def spInit (cl : Addr) (f0 f1 f2 f3 : Str) : Sp := fun vs H Q _ => ∃ o dx v, vs = [.ref o, v] ∧ H o = some (.ins cl dx []) ∧ ∀ pw po, H pw = none → H po = none → pw ≠ po → Q .non (L2.upd (L2.upd (L2.upd H pw (.lst [])) po (.lst [])) o (.ins cl dx [(f0, v), (f1, .ref pw), (f2, .ref po), (f3, .bl true)]))
section
variable {X : Cx} {s a : Str} {cl : Addr} {f0 f1 f2 f3 : Str}
abbrev tSlot (i : Nat) : TE := fun σ H Q => ∃ v, σ[i]? = some (some v) ∧ Q v H
def tInit (K : PySem.W.Frag) (f0 f1 f2 f3 : Str) : TS := tSeq (sFld K (tSlot 0) (tSlot 1) f0) (tSeq (sFld K (tSlot 0) (tLst tNil) f1) (tSeq (sFld K (tSlot 0) (tLst tNil) f2) (sFld K (tSlot 0) (tC (.bl true)) f3)))
theorem init_body {p1 p2 p3 p4 q1 q2 q3 q4 r1 r2 r3 r4 u1 u2 u3 u4 : Pos} {j : Nat} (hN0 : X.N[0]? = some s) (hN1 : X.N[1]? = some a) (hv0 : Vis X.env.scope s) (hv1 : Vis X.env.scope a) (d0 : (s == ("__debug__" : Str)) = false := by decide) (d1 : (a == ("__debug__" : Str)) = false := by decide)
    (c0 : (s == ("__classdict__" : Str)) = false := by decide) (c1 : (a == ("__classdict__" : Str)) = false := by decide)
    (h0 : swapsWith (.Name a p3) (some (.Attribute (.Name s p1) f0 p2)) p4.line X.env = pure false := by rfl) (h1 : swapsWith (.List [] q3) (some (.Attribute (.Name s q1) f1 q2)) q4.line X.env = pure false := by rfl)
    (h2 : swapsWith (.List [] r3) (some (.Attribute (.Name s r1) f2 r2)) r4.line X.env = pure false := by rfl) (h3 : swapsWith (.Constant (.bool true) j u3) (some (.Attribute (.Name s u1) f3 u2)) u4.line X.env = pure false := by rfl) :
    PSs X [.Assign [.Attribute (.Name s p1) f0 p2] (.Name a p3) p4, .Assign [.Attribute (.Name s q1) f1 q2] (.List [] q3) q4, .Assign [.Attribute (.Name s r1) f2 r2] (.List [] r3) r4, .Assign [.Attribute (.Name s u1) f3 u2] (.Constant (.bool true) j u3) u4] (tInit X.K f0 f1 f2 f3) :=
  pss_cons (ps_fld (pe_var (i := 0) hN0 hv0 d0 c0) (pe_var (i := 1) hN1 hv1 d1 c1) h0) (pss_cons (ps_fld (pe_var (i := 0) hN0 hv0 d0 c0) (pe_lst pa_nil) h1) (pss_cons (ps_fld (pe_var (i := 0) hN0 hv0 d0 c0) (pe_lst pa_nil) h2) (pss_one (ps_fld (pe_var (i := 0) hN0 hv0 d0 c0) pe_bl h3))))
theorem init_holds {K : PySem.W.Frag} {vs : List V} {H : Hp} {Q : VK} {E : XK} (cls : Cls K cl) (n0 : NoAttr K cl f0) (n1 : NoAttr K cl f1) (n2 : NoAttr K cl f2) (n3 : NoAttr K cl f3) (nd : [f0, f1, f2, f3].Nodup) (h : spInit cl f0 f1 f2 f3 vs H Q E) :
    tInit K f0 f1 f2 f3 { nx := fun _ H' => Q .non H', rt := Q } (L2.start [s, a] vs) H := by
  obtain ⟨o, dx, v, rfl, ho, go⟩ := h
  simp only [List.nodup_cons, List.mem_cons, List.not_mem_nil, or_false, not_or, not_false_eq_true, and_true, List.nodup_nil] at nd
  obtain ⟨⟨e01, e02, e03⟩, ⟨e12, e13⟩, e23⟩ := nd
  have s0 : (L2.start [s, a] [V.ref o, v])[0]? = some (some (.ref o)) := rfl
  have s1 : (L2.start [s, a] [V.ref o, v])[1]? = some (some v) := rfl
  refine ⟨v, s1, .ref o, s0, o, cl, dx, [], rfl, ho, cls, n0, by decide, ?_⟩
  refine ⟨Nat.zero_le _, fun pw hw => ?_⟩
  have nw : pw ≠ o := fun z => by rw [z, upd_same] at hw; cases hw
  have hw' : H pw = none := by rw [upd_ne nw] at hw; exact hw
  refine ⟨.ref o, s0, o, cl, dx, [(f0, v)], rfl, by rw [upd_ne nw.symm, upd_same]; rfl, cls, n1, by simp, ?_⟩
  refine ⟨Nat.zero_le _, fun po hp => ?_⟩
  have np : po ≠ o := fun z => by rw [z, upd_same] at hp; cases hp
  have nwp : pw ≠ po := fun z => by
    rw [← z, upd_ne nw, upd_same] at hp
    cases hp
  have hp' : H po = none := by rw [upd_ne np, upd_ne nwp.symm, upd_ne np] at hp; exact hp
  have k1 : putF f1 (.ref pw) [(f0, v)] = [(f0, v), (f1, .ref pw)] := by
    show (if f0 = f1 then _ else _) = _
    rw [if_neg e01]
    rfl
  have k2 : putF f2 (.ref po) [(f0, v), (f1, .ref pw)] = [(f0, v), (f1, .ref pw), (f2, .ref po)] := by
    show (if f0 = f2 then _ else _) = _
    rw [if_neg e02]
    show _ :: (if f1 = f2 then _ else _) = _
    rw [if_neg e12]
    rfl
  have k3 : putF f3 (.bl true) [(f0, v), (f1, .ref pw), (f2, .ref po)] = [(f0, v), (f1, .ref pw), (f2, .ref po), (f3, .bl true)] := by
    show (if f0 = f3 then _ else _) = _
    rw [if_neg e03]
    show _ :: (if f1 = f3 then _ else _) = _
    rw [if_neg e13]
    show _ :: _ :: (if f2 = f3 then _ else _) = _
    rw [if_neg e23]
    rfl
  refine ⟨.ref o, s0, o, cl, dx, [(f0, v), (f1, .ref pw)], rfl, by rw [upd_ne np.symm, upd_same, k1], cls, n2, by simp, ?_⟩
  refine ⟨.ref o, s0, o, cl, dx, [(f0, v), (f1, .ref pw), (f2, .ref po)], rfl, by rw [upd_same, k2], cls, n3, by simp, ?_⟩
  have q := go pw po hw' hp' nwp
  rw [k3]
  refine (congrArg (Q .non) ?_).mpr q
  funext b
  by_cases hb : b = o
  · rw [hb, upd_same, upd_same]
  · rw [upd_ne hb, upd_ne hb, upd_ne hb]
    by_cases h2 : b = po
    · rw [h2, upd_same, upd_same]
    · rw [upd_ne h2, upd_ne h2, upd_ne hb]
      by_cases h3 : b = pw
      · rw [h3, upd_same, upd_same]
      · rw [upd_ne h3, upd_ne h3, upd_ne hb]
end
section
variable {P : Program} {w : World} {base : Heap} {K : PySem.W.Frag} {mg : Str → Option Value}
theorem init_ok {x qual s a : Str} {st : Stmt} {f cl : Addr} {fd : FuncData} {f0 f1 f2 f3 : Str} (F : Fun K x qual st f fd) (S : FnScope [s, a] [s, a] (defScope st)) (cls : Cls K cl) (n0 : NoAttr K cl f0) (n1 : NoAttr K cl f1) (n2 : NoAttr K cl f2) (n3 : NoAttr K cl f3) (nd : [f0, f1, f2, f3].Nodup)
    (body : ∀ (cdv : Value) (A : Around) (outer : List Env) (st0 : Shared) (H : Hp) (E : XK), PSs (cxOf (L2N.CX P w) P w K mg base [s, a] qual (defScope st) f cdv A outer st0 H E) (defBody st) (tInit K f0 f1 f2 f3)) :
    FnOk P w K mg base (L2N.CX P w) 1 f fd [s, a] (spInit cl f0 f1 f2 f3) := by
  obtain ⟨oc, od, kV, doc, pm, an, cdv, ct, osl, rfl, lk, hcd⟩ := (F.ex)
  refine fn_of lk hcd S (fun vs H Q E h => ?_) (fun A outer st0 H vs Q E hr h => ⟨_, body cdv A outer st0 H E, init_holds cls n0 n1 n2 n3 nd h⟩)
  obtain ⟨o, dx, v, rfl, _⟩ := h
  rfl
end
/-! ### x = C(e) -/
def sMk (k nl : Nat) (f : CV → Rs (D × Md)) : CV → Out := fun ρ => match f ρ with
  | .ok x => if okEl x = true then (match ρ[k]? with
    | some .un => .nx (ρ.take nl ++ [.val x.1, .own [], .own [], .val (.bool true)])
    | _ => .no) else .no
  | .er c => .er c ρ
  | .no => .no
section
variable {X : Cx} {C : Cf} {W : WX} {c : Obc} {e : Expr} {f : CV → Rs (D × Md)} {pos : Pos}
theorem passes_false : Passes (L2N.CX X.prog X.w) X (fun _ _ _ => False) := fun _ _ _ _ e s' _ h => by
  obtain ⟨_, _, _, _, _, _, _, _, _, _, _, _, z⟩ := (h)
  exact z.elim
theorem ss_make {x y : Str} {g : Addr} {fd : FuncData} {ps : List Str} {k' : Nat} {f0 f1 f2 f3 : Str} {p0 p1 p2 : Pos} (M : Mk X.K c.C g) (F : FnOk X.prog X.w X.K X.mg X.base (L2N.CX X.prog X.w) 1 g fd ps (spInit c.C f0 f1 f2 f3)) (hr : Room k' X.A) (hb : L2.Binds X.K fd ps []) (hob : C.ob = some c) (hm : X.mg y = some (.ref c.C)) (ha : PE X e (tE C W f))
    (hND : X.N.Nodup) (hfs : c.fs = [f0, f1, f2, f3] := by rfl) (hk0 : c.k ≠ 0 := by decide) (hi0 : C.ios = [] := by rfl) (hkk : 2 ≤ k' := by decide) (hg : Gl X y := by rfl) (hi : X.N[c.k]? = some x := by rfl) (hx : Loc X.env.scope x := by first | exact Or.inl rfl | exact Or.inr rfl)
    (hdb : (y == ("__debug__" : Str)) = false := by decide) (he : starEach [e] X.env = (false, eval e X.env) :: starEach [] X.env := by rfl) (hpl : (backTo p2 (starEach [] X.env)).any (·.1) = false := by rfl) (hs : swapsWith (.Call (.Name y p1) [e] [] p2) (some (.Name x p0)) pos.line X.env = pure false := by rfl)
    (hf : X.fn x = true ∨ X.env.scope.names.lookup x = some .local := by first | exact .inl rfl | exact .inr rfl | assumption) : PS X (.Assign [.Name x p0] (.Call (.Name y p1) [e] [] p2) pos) (tS C W (sMk c.k c.nl f)) :=
  PS.imp (ps_set hND hi hx (pe_make (dvs := []) M F (hr.mono hkk) hg hm hb .nil passes_false (pa_cons ha pa_nil he) hdb he hpl) hs hf) fun D' σ H h => by
    obtain ⟨B, P, ρ, hio, re, h⟩ := h
    refine ⟨B, P, ρ, hio, re, ?_⟩
    unfold sMk at h
    cases ef : f ρ with
    | er k => rw [ef] at h; exact fun A H1 hA s tb => h A P σ H1 hA (re.sm s tb)
    | no => rw [ef] at h; exact h.elim
    | ok z =>
      obtain ⟨d, m⟩ := z
      rw [ef] at h
      dsimp only at h
      split at h
      · rename_i hok
        split at h
        · rename_i huk
          intro v H1 s tb vr
          have re1 := re.sm s tb
          have tv : Tr (mask (B.M ++ P) H1) v d := (VR.ov re.lst vr).el (x := (d, m)) re1.lst hok
          intro o dx n1 n2 a1
          refine ⟨o, dx, v, rfl, upd_same, fun pw po hw hp hwp => ⟨rfl, ?_⟩⟩
          have a2 : pw ≠ o := fun z => by rw [z, upd_same] at hw; cases hw
          have a3 : po ≠ o := fun z => by rw [z, upd_same] at hp; cases hp
          have a5 : dx ≠ pw := fun z => by
            rw [← z, upd_ne a1, upd_same] at hw
            cases hw
          have a6 : dx ≠ po := fun z => by
            rw [← z, upd_ne a1, upd_same] at hp
            cases hp
          have n3 : H1 pw = none := by rw [upd_ne a2, upd_ne a5.symm] at hw; exact hw
          have n4 : H1 po = none := by rw [upd_ne a3, upd_ne a6.symm] at hp; exact hp
          have io0 : B.io = [] := by
            have := hio.io
            rw [hi0] at this
            exact List.map_eq_nil_iff.mp this
          have mk := re1.make (hio.ob.trans hob) hfs hk0 (fun q hq => by rw [io0] at hq; simp at hq) n1 n2 n3 n4 a1 a2 a3 hwp a5 a6 tv huk
          have eh : madeH H1 c.C o dx pw po f0 f1 f2 f3 v = L2.upd (L2.upd (L2.upd (L2.upd (L2.upd H1 dx (.own o)) o (.ins c.C dx [])) pw (.lst [])) po (.lst [])) o (.ins c.C dx [(f0, v), (f1, .ref pw), (f2, .ref po), (f3, .bl true)]) := by
            unfold madeH
            funext b
            by_cases h1 : b = o
            · rw [h1, upd_same, upd_same]
            · rw [upd_ne h1, upd_ne h1]
              by_cases h2 : b = po
              · rw [h2, upd_same, upd_same]
              · rw [upd_ne h2, upd_ne h2]
                by_cases h3 : b = pw
                · rw [h3, upd_same, upd_same]
                · rw [upd_ne h3, upd_ne h3, upd_ne h1]
          rw [← eh]
          exact h _ _ _ mk
        · exact h.elim
      · exact h.elim
end
end Eng

set_option Elab.async false
set_option linter.all false
set_option maxRecDepth 100000
set_option maxHeartbeats 1234567
namespace Eng
open PySem PySem.Spec
open PyProof.Rows L2

/-! ### tuple + tuple -/
def hCatT (x y : D × Md) : Option (D × Md) := match x, y with
  | (.tuple a, .cl), (.tuple b, .cl) => if a.length + b.length ≤ sizeLine then some (.tuple (a ++ b), .cl) else none
  | _, _ => none
theorem ok_catT {C : Cf} : OpOk C (rCatA C.K) hCatT := by
  rintro Pm H x y ⟨dx, mx⟩ ⟨dy, my⟩ d Q l tb ox oy e q
  unfold hCatT at e
  split at e
  · rename_i a b h1 h2
    cases h1
    cases h2
    split at e
    · rename_i hz
      cases e
      cases ox with
      | @tup p vs _ e1 t1 =>
        cases oy with
        | @tup p2 vs2 _ e2 t2 =>
          refine ⟨p, p2, vs, vs2, rfl, rfl, SqT.of (mask_some e1).2, SqT.of (mask_some e2).2, by rw [t1.lenEq, t2.lenEq]; exact hz, fun z => ?_, fun _ z => ?_, fun _ _ r hr => new_tup l tb hr (t1.append t2) q⟩
          · subst z
            cases t1
            exact q _ H (Sm.refl _) tb (.tup e2 t2)
          · subst z
            cases t2
            exact q _ H (Sm.refl _) tb (by rw [List.append_nil]; exact .tup e1 t1)
    · cases e
  · cases e
end Eng

set_option Elab.async false
set_option linter.all false
set_option maxRecDepth 100000
set_option maxHeartbeats 1234567
namespace Eng
open PySem PySem.Spec
open PyProof.Rows L2

/-! ### for i, (a, b) in enumerate(xs) -/
def mEnumL (fa : CV → Rs (List (D × Md))) : CV → Rs (List D) := fun ρ => (fa ρ).bind fun x => match x with
  | [(.list ds, .fr)] => .ok ds
  | [(.list ds, .cl)] => .ok ds
  | _ => .no
def forE (i : Nat) (is : List Nat) (u : CV → Out) : Nat → List D → CV → Out
  | _, [], ρ => .nx ρ
  | k, .tuple es :: ds, ρ => if es.length = is.length then (match u (setAll is es (ρ.set i (.val (.int (k : Nat))))) with
    | .nx ρ' => forE i is u (k + 1) ds ρ'
    | .ct ρ' => forE i is u (k + 1) ds ρ'
    | .bk ρ' => .nx ρ'
    | o => o) else .no
  | _, _ :: _, _ => .no
def sForE (i : Nat) (is : List Nat) (it : CV → Rs (List D)) (u : CV → Out) : CV → Out := fun ρ => match it ρ with
  | .ok ds => forE i is u 0 ds ρ
  | .er c => .er c ρ
  | .no => .no
section
variable {X : Cx} {C : Cf} {W : WX} {e : Expr} {pos : Pos} {fa : CV → Rs (List (D × Md))} {u : CV → Out} {body : List Stmt}
def IE (σ : St) (H : Hp) (B : Bs) (P : List Addr) (R : It → Hp → Prop) : Rs (List D) → Prop
  | .ok ds => ∀ a H', Sm H H' → Tab C.T H' → ItOk (B.M ++ P) P H' (Itl C.K a) ds → R (Ite C.K a) H'
  | .er c => ∀ A H', C.mg c = some (.ref A) → Sm H H' → Tab C.T H' → W (.ref A) none σ H'
  | .no => False
def tIE (C : Cf) (W : WX) (f : CV → Rs (List D)) : TI := fun σ H R => ∃ B P ρ, Lk B C ∧ RE C.K C.T B P H σ ρ ∧ IE (C := C) (W := W) σ H B P R (f ρ)
theorem si_enum {elts : List Expr} {kk : Nat} {tpos p : Pos} (hm : X.mg "enumerate" = none) (ha : PA X [e] (tA C W fa)) (hK : X.K = C.K := by rfl) (hg : Gl X "enumerate" := by rfl) (hs : starEach [e] X.env = [(false, eval e X.env)] := by rfl) :
    PI X (.Tuple elts kk tpos) (.Call (.Name "enumerate" p) [e] [] pos) (tIE C W (mEnumL fa)) :=
  PI.imp (pi_enum hg hm ha hs) fun σ H R h => by
    obtain ⟨B, P, ρ, hio, re, h⟩ := h
    refine ⟨B, P, ρ, hio, re, ?_⟩
    unfold mEnumL at h
    cases e1 : fa ρ with
    | er c => rw [e1] at h; exact h
    | no => rw [e1] at h; exact h
    | ok xs =>
      rw [e1] at h
      dsimp only [Rs.bind] at h
      intro vs H1 s tb ov
      have sub : ∀ q ∈ P, q ∈ B.M ++ P := fun q hq => List.mem_append_right _ hq
      split at h
      · match vs, ov with
        | [v], ov =>
          cases ov.1 with
          | lst e2 t =>
            obtain ⟨h1, h2⟩ := mask_some e2
            exact ⟨_, _, rfl, SqL.of h2, by rw [hK]; exact h _ H1 s tb (itOk_list sub (fun z => h1 (sub _ z)) h2 t)⟩
      · match vs, ov with
        | [v], ov =>
          cases ov.1 with
          | lst e2 t =>
            obtain ⟨h1, h2⟩ := mask_some e2
            exact ⟨_, _, rfl, SqL.of h2, by rw [hK]; exact h _ H1 s tb (itOk_list sub (fun z => h1 (sub _ z)) h2 t)⟩
      · exact h.elim
theorem forE_core {D' : Ends} {B : Bs} {P : List Addr} {H : Hp} {σ : St} {ρ : CV} {i : Nat} {is : List Nat} {a : Addr} {ds : List D} (hio : Lk B C) (hi : ¬ B.ro i) (his : ∀ j ∈ is, ¬ B.ro j) (re : RE C.K C.T B P H σ ρ) (it : ItOk (B.M ++ P) P H (Itl C.K a) ds) (h : SR C W D' B (forE i is u 0 ds ρ)) :
    ∃ V : Nat → Nat → St → Hp → Prop, (∃ m, V 0 m σ H) ∧ ∀ j m σ' H', V j m σ' H' →
      ((Ite C.K a).stop j H' ∧ D'.nx σ' H') ∨ ((Ite C.K a).go j H' ∧ ∃ N : St → Hp → Prop, (∀ σ2 H2, N σ2 H2 → ∃ m', m' < m ∧ V (j + 1) m' σ2 H2) ∧
        ∀ x H2, (Ite C.K a).yld j H' x H2 → gTup C.K 2 (gCons (gName i) (gCons (gTup C.K is.length (tgU is)) gNil)) x σ' H2 fun σ3 H3 => tS C W u { D' with nx := N, ct := N, bk := D'.nx } σ3 H3) := by
  have re0 := re.here
  refine ⟨fun j m σ' H' => m = ds.length - j ∧ j ≤ ds.length ∧ ∃ P' ρ', RE C.K C.T (B.here P H) P' H' σ' ρ' ∧ SR C W D' B (forE i is u j (ds.drop j) ρ'), ⟨ds.length, by simp, Nat.zero_le _, P, ρ, re0, h⟩, ?_⟩
  rintro j m σ' H' ⟨rfl, hj, P', ρ', re', h'⟩
  obtain ⟨items, stop⟩ := it H' (B.M ++ P') (fun a o e hn => re'.keep a o e hn) (fun p hp => by
    rcases (List.mem_append.mp hp) with z | z
    · exact .inl (List.mem_append_left _ z)
    · rcases re'.new p z with w | w
      · exact .inl (List.mem_append_right _ w)
      · exact .inr w)
  by_cases hlt : j < ds.length
  · have e := List.getElem?_eq_getElem hlt
    obtain ⟨go, yl⟩ := items j _ e
    refine .inr ⟨go, fun σ2 H2 => ∃ P2 ρ2, RE C.K C.T (B.here P H) P2 H2 σ2 ρ2 ∧ SR C W D' B (forE i is u (j + 1) (ds.drop (j + 1)) ρ2), fun σ2 H2 hN => ⟨ds.length - (j + 1), by omega, rfl, hlt, hN⟩, fun x H2 y => ?_⟩
    obtain ⟨T, x0, rfl, hT, rfl, hx⟩ := y
    obtain ⟨-, tx⟩ := yl x0 H' ⟨rfl, hx⟩
    have ed : ds.drop j = ds[j] :: ds.drop (j + 1) := List.drop_eq_getElem_cons hlt
    rw [ed] at h'
    have re2 := re'.sm (Sm.upd (o := .tup [.int (j : Nat), x0]) hT) (re'.tab.new hT)
    have tx2 := Tr.mono (mask_new (o := .tup [.int (j : Nat), x0]) hT) _ _ tx
    cases ej : ds[j] with
    | tuple es =>
      rw [ej] at h' tx2
      unfold forE at h'
      split at h'
      · rename_i hz
        cases tx2 with
        | @tup p vs _ e2 t2 =>
          refine ⟨T, _, rfl, SqT.of upd_same, rfl, _, _, rfl, _, _, rfl, ⟨p, vs, rfl, SqT.of (mask_some e2).2, by rw [t2.lenEq]; exact hz, ?_⟩⟩
          refine unp_run (B := B.here P H) _ is es vs _ _ his hz (re2.setVal hi (.int _)) t2 fun σ3 re3 => ⟨rfl, B.here P H, P', _, ⟨hio.io, hio.ob⟩, re3, ?_⟩
          cases eo : u (setAll is es (ρ'.set i (.val (.int (j : Nat))))) with
          | nx ρ2 => rw [eo] at h'; exact fun P2 σ2 H2 re2 => ⟨P2, ρ2, re2, h'⟩
          | ct ρ2 => rw [eo] at h'; exact fun P2 σ2 H2 re2 => ⟨P2, ρ2, re2, h'⟩
          | bk ρ2 => rw [eo] at h'; exact fun P2 σ2 H2 re2 => h' P2 σ2 H2 (re.back re2)
          | rt d m ρ2 => rw [eo] at h'; exact fun P2 σ2 H2 v re2 rv => h' P2 σ2 H2 v (re.back re2) (rv.back re)
          | er c ρ2 => rw [eo] at h'; exact fun A P2 σ2 H2 hm re2 => h' A P2 σ2 H2 hm (re.back re2)
          | ex c => rw [eo] at h'; exact fun A P2 σ2 H2 ρ2 hm re2 => h' A P2 σ2 H2 ρ2 hm (re.back re2)
          | no => rw [eo] at h'; exact h'
      · exact h'.elim
    | _ => rw [ej] at h'; exact h'.elim
  · have ej : j = ds.length := by omega
    subst ej
    rw [List.drop_length] at h'
    exact .inl ⟨stop _ (Nat.le_refl _), h' P' σ' H' (re.back re')⟩
theorem ss_forE (i : Nat) (is : List Nat) {x : Str} {es : List Expr} {k1 k2 : Nat} {p1 p2 p3 : Pos} {iter : Expr} {it : CV → Rs (List D)} (hp : PassesOwn (model X.prog X.w) X.A X.env X.xe) (hc : X.calm = true) (hN : X.N.Nodup) (hu : UnpT X es is)
    (hit : PI X (.Tuple [.Name x p1, .Tuple es k1 p2] k2 p3) iter (tIE C W it)) (hb : PSs X body (tS C W u)) (hK : X.K = C.K := by rfl)
    (hi : X.N[i]? = some x := by rfl) (hx : Loc X.env.scope x := by first | exact Or.inl rfl | exact Or.inr rfl) (hio : C.ro i = false := by rfl) (hios : is.all (fun i => !C.ro i) = true := by rfl) (hf : X.fn x = true ∨ X.env.scope.names.lookup x = some .local := by first | exact .inl rfl | exact .inr rfl | assumption)
    (hn : (assignEach es X.env).length = is.length := by rfl) (hst : (assignEach es X.env).findIdx? (·.1) = none := by rfl)
    (hn2 : (assignEach [.Name x p1, .Tuple es k1 p2] X.env).length = 2 := by rfl) (hst2 : (assignEach [.Name x p1, .Tuple es k1 p2] X.env).findIdx? (·.1) = none := by rfl)
    (hs : ∀ x, foldedSetIterable iter X.env x = pure x := by intro _; rfl) : PS X (.For (.Tuple [.Name x p1, .Tuple es k1 p2] k2 p3) iter body [] pos) (tS C W (sForE i is it u)) :=
  PS.imp (ps_for hp hc hit (pg_tup hc (pgs_cons (pg_name hN hi hx hf) (pgs_cons (pg_tup hc (unp_pg hN hu) hn hst) pgs_nil)) hn2 hst2) hb hs) fun D' σ H h => by
    obtain ⟨B, P, ρ, hb, re, h⟩ := h
    have hi' : ¬ B.ro i := hb.ro hio
    have his : ∀ j ∈ is, ¬ B.ro j := fun j m => by
      have := List.all_eq_true.mp hios j m
      refine not_io (C := C) hb ?_
      cases hc : C.ro j
      · rfl
      · rw [hc] at this; cases this
    refine ⟨B, P, ρ, hb, re, ?_⟩
    unfold sForE at h
    rw [hK]
    cases e : it ρ with
    | ok ds => rw [e] at h; exact fun a H1 s tb io => forE_core hb hi' his (re.sm s tb) io h
    | er c => rw [e] at h; exact fun A H1 hm s tb => h A P σ H1 hm (re.sm s tb)
    | no => rw [e] at h; exact h
end
end Eng

set_option Elab.async false
set_option linter.all false
set_option maxRecDepth 100000
set_option maxHeartbeats 1234567
namespace Eng
open PySem PySem.Spec
open PyProof.Rows L2

/-! ### f'..{x}..' -/
def hFmt (x : D × Md) : Option (D × Md) := match x.1 with
  | .str y => if y.length ≤ sizeLine then some (.str y, .cl) else none
  | .int i => if i.natAbs.log2 < 1920 then some (.str (toString i), .cl) else none
  | _ => none
def mFmt (f : CV → Rs (D × Md)) : CV → Rs (D × Md) := fun ρ => (f ρ).bind fun x => ofO (hFmt x)
def mJs : List (CV → Rs (D × Md)) → Str → CV → Rs (D × Md)
  | [], acc, _ => .ok (.str acc, .cl)
  | f :: fs, acc, ρ => (f ρ).bind fun x => match x.1 with
    | .str y => if (acc ++ y).length ≤ sizeLine then mJs fs (acc ++ y) ρ else .no
    | _ => .no
section
variable {X : Cx} {C : Cf} {W : WX} {e v1 v2 : Expr} {f : CV → Rs (D × Md)} {pos : Pos}
theorem se_fmt (he : PE X e (tE C W f)) : PE X (.FormattedValue e (-1) none pos) (tE C W (mFmt f)) :=
  PE.imp (pe_fmt he) fun σ H Q w => by
    obtain ⟨B, P, ρ, hio, re, w⟩ := w
    refine tE_then hio re w fun d m v H1 s re1 vr w1 => ?_
    have o1 := VR.ov re.lst vr
    unfold hFmt at w1
    dsimp only at w1
    cases d <;> try exact w1.elim
    · rename_i i
      dsimp only at w1
      split at w1
      · rename_i hz
        exact .inr ⟨i, o1.int, hz, w1 _ H1 (Sm.refl _) re1.tab (.str _)⟩
      · exact w1.elim
    · rename_i y
      dsimp only at w1
      split at w1
      · rename_i hz
        exact .inl ⟨y, o1.str, hz, w1 _ H1 (Sm.refl _) re1.tab (.str _)⟩
      · exact w1.elim
theorem js_run {B : Bs} {P : List Addr} {ρ : CV} {σ : St} {Q : VK} (hio : Lk B C) : ∀ (fs : List (CV → Rs (D × Md))) (acc : Str) (H : Hp), RE C.K C.T B P H σ ρ → ER C W σ H (B.M ++ P) Q (mJs fs acc ρ) → tJs (fs.map (tE C W)) acc σ H fun out H1 => Q (.str out) H1
  | [], acc, H, re, w => w _ H (Sm.refl _) re.tab (.str _)
  | f :: fs, acc, H, re, w => by
    refine tE_then hio re w fun d m v H1 s re1 vr w1 => ?_
    have o1 := VR.ov re.lst vr
    cases d <;> try exact w1.elim
    rename_i y
    dsimp only at w1
    split at w1
    · rename_i hz
      exact ⟨y, o1.str, hz, js_run hio fs _ H1 re1 w1⟩
    · exact w1.elim
theorem se_joined {rest : List Expr} {fs : List (CV → Rs (D × Md))} (h : PJ X (v1 :: v2 :: rest) (fs.map (tE C W))) : PE X (.JoinedStr (v1 :: v2 :: rest) pos) (tE C W (mJs fs Str.empty)) :=
  PE.imp (pe_joined h) fun σ H Q w => by
    obtain ⟨B, P, ρ, hio, re, w⟩ := w
    exact js_run hio fs _ H re w
theorem se_joined1 (h : PE X e (tE C W f)) : PE X (.JoinedStr [e] pos) (tE C W f) := pe_joined1 h
end
end Eng

set_option Elab.async false
set_option linter.all false
set_option maxRecDepth 100000
set_option maxHeartbeats 1234567
namespace Eng
open PySem PySem.Spec
open PyProof.Rows L2

/-! ### raise, as gen.py writes it -/
/-- c is an own class over ValueError without an __init__ -/
def Err (K : PySem.W.Frag) (mg : Str → Option Value) (c : Str) : Prop := ∃ Ca, mg c = some (.ref Ca) ∧ PySem.W.keepIn K (.ref Ca) = true ∧
  PySem.W.excIn K Ca [.type "ValueError", .type "Exception", .type "BaseException", .type "object"] "ValueError.__new__" = true ∧
  PySem.W.subIn K (.ref Ca) (.type "BaseException") = some true ∧ PySem.W.typeIn K (.ref Ca) = some (.type "type")
section
variable {X : Cx} {C : Cf} {W : WX} {e : Expr} {es : List Expr} {pos : Pos} {fa : CV → Rs (List (D × Md))}
theorem ss_raiseV {c m : Str} {j : Nat} {p p2 p3 : Pos} (E : Err X.K X.mg c) (hc : X.calm = true) (tk : L2N.Takes X W) (hmg : X.mg = C.mg := by rfl) (hg : Gl X c := by rfl) (hdb : (c == ("__debug__" : Str)) = false := by decide) :
    PS X (.Raise (some (.Call (.Name c p) [.Constant (.str m) j p2] [] p3)) none pos) (tS C W (sRaise c)) := by
  obtain ⟨Ca, g, k, q, b, t⟩ := E
  exact ss_raise hc tk PySem.F.excBase_ValueError q g k (raises_own b t) hmg hg hdb
theorem ss_raiseVA {c : Str} {p p3 : Pos} (E : Err X.K X.mg c) (hc : X.calm = true) (tk : L2N.Takes X W) (ha : PA X (e :: es) (tA C W fa)) (hmg : X.mg = C.mg := by rfl) (hg : Gl X c := by rfl) (hdb : (c == ("__debug__" : Str)) = false := by decide)
    (he : starEach (e :: es) X.env = (false, eval e X.env) :: starEach es X.env := by rfl) (hpl : (backTo p3 (starEach es X.env)).any (·.1) = false := by rfl) :
    PS X (.Raise (some (.Call (.Name c p) (e :: es) [] p3)) none pos) (tS C W (sRaiseA c fa)) := by
  obtain ⟨Ca, g, k, q, b, t⟩ := E
  exact ss_raiseA hc tk PySem.F.excBase_ValueError q g k (raises_own b t) hmg ha hg hdb he hpl
/-- the clause `except x`: which of the errors it takes -/
def Clause (K : PySem.W.Frag) (mg : Str → Option Value) (x : Str) (names : List Str) (sub : Str → Bool) : Prop := ∃ cv, mg x = some cv ∧ ∀ c A, c ∈ names → mg c = some (.ref A) → PySem.W.exmOne K (.ref A) cv = some (sub c)
theorem ss_tryV {x : Str} {b₀ : Stmt} {body suite : List Stmt} {u w : CV → Out} {np pos' : Pos} (names : List Str) (sub : Str → Bool) (E : Clause X.K X.mg x names sub) (tk : L2N.Takes X W)
    (hb : ∀ (W : WX) (pn : List (Addr × Obj)) (xe : Value → Shared → Prop), L2N.Takes (X.tr pn xe) W → PassesOwn (model X.prog X.w) X.A X.env xe → PSs (X.tr pn xe) body (tS C W u))
    (hsu : ∀ (a : Addr) (oe : Obj) (cls : Value) (d : Option Addr) (pn : List (Addr × Obj)), L2N.Zn cls d oe → (∃ vs, oe.data = .fields vs) → PSs (X.suite a ((a, oe) :: pn)) (b₀ :: suite) (tS C W0 w))
    (hmg : X.mg = C.mg := by rfl) (hs : X.stack = X.env :: X.outer := by rfl) (hf : X.env.frame = some X.env.locals := by rfl) (hg : Gl X x := by rfl) (hdb : (x == ("__debug__" : Str)) = false := by decide) :
    PS X (.Try body [.ExceptHandler (some (.Name x np)) none (b₀ :: suite) pos'] [] [] pos) (tS C W (sTry names sub u w)) := by
  obtain ⟨cv, g, h⟩ := E
  exact ss_try1 names sub hs hf ⟨hg, hdb, .inl g⟩ tk (fun c A hc hm => h c A hc (by rw [hmg]; exact hm)) hb hsu
end
end Eng

set_option Elab.async false
set_option linter.all false
set_option maxRecDepth 100000
set_option maxHeartbeats 1234567
namespace Eng
open PySem PySem.Spec
open PyProof.Rows L2

/-! ### xs[::-1] -/
def mRevL (f : CV → Rs (D × Md)) : CV → Rs (D × Md) := fun ρ => (f ρ).bind fun x => match x with
  | (.list ds, .fr) => .ok (.list ds.reverse, .fr)
  | (.list ds, .cl) => .ok (.list ds.reverse, .fr)
  | _ => .no
theorem TrAll.rev {H : Hp} : ∀ {vs : List V} {ds : List D}, TrAll H vs ds → TrAll H vs.reverse ds.reverse
  | _, _, .nil => .nil
  | _, _, .cons a t => by
    (rw [List.reverse_cons, List.reverse_cons])
    exact (TrAll.rev t).append (.cons a .nil)
/-! ### xs.extend(ys), ys a new list -/
def sExtL (i : Nat) (f : CV → Rs (D × Md)) : CV → Out := fun ρ => match ρ[i]? with
  | some (.own ds) => match f ρ with
    | .ok (.list es, .fr) => if ds.length + es.length < 1000000 then .nx (ρ.set i (.own (ds ++ es))) else .no
    | _ => .no
  | _ => .no
section
variable {X : Cx} {C : Cf} {W : WX} {a e : Expr} {f : CV → Rs (D × Md)} {pos : Pos}
theorem se_revL {k : Nat} {p1 p2 p3 : Pos} (he : PE X e (tE C W f)) (hK : X.K = C.K) : PE X (.Subscript e (.Slice none none (some (.UnaryOp .USub (.Constant (.int 1) k p1) p2)) p3) pos) (tE C W (mRevL f)) :=
  PE.imp (pe_revL he) fun σ H Q w => by
    obtain ⟨B, P, ρ, hio, re, w⟩ := w
    refine tE_then hio re w fun d m v H1 s re1 vr w1 => ?_
    have o1 := VR.ov re.lst vr
    cases d <;> try exact w1.elim
    rename_i ds
    cases m <;> try exact w1.elim
    · cases o1 with
      | lst e2 t => exact ⟨_, _, rfl, SqL.of (mask_some e2).2, fun p hp => new_fr (C := C) (Pm := B.M ++ P) re1.tab hp (TrAll.rev t) w1⟩
    · cases o1 with
      | lst e2 t => exact ⟨_, _, rfl, SqL.of (mask_some e2).2, fun p hp => new_fr (C := C) (Pm := B.M ++ P) re1.tab hp (TrAll.rev t) w1⟩
theorem ss_extL (i : Nat) {x : Str} {p2 apos cpos : Pos} (ha : PE X e (tE C W f)) (hN : X.N[i]? = some x := by rfl) (hlc : C.lc i = true := by rfl) (hv : Vis X.env.scope x := by first | exact Or.inl rfl | exact Or.inr (Or.inl rfl) | exact Or.inr (Or.inr rfl)) (hd : (x == ("__debug__" : Str)) = false := by decide)
    (hcd : (x == ("__classdict__" : Str)) = false := by decide) (hbase : attributeBase (.Name x p2) "extend" X.env (eval (.Name x p2) X.env) = eval (.Name x p2) X.env := by rfl)
    (hfew : ((backTo cpos (starEach [e] X.env)).all (fun x => !x.1) && (backToKw cpos (keywordEach [] X.env)).all (fun x => x.1.isSome) && decide (([e] : List Expr).length + ([] : List Keyword).length + (if ([] : List Keyword).isEmpty then 0 else 1) < 30)) = true := by rfl)
    (hline : (apos.endLine == cpos.line) = true := by rfl) (hs : starEach [e] X.env = (false, eval e X.env) :: starEach [] X.env := by rfl) (hplain : (backTo cpos (starEach [] X.env)).any (·.1) = false := by rfl)
    (hsw : swapsWith (.Call (.Attribute (.Name x p2) "extend" apos) [e] [] cpos) none pos.line X.env = pure false := by rfl) : PS X (.Expr (.Call (.Attribute (.Name x p2) "extend" apos) [e] [] cpos) pos) (tS C W (sExtL i f)) :=
  PS.imp (ps_expr (pe_bm PySem.F.plainAttrs_list PySem.F.slot_list_extend PySem.F.type_list_extend mt_extend (pe_var (i := i) hN hv hd hcd) (pa_cons ha pa_nil hs) hbase hfew hline hs hplain) hsw) fun D' σ H h => by
    obtain ⟨B, P, ρ, hb, re, h⟩ := h
    unfold sExtL at h
    split at h
    · rename_i ds0 e0
      obtain ⟨p, vs, h1, h2, h3, h4⟩ := slot_own (hb.lc hlc) re e0
      refine ⟨.ref p, h1, .inl ⟨rfl, vs, SqL.of h2⟩, B, P, ρ, hb, re, ?_⟩
      split at h
      · rename_i es ef
        rw [ef]
        intro v H1 s tb vr
        have re1 := re.sm s tb
        split at h
        · rename_i hz
          obtain ⟨q0, zs, es', rfl, ee, f0, f1, t⟩ := vr
          cases ee
          obtain ⟨q, ws, g1, g2, g3, g4⟩ := slot_own (hb.lc hlc) re1 e0
          rw [h1] at g1
          cases g1
          refine ⟨p, q0, ws, zs, rfl, rfl, g2, f1, ?_, h P σ _ (re1.mutOwn (hb.lc hlc) e0 h1 g2 (g3.append (TrAll.mono (mask_anti fun a ha => List.mem_cons_of_mem _ ha) _ _ t)))⟩
          rw [g3.lenEq, t.lenEq]
          exact Nat.le_of_lt (Nat.lt_trans hz (by decide))
        · exact h.elim
      · exact h.elim
    · exact h.elim
end
end Eng

set_option Elab.async false
set_option linter.all false
set_option maxRecDepth 100000
set_option maxHeartbeats 1234567
namespace Eng
open PySem PySem.Spec
open PyProof.Rows L2

/-! ### f(e), e the caught error of the class at D, in an except suite: what f promises there -/
structure FnA (P : Program) (w : World) (K : PySem.W.Frag) (mg : Str → Option Value) (base : Heap) (k : Nat) (f : Addr) (fd : FuncData) (ps : List Str) (D : Addr) (v : V) : Prop where
  run : ∀ (CX : CXT) (A : Around) (outer : List Env) (s : Shared) (H : Hp) (args : Args) (a : Addr) (oe : Obj) (Q : VK) (E : XK), L2H.RoomH k A → L2H.PinOk outer H s (a, oe) → Zc (.ref D) none oe → (∃ vs, oe.data = .fields vs) → Env0 P w K mg base A outer s H →
    BindsTo s fd args (ps.zip [Value.ref a]) → Q v H → codeAny (model P w) A (.call (.ref f) args) (CR CX outer P w H s Q E) s
abbrev cxA (CX : CXT) (P : Program) (w : World) (K : PySem.W.Frag) (mg : Str → Option Value) (base : Heap) (N : List Str) (qual : Str) (scope : Scope) (f : Addr) (cd : Value) (A : Around) (outer : List Env) (s : Shared) (H : Hp) (E : XK) (p : Addr × Obj) : Cx :=
  L2H.cxH CX P w K mg base N qual scope f cd A outer s H E p
theorem fnA_of {P : Program} {w : World} {K : PySem.W.Frag} {mg : Str → Option Value} {base : Heap} {k : Nat} {x y qual : Str} {st : Stmt} {f D : Addr} {fd : FuncData} {N : List Str} {v : V} (F : Fun K x qual st f fd) (S : FnScope N [y] (defScope st))
    (body : ∀ (CX : CXT) (cdv : Value) (A : Around) (outer : List Env) (s : Shared) (H : Hp) (E : XK) (a : Addr) (oe : Obj), Zc (.ref D) none oe → (∃ vs, oe.data = .fields vs) →
      ∃ t, PSs (cxA CX P w K mg base N qual (defScope st) f cdv A outer s H E (a, oe)) (defBody st) t ∧ ∀ Q : VK, Q v H → t { nx := fun _ H' => Q .non H', rt := Q } (L2.start N [.ref a]) H) : FnA P w K mg base (k + 1) f fd [y] D v := by
  obtain ⟨oc, od, kV, doc, pm, an, cdv, ct, osl, rfl, lk, hcd⟩ := (F.ex)
  constructor
  intro CX A outer s H args a oe Q E room pin zc flds e0 bnd q
  have kin := e0.mod.kin.keeps fun b u z => (e0.bs b u z).1
  have nolim := e0.mod.nolimit.keeps fun b u z => (e0.bs b u z).1
  have kinds : ∀ z ∈ [y].zip [Value.ref a], (defScope st).names.lookup z.1 = some .local ∨ ((defScope st).names.lookup z.1 = some .cell ∧ ((cellsFrom (s.heap.objs.size + 1) (defScope st).names []).lookup z.1).isSome = true) := by
    rintro ⟨n, u⟩ hz
    exact (S.par n (List.of_mem_zip hz).1).imp id fun c => ⟨c, PySem.W.cellsFrom_some _ _ _ (.inl c)⟩
  apply codeAny_call_function room.depth (kin _ _ lk) rfl S.co S.gen rfl (PySem.W.codeRec_of kin hcd) (bnd _ _ _ _ ?_)
  apply wpAny_newFunctionEnv_cells S.kind kinds
  rintro env rfl s1 ic
  refine ⟨nolim.keeps ic.toInCall.keep, codeAny_func ?_⟩
  obtain ⟨t, run, read⟩ := body CX cdv A outer s H E a oe zc flds
  have inv : Inv (cxA CX P w K mg base N qual (defScope st) f cdv A outer s H E (a, oe)) [] (L2.start N [.ref a]) H s1 := L2H.inv_startH (us := [.ref a]) S pin e0 rfl (.cons rfl .nil) ic
  apply wpAny_mono (run.run [] s1 _ H _ inv (read Q q)) _ fun _ _ z => z
  intro fl s2 z
  have done : ∀ {σ2 : St} {H2 : Hp} {y : V} {u : Value}, Inv (cxA CX P w K mg base N qual (defScope st) f cdv A outer s H E (a, oe)) [] σ2 H2 s2 → RelV y u → Q y H2 → CE outer P w H s Q u s2 := fun J r q2 => ⟨_, _, J.os, J.bare, J.base, J.hok, r, q2⟩
  cases fl with
  | next =>
    obtain ⟨_, _, J, q2⟩ := z
    exact done (y := .non) (u := Value.none) J rfl q2
  | ret u =>
    obtain ⟨_, _, _, J, r, q2⟩ := z
    exact done J r q2
  | brk => exact z.choose_spec.choose_spec.2.elim
  | cont => exact z.choose_spec.choose_spec.2.elim
/-- the call, in the suite -/
def tA1 (a : Addr) (v : V) : TE := fun σ H Q => σ[0]? = some (some (.ref a)) ∧ Q v H
theorem pe_callA {X : Cx} {k k' : Nat} {f D a : Addr} {oe : Obj} {fd : FuncData} {y x e : Str} {v : V} {i : Nat} {p p2 pos : Pos} (F : FnA X.prog X.w X.K X.mg X.base k f fd [y] D v) (hr : L2H.RoomH k' X.A) (hp : (a, oe) ∈ X.pn) (hz : Zc (.ref D) none oe) (hf : ∃ vs, oe.data = .fields vs) (hm : X.mg x = some (.ref f)) (hk : PySem.W.keepIn X.K (.ref f) = true)
    (hb : Binds X.K fd [y] []) (hN : X.N[i]? = some e) (hkk : k ≤ k' := by decide) (hv : Vis X.env.scope e := by first | exact Or.inl rfl | exact Or.inr (Or.inl rfl) | exact Or.inr (Or.inr rfl)) (hg : Gl X x := by rfl) (hdb : (x == ("__debug__" : Str)) = false := by decide) (hd : (e == ("__debug__" : Str)) = false := by decide) (hcd : (e == ("__classdict__" : Str)) = false := by decide)
    (he : starEach [.Name e p2] X.env = (false, eval (.Name e p2) X.env) :: starEach [] X.env := by rfl) (hpl : (backTo pos (starEach [] X.env)).any (·.1) = false := by rfl) : PE X (.Call (.Name x p) [.Name e p2] [] pos) (fun σ H Q => σ[i]? = some (some (.ref a)) ∧ Q v H) := by
  have arg := pa_cons (pe_var (pos := p2) (i := i) hN hv hd hcd) pa_nil he
  constructor
  rintro pins st σ H Q inv ⟨hs, q⟩
  apply wpAny_Call_Name_kw (ld_glob inv hg hm ?_ hdb)
  apply PySem.W.callWith_K (h₀ := X.base) inv.ok.mod.kin hk (thn (arg.run pos pins st σ H (fun vs H1 => vs = [.ref a] ∧ Q v H1) inv ⟨_, hs, rfl, q⟩) ?_) he hpl
  rintro us s1 ⟨vs, H1, J, r, rfl, q1⟩
  refine ⟨J.kIn, ?_⟩
  have eu : us = [Value.ref a] := by
    cases r with
    | cons r1 r2 =>
      cases r2
      cases r1
      rfl
  subst eu
  have P1 := J.pin (a, oe) (List.mem_append_left _ hp)
  have b := hb s1 [.ref a] J.kIn rfl
  rw [List.append_nil] at b
  have pin : L2H.PinOk X.stack H1 s1 (a, oe) := by
    refine ⟨P1.1, P1.2.1, fun z => ?_, P1.2.2.2.2⟩
    rcases List.mem_cons.mp (J.stkSub _ z) with z | z
    · exact P1.2.2.1 z
    · exact P1.2.2.2.1 z
  have ran := F.run (L2.CX X.prog X.w) X.A X.stack s1 H1 ⟨[.ref a], []⟩ a oe Q (fun _ _ _ => False) ⟨by have := hr.dp; omega, by have := hr.un; omega⟩ pin hz hf J.env0 b q1
  apply wpAny_call (codeAny_mono ran _)
  intro r2 s2 z
  cases r2 with
  | error u =>
    obtain ⟨_, _, _, _, _, _, _, _, _, _, _, _, y⟩ := (show L2.CX X.prog X.w X.stack H1 s1 (fun _ _ _ => False) u s2 from z)
    exact y.elim
  | ok fl =>
    cases fl <;> first | exact J.after z | exact z.elim

/-! ### isinstance(e, C) there -/
theorem call_isP {X : Cx} {a D : Addr} {oe : Obj} (C : ExcC X.K D) (hz : Zc (.ref D) none oe) (hf : ∃ vs, oe.data = .fields vs) (hp : (a, oe) ∈ X.pn) : CallR X (.builtin "isinstance") (rIsE X.K D a) := by
  rintro pins s σ H xs us Q inv r ⟨c, cv, b, rfl, hcv, hk, q⟩
  obtain ⟨vs, hd⟩ := hf
  obtain ⟨oc, od, oda, osl⟩ := (oe)
  obtain ⟨z1, z2⟩ := hz
  dsimp only at z1 z2 hd
  subst z1 z2 hd
  have here := (inv.pin _ (List.mem_append_left _ hp)).1
  cases r with
  | cons r1 r2 =>
    cases r2 with
    | cons r3 r4 =>
      cases r4
      cases r1
      have := hcv _ r3
      subst this
      have inst : PySem.W.InstAt s.heap a ⟨.ref D, none, .fields vs, osl⟩ D none := ⟨here, rfl, rfl, trivial⟩
      apply PySem.W.kia_one (PySem.W.handS_kitx_exc C.hg C.hk C.hs C.hd C.ha C.hn C.ht C.hm) inv.kIn inst hk (fun z => by cases z)
      intro tk
      exact ⟨.bl b, H, inv.kept (t' := tk) fun _ _ z => z, rfl, q⟩
section
variable {X : Cx} {a D : Addr} {oe : Obj} {x y : Str} {p p1 p2 pos : Pos}
theorem ge_is {c : V} {b : Bool} {cv : Value} (C : ExcC X.K D) (hz : Zc (.ref D) none oe) (hf : ∃ vs, oe.data = .fields vs) (hp : (a, oe) ∈ X.pn) (hm : X.mg "isinstance" = none) (ha : PE X (.Name y p2) (tC c)) (hc : ∀ u, RelV c u → u = cv) (hk : PySem.W.kitOne X.K (.ref D) cv = some b) (hN : X.N[0]? = some x)
    (hv : Vis X.env.scope x := by first | exact Or.inl rfl | exact Or.inr (Or.inl rfl) | exact Or.inr (Or.inr rfl)) (hd : (x == ("__debug__" : Str)) = false := by decide) (hcd : (x == ("__classdict__" : Str)) = false := by decide) (hg : Gl X "isinstance" := by rfl)
    (he : starEach [.Name x p1, .Name y p2] X.env = (false, eval (.Name x p1) X.env) :: starEach [.Name y p2] X.env := by rfl) (he2 : starEach [.Name y p2] X.env = (false, eval (.Name y p2) X.env) :: starEach [] X.env := by rfl) (hpl : (backTo pos (starEach [.Name y p2] X.env)).any (·.1) = false := by rfl) :
    PE X (.Call (.Name "isinstance" p) [.Name x p1, .Name y p2] [] pos) (tA1 a (.bl b)) :=
  PE.imp (pe_callB (call_isP C hz hf hp) hg hm (by decide +kernel) (pa_cons (pe_var (i := 0) hN hv hd hcd) (pa_cons ha pa_nil he2) he) (by decide) (by decide) he hpl) fun σ H Q w => ⟨_, w.1, c, cv, b, rfl, hc, hk, w.2⟩
theorem ge_isR {b : Bool} (C : ExcC X.K D) (hz : Zc (.ref D) none oe) (hf : ∃ vs, oe.data = .fields vs) (hp : (a, oe) ∈ X.pn) (hm : X.mg "isinstance" = none) (hy : ∃ A, X.mg y = some (.ref A) ∧ PySem.W.kitOne X.K (.ref D) (.ref A) = some b) (hN : X.N[0]? = some x)
    (hv : Vis X.env.scope x := by first | exact Or.inl rfl | exact Or.inr (Or.inl rfl) | exact Or.inr (Or.inr rfl)) (hd : (x == ("__debug__" : Str)) = false := by decide) (hcd : (x == ("__classdict__" : Str)) = false := by decide) (hg : Gl X "isinstance" := by rfl) (hgy : Gl X y := by rfl) (hdy : (y == ("__debug__" : Str)) = false := by decide)
    (he : starEach [.Name x p1, .Name y p2] X.env = (false, eval (.Name x p1) X.env) :: starEach [.Name y p2] X.env := by rfl) (he2 : starEach [.Name y p2] X.env = (false, eval (.Name y p2) X.env) :: starEach [] X.env := by rfl) (hpl : (backTo pos (starEach [.Name y p2] X.env)).any (·.1) = false := by rfl) :
    PE X (.Call (.Name "isinstance" p) [.Name x p1, .Name y p2] [] pos) (tA1 a (.bl b)) := by
  obtain ⟨A, h1, h2⟩ := hy
  exact ge_is (c := .ref A) C hz hf hp hm (pe_glob hgy h1 rfl hdy) (fun u z => z) h2 hN hv hd hcd hg he he2 hpl
theorem ge_isV {b : Bool} (C : ExcC X.K D) (hz : Zc (.ref D) none oe) (hf : ∃ vs, oe.data = .fields vs) (hp : (a, oe) ∈ X.pn) (hm : X.mg "isinstance" = none) (hy : X.mg "ValueError" = none) (hk : PySem.W.kitOne X.K (.ref D) (.type "ValueError") = some b) (hN : X.N[0]? = some x)
    (hv : Vis X.env.scope x := by first | exact Or.inl rfl | exact Or.inr (Or.inl rfl) | exact Or.inr (Or.inr rfl)) (hd : (x == ("__debug__" : Str)) = false := by decide) (hcd : (x == ("__classdict__" : Str)) = false := by decide) (hg : Gl X "isinstance" := by rfl) (hgy : Gl X "ValueError" := by rfl)
    (he : starEach [.Name x p1, .Name "ValueError" p2] X.env = (false, eval (.Name x p1) X.env) :: starEach [.Name "ValueError" p2] X.env := by rfl) (he2 : starEach [.Name "ValueError" p2] X.env = (false, eval (.Name "ValueError" p2) X.env) :: starEach [] X.env := by rfl)
    (hpl : (backTo pos (starEach [.Name "ValueError" p2] X.env)).any (·.1) = false := by rfl) : PE X (.Call (.Name "isinstance" p) [.Name x p1, .Name "ValueError" p2] [] pos) (tA1 a (.bl b)) :=
  ge_is (c := .ty "ValueError") C hz hf hp hm (pe_bltn (v := .ty "ValueError") hgy hy (by decide +kernel) rfl) (fun u z => z) hk hN hv hd hcd hg he he2 hpl
variable {e e2 : Expr} {i j : Int} {b : Bool}
theorem ge_int (ha : PE X e (tA1 a (.bl b))) (hm : X.mg "int" = none) (hg : Gl X "int" := by rfl) (he : starEach [e] X.env = (false, eval e X.env) :: starEach [] X.env := by rfl) (hpl : (backTo pos (starEach [] X.env)).any (·.1) = false := by rfl) : PE X (.Call (.Name "int" p) [e] [] pos) (tA1 a (.int (if b then 1 else 0))) :=
  PE.imp (pe_callTy call_int1 hg hm (by decide +kernel) (pa_cons ha pa_nil he) (by decide) (by decide) he hpl) fun σ H Q w => ⟨w.1, .inr ⟨b, rfl, w.2⟩⟩
theorem ge_add (ha : PE X e (tA1 a (.int i))) (hb : PE X e2 (tA1 a (.int j))) : PE X (.BinOp e .Add e2 pos) (tA1 a (.int (i + j))) := PE.imp (pe_op op_add ha hb) fun σ H Q w => ⟨w.1, w.1, i, j, rfl, rfl, w.2⟩
/-- with the sum in slot 1 -/
def tA2 (a : Addr) (i : Int) (v : V) : TE := fun σ H Q => σ[0]? = some (some (.ref a)) ∧ σ[1]? = some (some (.int i)) ∧ Q v H
theorem g2 {v : V} {m : Int} (ha : PE X e (tA1 a v)) : PE X e (tA2 a m v) := PE.imp ha fun σ H Q w => ⟨w.1, w.2.2⟩
theorem g2_var {m : Int} (hN : X.N[1]? = some x) (hv : Vis X.env.scope x := by first | exact Or.inl rfl | exact Or.inr (Or.inl rfl) | exact Or.inr (Or.inr rfl)) (hd : (x == ("__debug__" : Str)) = false := by decide) (hcd : (x == ("__classdict__" : Str)) = false := by decide) : PE X (.Name x p) (tA2 a m (.int m)) :=
  PE.imp (pe_var (i := 1) hN hv hd hcd) fun σ H Q w => ⟨_, w.2.1, w.2.2⟩
theorem g2_add {m : Int} (ha : PE X e (tA2 a m (.int i))) (hb : PE X e2 (tA2 a m (.int j))) : PE X (.BinOp e .Add e2 pos) (tA2 a m (.int (i + j))) := PE.imp (pe_op op_add ha hb) fun σ H Q w => ⟨w.1, w.2.1, w.1, w.2.1, i, j, rfl, rfl, w.2.2⟩
theorem g2_eq1 {m : Int} {k : Nat} (hN : X.N[1]? = some x) (hv : Vis X.env.scope x := by first | exact Or.inl rfl | exact Or.inr (Or.inl rfl) | exact Or.inr (Or.inr rfl)) (hd : (x == ("__debug__" : Str)) = false := by decide) (hcd : (x == ("__classdict__" : Str)) = false := by decide)
    (hm : behindInMarks .Eq (.Constant (.int 1) k p2) = false := by rfl) : PE X (.Compare (.Name x p) [.Eq] [.Constant (.int 1) k p2] pos) (tA2 a m (.bl (decide (V.int m = V.int 1)))) :=
  PE.imp (pe_cmpR op_eq (g2_var hN hv hd hcd) pe_int hm) fun σ H Q w => ⟨w.1, w.2.1, rfl, w.2.2⟩
theorem g2_and {m : Int} {b c : Bool} (ha : PE X e (tA2 a m (.bl b))) (hb : PE X e2 (tA2 a m (.bl c))) : PE X (.BoolOp .And [e, e2] pos) (tA2 a m (.bl (b && c))) :=
  PE.imp (pe_and ha (pe_one hb)) fun σ H Q w => ⟨w.1, w.2.1, b, rfl, by
    cases b with
    | true => exact iteT ⟨w.1, w.2.1, w.2.2⟩
    | false => exact iteF w.2.2⟩
end
/-- m = .. ; m = m + .. ; return .. -/
theorem alone_run {X : Cx} {H : Hp} {e1 e2 e3 : Expr} {a : Addr} {n : Str} {i j : Int} {v : V} {p1 p2 q1 q2 q3 : Pos} (hv : v = .bl true) (hND : X.N.Nodup) (h1 : PE X e1 (tA1 a (.int i))) (h2 : PE X e2 (tA2 a i (.int j))) (h3 : PE X e3 (tA2 a j v)) (hN : X.N[1]? = some n := by rfl) (hst : L2.start X.N [.ref a] = [some (.ref a), none] := by rfl)
    (hx : Loc X.env.scope n := by first | exact Or.inl rfl | exact Or.inr rfl) (hs1 : swapsWith e1 (some (.Name n p1)) q1.line X.env = pure false := by rfl) (hs2 : swapsWith e2 (some (.Name n p2)) q2.line X.env = pure false := by rfl) (hf : X.fn n = true ∨ X.env.scope.names.lookup n = some .local := by first | exact .inl rfl | exact .inr rfl | assumption) :
    ∃ t, PSs X [.Assign [.Name n p1] e1 q1, .Assign [.Name n p2] e2 q2, .Return (some e3) q3] t ∧ ∀ (Q : VK), Q (.bl true) H → t { nx := fun _ H' => Q .non H', rt := Q } (L2.start X.N [.ref a]) H := by
  refine ⟨_, pss_cons (ps_set (i := 1) hND hN hx h1 hs1 hf) (pss_cons (ps_set (i := 1) hND hN hx h2 hs2 hf) (pss_one (ps_ret h3))), fun Q q => ?_⟩
  rw [hst]
  subst hv
  exact ⟨rfl, rfl, rfl, rfl, rfl, q⟩
/-! ### try: .., except x as n: return f(n) -/
def sTryA (names : List Str) (sub : Str → Bool) (i : Nat) (u : CV → Out) : CV → Out := fun ρ => match u ρ with
  | .er c ρ' => if names.contains c then (if sub c then (if i < ρ'.length then .rt (.bool true) .cl ρ' else .no) else .er c ρ') else .no
  | .ex _ => .no
  | o => o
section
variable {X : Cx} {C : Cf} {W : WX} {body : List Stmt} {u : CV → Out} {pos : Pos}
theorem ss_tryA {x n : Str} {cv : Value} {e : Expr} {i : Nat} {np pos' pr : Pos} (names : List Str) (sub : Str → Bool) (hs : X.stack = X.env :: X.outer) (hf : X.env.frame = some X.env.locals) (hc : Names X x cv) (tk : L2N.Takes X W) (hND : X.N.Nodup)
    (hsub : ∀ c A, c ∈ names → C.mg c = some (.ref A) → PySem.W.exmOne X.K (.ref A) cv = some (sub c))
    (hb : ∀ (W : WX) (pn : List (Addr × Obj)) (xe : Value → Shared → Prop), L2N.Takes (X.tr pn xe) W → PassesOwn (model X.prog X.w) X.A X.env xe → PSs (X.tr pn xe) body (tS C W u))
    (hsu : ∀ c A, c ∈ names → sub c = true → C.mg c = some (.ref A) → ∀ (a : Addr) (oe : Obj) (pn : List (Addr × Obj)), Zc (.ref A) none oe → (∃ vs, oe.data = .fields vs) → PE (X.suite a ((a, oe) :: pn)) e (fun σ H Q => σ[i]? = some (some (.ref a)) ∧ Q (.bl true) H))
    (hi : X.N[i]? = some n := by rfl) (hln : X.env.kindOf n = some .local := by rfl) (hob : C.ob = none := by rfl) :
    PS X (.Try body [.ExceptHandler (some (.Name x np)) (some n) [.Return (some e) pr] pos'] [] [] pos) (tS C W (sTryA names sub i u)) :=
  PS.imp (L2N.ps_try_as (tb := fun W => tS C W u) (ts := fun a cls d D σ H => (∃ c A, c ∈ names ∧ sub c = true ∧ C.mg c = some (.ref A) ∧ cls = .ref A ∧ d = none) ∧ σ[i]? = some (some (.ref a)) ∧ D.rt (.bl true) H) hs hf hND hi hln hc tk hb fun a oe cls d pn hz hfl => ⟨fun pins st σ H D inv h => by
    obtain ⟨⟨c, A, h1, h2, h3, rfl, rfl⟩, h4, h5⟩ := h
    exact (pss_one (ps_ret (hsu c A h1 h2 h3 a oe pn hz.zc hfl))).run pins st σ H D inv ⟨h4, h5⟩⟩) fun D' σ H h => by
    obtain ⟨B, P, ρ, hio, re, h⟩ := h
    refine ⟨B, P, ρ, hio, re, ?_⟩
    unfold sTryA at h
    cases eu : u ρ with
    | nx ρ' => rw [eu] at h; exact h
    | rt d m ρ' => rw [eu] at h; exact h
    | bk ρ' => rw [eu] at h; exact h
    | ct ρ' => rw [eu] at h; exact h
    | no => rw [eu] at h; exact h
    | ex c => rw [eu] at h; exact h.elim
    | er c ρ' =>
      rw [eu] at h
      dsimp only at h
      intro A P' σ' H' hm re'
      split at h
      · rename_i hn
        have mem := List.contains_iff_mem.mp hn
        refine ⟨sub c, hsub c A mem hm, fun hs a ha => ?_, fun hs => ?_⟩
        · rw [hs, if_pos rfl] at h
          split at h
          · rename_i hl
            have l := (re'.to0 (hio.ob.trans hob)).len
            exact ⟨⟨c, A, mem, hs, hm, rfl, rfl⟩, List.getElem?_set_self (by omega), h P' σ' H' _ re' (.bl true)⟩
          · exact h.elim
        · rw [hs, if_neg Bool.false_ne_true] at h
          exact h A P' σ' H' hm re'
      · exact h.elim
end
end Eng

set_option Elab.async false
set_option linter.all false
set_option maxRecDepth 100000
set_option maxHeartbeats 1234567
namespace Eng
open PySem PySem.Spec
open PyProof.Rows L2

/-! ### what gen.py writes for classes, recursion and caught errors -/
section
variable {X : Cx} {C : Cf} {W : WX} {c : Obc} {e : Expr} {f : CV → Rs (D × Md)} {pos : Pos}
theorem fldOf {j : Nat} {x fn : Str} (hcls : Cls X.K c.C) (hno : NoAttr X.K c.C fn) (hob : C.ob = some c := by rfl) (hat : c.fs[j]? = some fn := by rfl) (nd : c.fs.Nodup := by decide) (hN : X.N[c.k]? = some x := by rfl) (hv : Vis X.env.scope x := by first | exact Or.inl rfl | exact Or.inr (Or.inl rfl) | exact Or.inr (Or.inr rfl))
    (hd : (x == ("__debug__" : Str)) = false := by decide) (hcd : (x == ("__classdict__" : Str)) = false := by decide) : Fld X C c j x fn := ⟨hob, hcls, hno, hat, nd, hN, hv, hd, hcd⟩
/-- the value where cell i holds something -/
def mNeed (i : Nat) (f : CV → Rs (D × Md)) : CV → Rs (D × Md) := fun ρ => match ρ[i]? with
  | some (.val _) => f ρ
  | some (.own _) => f ρ
  | some (.fz _) => f ρ
  | _ => .no
theorem need_of {i : Nat} {ρ : CV} {x : D × Md} (h : mNeed i f ρ = .ok x) : ∃ z : Cell, ρ[i]? = some z ∧ z ≠ .un := by
  unfold mNeed at h
  cases e : ρ[i]? with
  | none => (rw [e] at h; cases h)
  | some z =>
    refine ⟨z, rfl, fun y => ?_⟩
    subst y
    rw [e] at h
    cases h
theorem need_eq {i : Nat} {ρ : CV} : mNeed i f ρ = f ρ ∨ mNeed i f ρ = .no := by
  unfold mNeed
  cases e : ρ[i]? with
  | none => exact .inr rfl
  | some z => cases z <;> first | exact .inl rfl | exact .inr rfl
theorem se_need (i : Nat) (h : PE X e (tE C W f)) : PE X e (tE C W (mNeed i f)) := PE.imp h fun σ H Q w => by
  obtain ⟨B, P, ρ, hio, re, w⟩ := w
  rcases need_eq (f := f) (i := i) (ρ := ρ) with z | z
  · rw [z] at w
    exact ⟨B, P, ρ, hio, re, w⟩
  · rw [z] at w
    exact w.elim
theorem ss_setFN {j : Nat} {x fn : Str} (F : Fld X C c j x fn) (hw : c.wr = true) {p2 apos : Pos} (ha : PE X e (tE C W f)) (hio2 : C.ios.contains (c.nl + j) = false := by rfl) (hs : swapsWith e (some (.Attribute (.Name x p2) fn apos)) pos.line X.env = pure false := by rfl) (hk : c.fs.length ≤ 900 := by decide) :
    PS X (.Assign [.Attribute (.Name x p2) fn apos] e pos) (tS C W (sSetF (c.nl + j) (mNeed (c.nl + j) f))) :=
  ss_setF F hw (se_need _ ha) hio2 hs hk fun ρ d h => need_of h
theorem lenP {n : Nat} {fa : CV → Rs (List (D × Md))} (h : LenA n fa) : ∀ ρ ds, fa ρ = .ok ds → ds.length + 1 = n + 1 := fun ρ ds e => by rw [h.len ρ ds e]
end
section
variable {P : Program} {w : World} {K : PySem.W.Frag} {mg : Str → Option Value} {base : Heap} {T : List Addr}
/-- a promise of nothing -/
theorem fnOk_no {C : Cf} {n k : Nat} {f : Addr} {fd : FuncData} {ps : List Str} (h : n = ps.length) : FnOk P w K mg base (L2N.CX P w) k f fd ps (spM C n fun _ => .no) := by
  refine ⟨fun vs H Q E z => ?_, fun A outer s H args us vs Q E hr e0 hb r z => ?_⟩
  · obtain ⟨_, _, _, hl, _⟩ := z
    rw [hl, h]
  · obtain ⟨_, _, _, _, _, _, _, _, z⟩ := z
    exact z.elim
theorem CalM.of {cl g : Addr} {fs : List Str} {js : List Nat} {m : Str} {N ps : List Str} {np k : Nat} {M : CV → CV → RF} {fd : FuncData} (h : FnOk P w K mg base (L2N.CX P w) k g fd ps (spO (metC K T mg cl fs js N.length) N np M)) (me : Meth K cl m g) (b : L2.Binds K fd ps []) : CalM P w K mg base T cl fs js m N np k M := ⟨g, fd, ps, h, me, b⟩
theorem CalP.of {cl g : Addr} {fs : List Str} {m : Str} {N ps : List Str} {np k : Nat} {M : CV → CV → RF} {fd : FuncData} (h : FnOk P w K mg base (L2N.CX P w) k g fd ps (spO (metP K T mg cl fs N.length) N np M)) (me : Meth K cl m g) (b : L2.Binds K fd ps []) : CalP P w K mg base T cl fs m N np k M := ⟨g, fd, ps, h, me, b⟩
end

/-! ### _law_alone -/
abbrev sixE : List Str := ["NoWord", "NoTelling", "Clash", "NoPart", "NoTree", "TooMuch"]
def KitE (K : PySem.W.Frag) (mg : Str → Option Value) (D : Addr) (n : Str) (b : Bool) : Prop := ∃ A, mg n = some (.ref A) ∧ PySem.W.kitOne K (.ref D) (.ref A) = some b
structure Lone (K : PySem.W.Frag) (mg : Str → Option Value) (c : Str) : Prop where
  ex : ∃ D, mg c = some (.ref D) ∧ ExcC K D ∧ PySem.W.kitOne K (.ref D) (.type "ValueError") = some true ∧ KitE K mg D "NoWord" (decide (c = "NoWord")) ∧ KitE K mg D "NoTelling" (decide (c = "NoTelling")) ∧ KitE K mg D "Clash" (decide (c = "Clash")) ∧ KitE K mg D "NoPart" (decide (c = "NoPart")) ∧
    KitE K mg D "NoTree" (decide (c = "NoTree")) ∧ KitE K mg D "TooMuch" (decide (c = "TooMuch"))
def bi (b : Bool) : Int := if b then 1 else 0
theorem lone_sum : ∀ c ∈ sixE, bi (decide (c = "NoWord")) + bi (decide (c = "NoTelling")) + bi (decide (c = "Clash")) + bi (decide (c = "NoPart")) + bi (decide (c = "NoTree")) + bi (decide (c = "TooMuch")) = 1 := by
  decide +kernel
/-- a def asked with the caught error, as its callers know it -/
structure CalA (P : Program) (w : World) (K : PySem.W.Frag) (mg : Str → Option Value) (base : Heap) (x : Str) (k : Nat) (names : List Str) : Prop where
  ex : ∃ (f : Addr) (fd : FuncData) (y : Str), mg x = some (.ref f) ∧ PySem.W.keepIn K (.ref f) = true ∧ Binds K fd [y] [] ∧ ∀ c ∈ names, ∀ D, mg c = some (.ref D) → FnA P w K mg base k f fd [y] D (.bl true)
section
variable {X : Cx} {C : Cf} {W : WX} {body : List Stmt} {u : CV → Out} {pos : Pos}
theorem ss_tryAlone {x n g : Str} {i k k' : Nat} {np pos' pr p1 p2 p3 : Pos} (names : List Str) (sub : Str → Bool) (E : Clause X.K X.mg x names sub) (G : CalA X.prog X.w X.K X.mg X.base g k names) (hr : Room k' X.A) (tk : L2N.Takes X W) (hND : X.N.Nodup)
    (hb : ∀ (W : WX) (pn : List (Addr × Obj)) (xe : Value → Shared → Prop), L2N.Takes (X.tr pn xe) W → PassesOwn (model X.prog X.w) X.A X.env xe → PSs (X.tr pn xe) body (tS C W u))
    (hkk : k ≤ k' := by decide) (hmg : X.mg = C.mg := by rfl) (hs : X.stack = X.env :: X.outer := by rfl) (hf : X.env.frame = some X.env.locals := by rfl) (hg : Gl X x := by rfl) (hdb : (x == ("__debug__" : Str)) = false := by decide) (hi : X.N[i]? = some n := by rfl) (hln : X.env.kindOf n = some .local := by rfl) (hob : C.ob = none := by rfl)
    (hv : Vis X.env.scope n := by first | exact Or.inl rfl | exact Or.inr (Or.inl rfl) | exact Or.inr (Or.inr rfl)) (hgg : Gl X g := by rfl) (hdg : (g == ("__debug__" : Str)) = false := by decide) (hd : (n == ("__debug__" : Str)) = false := by decide) (hcd : (n == ("__classdict__" : Str)) = false := by decide)
    (he : starEach [.Name n p2] X.env = (false, eval (.Name n p2) X.env) :: starEach [] X.env := by rfl) (hpl : (backTo p3 (starEach [] X.env)).any (·.1) = false := by rfl) :
    PS X (.Try body [.ExceptHandler (some (.Name x np)) (some n) [.Return (some (.Call (.Name g p1) [.Name n p2] [] p3)) pr] pos'] [] [] pos) (tS C W (sTryA names sub i u)) := by
  obtain ⟨cv, gx, hx⟩ := E
  obtain ⟨f, fd, y, g1, g2, g3, g4⟩ := G.ex
  refine ss_tryA names sub hs hf ⟨hg, hdb, .inl gx⟩ tk hND (fun c A hc hm => hx c A hc (by rw [hmg]; exact hm)) hb (fun c A hc _ hm a oe pn hz hfl => ?_) hi hln hob
  exact pe_callA (g4 c hc A (by rw [hmg]; exact hm)) ⟨(hr.mono hkk).dp, (hr.mono hkk).un⟩ List.mem_cons_self hz hfl g1 g2 g3 hi (Nat.le_refl _) hv hgg hdg hd hcd he hpl
end
end Eng

set_option Elab.async false
set_option linter.all false
set_option maxRecDepth 100000
set_option maxHeartbeats 1234567
namespace Eng
open PySem PySem.Spec
open PyProof.Rows L2

/-! ### recursion: j calls of one level each over the room k -/
structure RoomR (j k : Nat) (A : Around) : Prop where
  hd : A.handled = none
  dp : A.depth + j + 3 * k + 5 < recursionLimit
  un : A.units + 3 * j + 16 * k + 200 < cLine
theorem RoomR.room {j k : Nat} {A : Around} (r : RoomR j k A) : Room k A := ⟨r.hd, by have := r.dp; omega, by have := r.un; omega⟩
theorem RoomR.down {j k : Nat} {A : Around} (r : RoomR (j + 1) k A) (env : Env) : RoomR j k (A.deeper env) :=
  ⟨r.hd, by have := r.dp; show (A.depth + 1) + j + 3 * k + 5 < _; omega, by have := r.un; show (A.units + 3) + 3 * j + 16 * k + 200 < _; omega⟩
theorem RoomR.of {j k i : Nat} {A : Around} (r : Room i A) (h : j + 3 * k ≤ 3 * i) : RoomR j k A := ⟨r.hd, by have := r.dp; omega, by have := r.un; omega⟩
structure FnR (P : Program) (w : World) (K : PySem.W.Frag) (mg : Str → Option Value) (base : Heap) (CX : CXT) (j k : Nat) (f : Addr) (fd : FuncData) (ps : List Str) (sp : Sp) : Prop where
  len : ∀ vs H q x, sp vs H q x → vs.length = ps.length
  run : ∀ (A : Around) (outer : List Env) (s : Shared) (H : Hp) (args : Args) (us : List Value) (vs : List V) (q : VK) (x : XK), RoomR j k A → Env0 P w K mg base A outer s H → BindsTo s fd args (ps.zip us) → Vals vs us → sp vs H q x →
    codeAny (model P w) A (.call (.ref f) args) (CR CX outer P w H s q x) s
section
variable {P : Program} {w : World} {K : PySem.W.Frag} {mg : Str → Option Value} {base : Heap} {T : List Addr}
theorem FnR.ok {CX : CXT} {i j k : Nat} {f : Addr} {fd : FuncData} {ps : List Str} {sp : Sp} (F : FnR P w K mg base CX j k f fd ps sp) (h : j + 3 * k ≤ 3 * i) : FnOk P w K mg base CX i f fd ps sp :=
  ⟨F.len, fun A outer s H args us vs Q E r => F.run A outer s H args us vs Q E (.of r h)⟩
theorem fnR_no {C : Cf} {n j k : Nat} {f : Addr} {fd : FuncData} {ps : List Str} (h : n = ps.length) : FnR P w K mg base (L2N.CX P w) j k f fd ps (spM C n fun _ => .no) := by
  refine ⟨fun vs H Q E z => ?_, fun A outer s H args us vs Q E hr e0 hb r z => ?_⟩
  · obtain ⟨_, _, _, hl, _⟩ := z
    rw [hl, h]
  · obtain ⟨_, _, _, _, _, _, _, _, z⟩ := z
    exact z.elim
theorem fn_okR {C : Cf} {x qual : Str} {st : Stmt} {f : Addr} {fd : FuncData} {N ps : List Str} {j k : Nat} {b : CV → Out} (F : Fun K x qual st f fd) (S : FnScope N ps (defScope st)) (hn : ps.length ≤ N.length)
    (body : ∀ (cdv : Value) (A : Around) (outer : List Env) (s : Shared) (H : Hp) (E : XK), RoomR j k (A.deeper (envOfC qual (defScope st) s.heap.objs.size f cdv)) →
      PSs (cxOf (L2N.CX P w) P w K mg base N qual (defScope st) f cdv A outer s H E) (defBody st) (tS C (fun cls d _ H => E cls d H) b)) (hob : C.ob = none := by rfl) :
    FnR P w K mg base (L2N.CX P w) (j + 1) k f fd ps (spM C ps.length (runB N.length b)) := by
  obtain ⟨oc, od, kV, doc, pm, an, cdv, ct, osl, rfl, lk, hcd⟩ := (F.ex)
  constructor
  · rintro vs H Q E ⟨_, _, _, hl, _⟩
    exact hl
  intro A outer s H args us vs Q E room e0 bnd r want
  have len : vs.length = ps.length := by
    obtain ⟨_, _, _, hl, _⟩ := id want
    exact hl
  have kin := e0.mod.kin.keeps fun b u z => (e0.bs b u z).1
  have nolim := e0.mod.nolimit.keeps fun b u z => (e0.bs b u z).1
  have kinds : ∀ z ∈ ps.zip us, (defScope st).names.lookup z.1 = some .local ∨ ((defScope st).names.lookup z.1 = some .cell ∧ ((cellsFrom (s.heap.objs.size + 1) (defScope st).names []).lookup z.1).isSome = true) := by
    rintro ⟨n, u⟩ hz
    exact (S.par n (List.of_mem_zip hz).1).imp id fun c => ⟨c, PySem.W.cellsFrom_some _ _ _ (.inl c)⟩
  have depth : A.depth < recursionLimit := by have := room.dp; omega
  apply codeAny_call_function depth (kin _ _ lk) rfl S.co S.gen rfl (PySem.W.codeRec_of kin hcd) (bnd _ _ _ _ ?_)
  apply wpAny_newFunctionEnv_cells S.kind kinds
  rintro env rfl s1 ic
  refine ⟨nolim.keeps ic.toInCall.keep, codeAny_func ?_⟩
  have inv : Inv (cxOf (L2N.CX P w) P w K mg base N qual (defScope st) f cdv A outer s H E) [] (L2.start N vs) H s1 := inv_start S room.hd e0 len r ic
  apply wpAny_mono ((body cdv A outer s H E (room.down _)).run [] s1 _ H _ inv (body_read hob hn want)) _ fun _ _ z => z
  intro fl s2 z
  have done : ∀ {σ2 : St} {H2 : Hp} {y : V} {u : Value}, Inv (cxOf (L2N.CX P w) P w K mg base N qual (defScope st) f cdv A outer s H E) [] σ2 H2 s2 → RelV y u → Q y H2 → CE outer P w H s Q u s2 := fun J r q2 => ⟨_, _, J.os, J.bare, J.base, J.hok, r, q2⟩
  cases fl with
  | next =>
    obtain ⟨_, _, J, q2⟩ := z
    exact done (y := .non) (u := Value.none) J rfl q2
  | ret u =>
    obtain ⟨_, _, _, J, r, q2⟩ := z
    exact done J r q2
  | brk => exact z.choose_spec.choose_spec.2.elim
  | cont => exact z.choose_spec.choose_spec.2.elim
/-- as their callers know them, among themselves -/
structure CalR (P : Program) (w : World) (K : PySem.W.Frag) (mg : Str → Option Value) (base : Heap) (T : List Addr) (x : Str) (n j k : Nat) (ios : List Nat) (M : CV → RF) : Prop where
  ex : ∃ (f : Addr) (fd : FuncData) (ps : List Str), FnR P w K mg base (L2N.CX P w) j k f fd ps (spM { K := K, T := T, mg := mg, ios := ios } n M) ∧ mg x = some (.ref f) ∧ PySem.W.keepIn K (.ref f) = true ∧ L2.Binds K fd ps []
theorem CalR.of {x qual : Str} {st : Stmt} {f : Addr} {fd : FuncData} {n j k : Nat} {ios : List Nat} {M : CV → RF} {ps : List Str} (F : Fun K x qual st f fd) (hm : mg x = some (.ref f)) (hb : L2.Binds K fd ps []) (h : FnR P w K mg base (L2N.CX P w) j k f fd ps (spM { K := K, T := T, mg := mg, ios := ios } n M)) : CalR P w K mg base T x n j k ios M := ⟨f, fd, ps, h, hm, F.kp, hb⟩
theorem CalR.cal {x : Str} {n i j k : Nat} {M : CV → RF} (G : CalR P w K mg base T x n j k [] M) (h : j + 3 * k ≤ 3 * i) : Cal P w K mg base T x n i M := by
  obtain ⟨f, fd, ps, h1, h2, h3, h4⟩ := G.ex
  exact ⟨f, fd, ps, h1.ok h, h2, h3, h4⟩
theorem CalR.calIo {x : Str} {n i j k : Nat} {ios : List Nat} {M : CV → RF} (G : CalR P w K mg base T x n j k ios M) (h : j + 3 * k ≤ 3 * i) : CalIo P w K mg base T x n i ios M := by
  obtain ⟨f, fd, ps, h1, h2, h3, h4⟩ := G.ex
  exact ⟨f, fd, ps, h1.ok h, h2, h3, h4⟩
end
section
variable {X : Cx} {CX : CXT} {j k : Nat} {f : Addr} {fd : FuncData} {ps : List Str} {sp : Sp} {E : St → XK} {x : Str} {q pos : Pos} {e : Expr} {es : List Expr} {t : TA}
theorem pe_callR (F : FnR X.prog X.w X.K X.mg X.base CX j k f fd ps sp) (hr : RoomR j k X.A) (hg : Gl X x) (hm : X.mg x = some (.ref f)) (hk : PySem.W.keepIn X.K (.ref f) = true) (hb : L2.Binds X.K fd ps []) (hx : ∀ σ, PassesAt CX X σ (E σ))
    (ha : PA X (e :: es) t) (hdb : (x == ("__debug__" : Str)) = false) (he : starEach (e :: es) X.env = (false, eval e X.env) :: starEach es X.env) (hpl : (backTo pos (starEach es X.env)).any (·.1) = false) : PE X (.Call (.Name x q) (e :: es) [] pos) (tCallS sp E t) := by
  constructor
  intro pins st σ H Q inv want
  apply wpAny_Call_Name_kw (ld_glob inv hg hm ?_ hdb)
  apply PySem.W.callWith_K (h₀ := X.base) inv.ok.mod.kin hk (thn (ha.run pos pins st σ H _ inv want) ?_) he hpl
  rintro us s1 ⟨vs, H1, J, r, go⟩
  refine ⟨J.kIn, ?_⟩
  have len : us.length = ps.length := r.length.symm.trans (F.len _ _ _ _ go)
  have b := hb s1 us J.kIn (by simpa using len)
  rw [List.append_nil] at b
  apply wpAny_call (codeAny_mono (F.run X.A X.stack s1 H1 ⟨us, []⟩ us vs Q (E σ) hr J.env0 b r go) _)
  intro z s2 hz
  cases z with
  | error u => exact hx σ pins H1 s1 u s2 J hz
  | ok fl =>
    cases fl <;> first | exact J.after hz | exact hz.elim
end
section
variable {X : Cx} {C : Cf} {W : WX} {e : Expr} {es : List Expr} {fa : CV → Rs (List (D × Md))} {fi : CV → Rs (List Arg)} {pos p : Pos}
theorem se_callR {x : Str} {j k n : Nat} {M : CV → RF} (G : CalR X.prog X.w X.K X.mg X.base C.T x n j k [] M) (hr : RoomR j k X.A) (tk : L2N.Takes X W) (ha : PA X (e :: es) (tA C W fa)) (hl : LenA n fa) (hC : { C with ios := [], ob := none } = { K := X.K, T := C.T, mg := X.mg, ios := [], ob := none : Cf } := by rfl)
    (hg : Gl X x := by rfl) (hdb : (x == ("__debug__" : Str)) = false := by decide) (he : starEach (e :: es) X.env = (false, eval e X.env) :: starEach es X.env := by rfl) (hpl : (backTo pos (starEach es X.env)).any (·.1) = false := by rfl) : PE X (.Call (.Name x p) (e :: es) [] pos) (tE C W (mCall M fa)) := by
  obtain ⟨f, fd, ps, h1, h2, h3, h4⟩ := G.ex
  rw [← hC] at h1
  exact PE.imp (pe_callR (E := WE W) h1 hr hg h2 h3 h4 (fun σ => L2N.passAt tk σ) ha hdb he hpl) fun σ H Q w => call_core w hl.len
theorem sx_callR {x : Str} {j k n : Nat} {ios : List Nat} {M : CV → RF} (G : CalR X.prog X.w X.K X.mg X.base C.T x n j k ios M) (hr : RoomR j k X.A) (tk : L2N.Takes X W) (ha : PA X (e :: es) (tAI C W fi)) (hl : LenI n fi) (hC : { C with ios := ios, ob := none } = { K := X.K, T := C.T, mg := X.mg, ios := ios : Cf } := by rfl) (hob : C.ob = none := by rfl)
    (hg : Gl X x := by rfl) (hdb : (x == ("__debug__" : Str)) = false := by decide) (he : starEach (e :: es) X.env = (false, eval e X.env) :: starEach es X.env := by rfl) (hpl : (backTo pos (starEach es X.env)).any (·.1) = false := by rfl) : PE X (.Call (.Name x p) (e :: es) [] pos) (tX C (mCallIo ios M fi)) := by
  obtain ⟨f, fd, ps, h1, h2, h3, h4⟩ := G.ex
  rw [← hC] at h1
  exact PE.imp (pe_callR (E := WE W) h1 hr hg h2 h3 h4 (fun σ => L2N.passAt tk σ) ha hdb he hpl) fun σ H Q w => callIo_core w hl hob
end
/-! ### facts of the text -/
theorem kit_ne {K : PySem.W.Frag} {D C : Addr} {b : Bool} (hne : (D == C) = false) (hd : PySem.W.hasDictIn K C = true) (ht : PySem.W.typeIn K (.ref C) = some (.type "type")) (h : PySem.W.subIn K (.ref D) (.ref C) = some b) : PySem.W.kitOne K (.ref D) (.ref C) = some b := by
  obtain ⟨cd, hc, _⟩ := PySem.W.any_some hd
  have n : ((Value.ref D) == (Value.ref C)) = false := beq_eq_false_iff_ne.mpr fun z => (beq_eq_false_iff_ne.mp hne) (Value.ref.inj z)
  have y : ((PySem.W.clsIn K C).isSome && PySem.W.typeIn K (.ref C) == some (.type "type")) = true := by rw [hc, ht] <;> rfl
  unfold PySem.W.kitOne PySem.W.kitCls
  rw [n]
  (simp only [Bool.false_eq_true, if_false])
  rw [if_pos y]
  exact h
theorem kit_eq {K : PySem.W.Frag} {D : Addr} : PySem.W.kitOne K (.ref D) (.ref D) = some true := by
  unfold PySem.W.kitOne
  (rw [if_pos (beq_self_eq_true _)])
theorem kit_VE {K : PySem.W.Frag} {D : Addr} (h : PySem.W.subIn K (.ref D) (.type "ValueError") = some true) : PySem.W.kitOne K (.ref D) (.type "ValueError") = some true := by
  unfold PySem.W.kitOne PySem.W.kitCls
  rw [if_neg (by simp)]
  show (if PySem.W.kitMeta "ValueError" = true then _ else _) = _
  rw [if_pos (by decide +kernel)]
  exact h
end Eng

set_option Elab.async false
set_option linter.all false
set_option maxRecDepth 100000
set_option maxHeartbeats 1234567
namespace Eng
open PySem PySem.Spec
open PyProof.Rows L2

/-! ### == of data of which one side is shallow -/
def hEqW (x y : D × Md) : Option Bool := if scD x.1 y.1 = true then some (eqS x.1 y.1) else if x.1.canLay0 = true ∧ y.1.canLay0 = true ∧ min x.1.depth y.1.depth ≤ 64 then some (PyData.eqv x.1 y.1) else none
def hNeW (x y : D × Md) : Option Bool := (hEqW x y).map (!·)
def rEqR (K : PySem.W.Frag) : R2 := fun x y H Q => ∃ d e, Dp K H x d ∧ Dp K H y e ∧ (d.canLay0 = true ∧ e.canLay0 = true ∧ min d.depth e.depth ≤ 64) ∧ Q (.bl (PyData.eqv d e)) H
def rNeR (K : PySem.W.Frag) : R2 := fun x y H Q => ∃ d e, Dp K H x d ∧ Dp K H y e ∧ (d.canLay0 = true ∧ e.canLay0 = true ∧ min d.depth e.depth ≤ 64) ∧ Q (.bl (!PyData.eqv d e)) H
theorem op_eqR {X : Cx} (hu : X.A.units + 64 < cLine) : OpR X (compareOp .Eq) (rEqR X.K) := by
  rintro pins s σ H x y v u Q inv rx ry ⟨d, e, hd, he, ⟨c1, c2, c3⟩, q⟩
  obtain ⟨_, r1⟩ := Dp.reads inv d x v hd rx
  obtain ⟨_, r2⟩ := Dp.reads inv e y u he ry
  exact SeqAt.compareEq_reads r1 r2 c1 c2 (by omega) ⟨.bl _, H, inv, rfl, q⟩
theorem op_neR {X : Cx} (hu : X.A.units + 64 < cLine) : OpR X (compareOp .NotEq) (rNeR X.K) := by
  rintro pins s σ H x y v u Q inv rx ry ⟨d, e, hd, he, ⟨c1, c2, c3⟩, q⟩
  obtain ⟨_, r1⟩ := Dp.reads inv d x v hd rx
  obtain ⟨_, r2⟩ := Dp.reads inv e y u he ry
  exact SeqAt.compareNe_reads r1 r2 c1 c2 (by omega) ⟨.bl _, H, inv, rfl, q⟩
def rEq3 (K : PySem.W.Frag) : R2 := fun x y H Q => rEq x y H Q ∨ rEqR K x y H Q
def rNe3 (K : PySem.W.Frag) : R2 := fun x y H Q => rNe x y H Q ∨ rNeR K x y H Q
theorem op_eqW {X : Cx} (hu : X.A.units + 64 < cLine) : OpR X (compareOp .Eq) (rEq3 X.K) := op_eq.or (op_eqR hu)
theorem op_neW {X : Cx} (hu : X.A.units + 64 < cLine) : OpR X (compareOp .NotEq) (rNe3 X.K) := op_ne.or (op_neR hu)
theorem ok_eqW {C : Cf} : CmpOk C (rEq3 C.K) hEqW := by
  rintro Pm H x y ⟨dx, mx⟩ ⟨dy, my⟩ k Q l ox oy e q
  unfold hEqW at e; dsimp only at e ox oy
  split at e
  · rename_i h
    cases e
    obtain ⟨h1, h2⟩ := sc_v ox oy h
    exact .inl ⟨h1, by rw [h2]; exact q⟩
  · split at e
    · rename_i h
      cases e
      exact .inr ⟨dx, dy, ox.dp, oy.dp, h, q⟩
    · cases e
theorem ok_neW {C : Cf} : CmpOk C (rNe3 C.K) hNeW := by
  rintro Pm H x y ⟨dx, mx⟩ ⟨dy, my⟩ k Q l ox oy e q
  unfold hNeW at e
  obtain ⟨b, e0, hb⟩ := Option.map_eq_some_iff.mp e
  subst hb
  clear e
  unfold hEqW at e0; dsimp only at e0 ox oy
  split at e0
  · rename_i h
    cases e0
    obtain ⟨h1, h2⟩ := sc_v ox oy h
    exact .inl ⟨h1, by rw [h2]; exact q⟩
  · split at e0
    · rename_i h
      cases e0
      exact .inr ⟨dx, dy, ox.dp, oy.dp, h, q⟩
    · cases e0
/-- an empty list, on the right -/
theorem eqW_nil {ds : List D} {m m2 : Md} (h : PyData.canLayAll0 ds = true) : hEqW (.list ds, m) (.list [], m2) = some ds.isEmpty := by
  have d0 : (PyData.list []).depth ≤ 64 := by simp [PyData.depth, PyData.depthAll]
  unfold hEqW
  dsimp only
  rw [if_neg (by simp [scD]), if_pos ⟨by simpa only [PyData.canLay0] using h, by simp [PyData.canLay0, PyData.canLayAll0], by omega⟩]
  cases ds with
  | nil => simp [PyData.eqv, PyData.eqvAll]
  | cons d ds => simp [PyData.eqv, PyData.eqvAll]
theorem neW_nil {ds : List D} {m m2 : Md} (h : PyData.canLayAll0 ds = true) : hNeW (.list ds, m) (.list [], m2) = some (!ds.isEmpty) := by
  unfold hNeW
  rw [eqW_nil h]
  rfl
theorem le_line5 {n : Nat} (h : n ≤ 100000) : n ≤ sizeLine := by
  rw [sizeLine_eq]
  omega
end Eng

set_option Elab.async false
set_option linter.all false
set_option maxRecDepth 100000
/-! Eng33: tests that change lists (`if not f(xs)`, `if a or not f(xs)`), try with two clauses. -/
namespace Eng
open PySem PySem.Spec
open PyProof.Rows L2
section
variable (C : Cf)
def XTR (σ : St) (B : Bs) (P : List Addr) (Q : Bool → Hp → Prop) : Rs (Bool × CV) → Prop
  | .ok (b, ρ') => ∀ H', RE C.K C.T B P H' σ ρ' → Q b H'
  | .er _ => False
  | .no => False
def tXT (f : CV → Rs (Bool × CV)) : TT := fun σ H Q => ∃ B P ρ, Lk B C ∧ RE C.K C.T B P H σ ρ ∧ XTR C σ B P Q (f ρ)
end
def mBoolX (fx : CV → Rs (D × CV)) : CV → Rs (Bool × CV) := fun ρ => match fx ρ with
  | .ok (.bool b, ρ') => .ok (b, ρ')
  | _ => .no
def mNotX (t : CV → Rs (Bool × CV)) : CV → Rs (Bool × CV) := fun ρ => match t ρ with
  | .ok (b, ρ') => .ok (!b, ρ')
  | _ => .no
def mOrX (t : CV → Rs Bool) (u : CV → Rs (Bool × CV)) : CV → Rs (Bool × CV) := fun ρ => match t ρ with
  | .ok true => .ok (true, ρ)
  | .ok false => u ρ
  | _ => .no
def sIfX (t : CV → Rs (Bool × CV)) (u w : CV → Out) : CV → Out := fun ρ => match t ρ with
  | .ok (true, ρ') => u ρ'
  | .ok (false, ρ') => w ρ'
  | _ => .no
/-- names: the errors that may come; sub1, sub2: which of them the clauses take -/
def sTry2 (names : List Str) (sub1 sub2 : Str → Bool) (u w1 w2 : CV → Out) : CV → Out := fun ρ => match u ρ with
  | .er c ρ' => if names.contains c then (if sub1 c then (match w1 ρ' with | .er _ _ => .no | .ex _ => .no | o => o) else if sub2 c then (match w2 ρ' with | .er _ _ => .no | .ex _ => .no | o => o) else .er c ρ') else .no
  | .ex _ => .no
  | o => o
section
variable {X : Cx} {C : Cf} {W : WX} {e a b : Expr} {es : List Expr} {st : Stmt} {body sa sb : List Stmt} {t : CV → Rs Bool} {tx ux : CV → Rs (Bool × CV)} {u w w1 w2 : CV → Out} {fx : CV → Rs (D × CV)} {pos : Pos}
theorem stx_val (ha : PE X e (tX C fx)) (he : ∀ whole, isTrue e X.env whole = (do let v ← whole; standAt e.pos; holding [v] (truthy v)) := by intro _; rfl) : PT X e (tXT C (mBoolX fx)) :=
  PT.imp (pt_val ha he) fun σ H Q h => by
    obtain ⟨B, P, ρ, hio, re, h⟩ := h
    refine ⟨B, P, ρ, hio, re, ?_⟩
    unfold mBoolX at h
    cases ef : fx ρ with
    | er c => rw [ef] at h; exact h.elim
    | no => rw [ef] at h; exact h.elim
    | ok y =>
      obtain ⟨d, ρ'⟩ := y
      rw [ef] at h
      cases d <;> try exact h.elim
      rename_i k
      intro v H1 re1 tv
      cases tv
      exact ⟨k, rfl, h H1 re1⟩
theorem stx_not (ha : PT X a (tXT C tx)) : PT X (.UnaryOp .Not a pos) (tXT C (mNotX tx)) :=
  PT.imp (pt_not ha) fun σ H Q h => by
    obtain ⟨B, P, ρ, hio, re, h⟩ := h
    refine ⟨B, P, ρ, hio, re, ?_⟩
    unfold mNotX at h
    cases ef : tx ρ with
    | er c => rw [ef] at h; exact h.elim
    | no => rw [ef] at h; exact h.elim
    | ok y =>
      rw [ef] at h
      exact h
theorem stx_or (ha : PT X a (tT C W t)) (hb : PT X b (tXT C ux)) : PT X (.BoolOp .Or [a, b] pos) (tXT C (mOrX t ux)) :=
  PW.pt (PW.imp (pw_or ha (pw_or1 hb)) fun σ H Q h => by
    obtain ⟨B, P, ρ, hio, re, h⟩ := h
    refine ⟨B, P, ρ, hio, re, ?_⟩
    unfold mOrX at h
    cases ef : t ρ with
    | er c => rw [ef] at h; exact h.elim
    | no => rw [ef] at h; exact h.elim
    | ok k =>
      rw [ef] at h
      intro H1 s tb
      cases k with
      | true => exact iteT (h H1 (re.sm s tb))
      | false => exact iteF ⟨B, P, ρ, hio, re.sm s tb, h⟩)
theorem ss_ifX {c : Expr} (hc : PT X c (tXT C tx)) (ha : PSs X sa (tS C W u)) (hb : PSs X sb (tS C W w)) : PS X (.If c sa sb pos) (tS C W (sIfX tx u w)) := PS.imp (ps_if hc ha hb) fun D σ H h => by
  obtain ⟨B, P, ρ, hio, re, h⟩ := h
  refine ⟨B, P, ρ, hio, re, ?_⟩
  unfold sIfX at h
  cases ef : tx ρ with
  | er c => rw [ef] at h; exact h.elim
  | no => rw [ef] at h; exact h.elim
  | ok y =>
    obtain ⟨k, ρ'⟩ := y
    rw [ef] at h
    intro H1 re1
    cases k with
    | true => exact iteT ⟨B, P, ρ', hio, re1, h⟩
    | false => exact iteF ⟨B, P, ρ', hio, re1, h⟩
theorem ss_tryV2 {x y : Str} {b₀ c₀ : Stmt} {s1 s2 : List Stmt} {np p1 nq p2 : Pos} (names : List Str) (sub1 sub2 : Str → Bool) (E1 : Clause X.K X.mg x names sub1) (E2 : Clause X.K X.mg y names sub2) (tk : L2N.Takes X W)
    (hb : ∀ (W : WX) (pn : List (Addr × Obj)) (xe : Value → Shared → Prop), L2N.Takes (X.tr pn xe) W → PassesOwn (model X.prog X.w) X.A X.env xe → PSs (X.tr pn xe) body (tS C W u))
    (hs1 : ∀ (a : Addr) (oe : Obj) (cls : Value) (d : Option Addr) (pn : List (Addr × Obj)), L2N.Zn cls d oe → (∃ vs, oe.data = .fields vs) → PSs (X.suite a ((a, oe) :: pn)) (b₀ :: s1) (tS C W0 w1))
    (hs2 : ∀ (a : Addr) (oe : Obj) (cls : Value) (d : Option Addr) (pn : List (Addr × Obj)), L2N.Zn cls d oe → (∃ vs, oe.data = .fields vs) → PSs (X.suite a ((a, oe) :: pn)) (c₀ :: s2) (tS C W0 w2))
    (hmg : X.mg = C.mg := by rfl) (hs : X.stack = X.env :: X.outer := by rfl) (hf : X.env.frame = some X.env.locals := by rfl) (hg1 : Gl X x := by rfl) (hg2 : Gl X y := by rfl) (hd1 : (x == ("__debug__" : Str)) = false := by decide) (hd2 : (y == ("__debug__" : Str)) = false := by decide) :
    PS X (.Try body [.ExceptHandler (some (.Name x np)) none (b₀ :: s1) p1, .ExceptHandler (some (.Name y nq)) none (c₀ :: s2) p2] [] [] pos) (tS C W (sTry2 names sub1 sub2 u w1 w2)) := by
  obtain ⟨cv1, g1, h1⟩ := E1
  obtain ⟨cv2, g2, h2⟩ := E2
  refine PS.imp (L2N.ps_try_many (tb := fun W => tS C W u) hs hf tk hb (.cons (ts := fun _ _ _ => tS C W0 w1) ⟨hg1, hd1, .inl g1⟩ hs1 (.cons (ts := fun _ _ _ => tS C W0 w2) ⟨hg2, hd2, .inl g2⟩ hs2 .nil))) fun D' σ H h => ?_
  obtain ⟨B, P, ρ, hio, re, h⟩ := h
  refine ⟨B, P, ρ, hio, re, ?_⟩
  unfold sTry2 at h
  cases eu : u ρ with
  | nx ρ' => rw [eu] at h; exact h
  | rt d m ρ' => rw [eu] at h; exact h
  | bk ρ' => rw [eu] at h; exact h
  | ct ρ' => rw [eu] at h; exact h
  | no => rw [eu] at h; exact h
  | ex c => rw [eu] at h; exact h.elim
  | er c ρ' =>
    rw [eu] at h
    dsimp only at h
    intro A P' σ' H' hm re'
    by_cases hn : names.contains c = true
    · rw [if_pos hn] at h
      have hc := List.contains_iff_mem.mp hn
      have k1 := h1 c A hc (by rw [hmg]; exact hm)
      have k2 := h2 c A hc (by rw [hmg]; exact hm)
      refine ⟨sub1 c, k1, fun hs a ha => ?_, fun hs => ⟨sub2 c, k2, fun hs2 a ha => ?_, fun hs2 => ?_⟩⟩
      · rw [hs, if_pos rfl] at h
        exact ⟨B, P', ρ', hio, re', SR_w0 h⟩
      · rw [hs, if_neg Bool.false_ne_true, hs2, if_pos rfl] at h
        exact ⟨B, P', ρ', hio, re', SR_w0 h⟩
      · rw [hs, if_neg Bool.false_ne_true, hs2, if_neg Bool.false_ne_true] at h
        exact h A P' σ' H' hm re'
    · rw [if_neg hn] at h
      exact h.elim
end
end Eng

set_option Elab.async false
set_option linter.all false
set_option maxRecDepth 100000
set_option maxHeartbeats 2345678
/-! Eng34: for x in TEXT: t = t.replace(x, f" {x} "). -/
namespace Eng
open PySem PySem.Spec
open PyProof.Rows L2
/-! what two readings of one store tell together -/
theorem nsSet_both {M : Model} {Γ : PySem.Ctx} {E : Value → Pos → Shared → Prop} {p : Pos} {s : Shared} {a : Addr} {m : Str → Option Value} {name : Str} {v : Value} {Q1 Q2 : Unit → Pos → Shared → Prop} (hn : s.heap.Ns a m)
    (h1 : Sem.wp M Γ (nsSet a name v) Q1 E p s) (h2 : Sem.wp M Γ (nsSet a name v) Q2 E p s) : Sem.wp M Γ (nsSet a name v) (fun u p s => Q1 u p s ∧ Q2 u p s) E p s := by
  obtain ⟨o, es, ep, ho, hd, hk, _⟩ := hn
  have noRef : es.any (·.refKey) = false := by
    rw [Array.any_eq_false']
    intro e he
    obtain ⟨n, t, h⟩ := hk e he
    simp [DictEntry.refKey, h]
  simp only [Sem.wp_cmd_ask, nsSet, Sem.wp_cmd_mkText, Sem.wp_bind', Sem.wp_pure', strHash] at h1 h2 ⊢
  rw [Sem.wp_loadPart_of M Γ E p { s with toks := s.toks + 1 } (o := o) _ ho] at h1 h2 ⊢
  simp only [hd, noRef, Bool.and_false, aRefKeyMayBeTheName_eq, aRefKeyMayBeTheNameByArray, Bool.false_eq_true, Sem.wp_cmd_updatePart, if_false] at h1 h2 ⊢
  exact ⟨h1.1, h1.2, h2.2⟩
theorem storeName_both {M : Model} {A : Around} {E : Value → Shared → Prop} {s : Shared} {env : Env} {name : Str} {m : Str → Option Value} {v : Value} {Q1 Q2 : Unit → Shared → Prop} (hl : env.kindOf name = some .local) (hn : s.heap.Ns env.locals m)
    (hp : (env.scope.kind == .class || (env.scope.kind == .module && env.locals != env.globals)) = false) (h1 : wpAny M A (storeName env name v) Q1 E s) (h2 : wpAny M A (storeName env name v) Q2 E s) :
    wpAny M A (storeName env name v) (fun u s' => Q1 u s' ∧ Q2 u s') E s := by
  intro Γ p hΓ
  have a := h1 Γ p hΓ
  have b := h2 Γ p hΓ
  rw [storeName_local hl hp] at a b ⊢
  exact nsSet_both hn a b
/-! the loop -/
def sp1 (c : Nat) : Str := Str.empty ++ (" " : Str) ++ ⟨#[c]⟩ ++ (" " : Str)
def rep1 (a : Str) (c : Nat) : Str := Txt.replace a ⟨#[c]⟩ (sp1 c)
def RepOk : List Nat → Str → Prop
  | [], _ => True
  | c :: cs, a => a.length + (a.length + 1) * 3 ≤ 16777216 ∧ RepOk cs (rep1 a c)
def repSt (i j : Nat) : List Nat → L2.St → Str → L2.St
  | [], σ, _ => σ
  | c :: cs, σ, a => repSt i j cs ((σ.set j (some (.str ⟨#[c]⟩))).set i (some (.str (rep1 a c)))) (rep1 a c)
def tForRep (i j : Nat) (z : Str) : TS := fun D σ H => ∃ a, σ[i]? = some (some (.str a)) ∧ RepOk z.cps.toList a ∧ D.nx (repSt i j z.cps.toList σ a) H
theorem sp1_len (c : Nat) : (sp1 c).length = 3 := rfl
theorem sp1_ne (c : Nat) : ((⟨#[c]⟩ : Str) == sp1 c) = false := by
  refine beq_eq_false_iff_ne.mpr fun e => ?_
  have : (1 : Nat) = 3 := congrArg Str.length e
  cases this
theorem thnT {α : Type} {t : Sem α} {Q Q' : α → Shared → Prop} {M : Model} {A : Around} {E : Value → Shared → Prop} {s : Shared} (h : wpAny M A t Q E s) (hQ : ∀ a s', s.toks ≤ s'.toks → Q a s' → Q' a s') : wpAny M A t Q' E s :=
  wpAny_mono (PySem.wpAny_toks h) (fun a s' q => hQ a s' q.1 q.2) fun _ _ z => z.2
section
variable {X : Cx} {i j k1 k2 : Nat} {t x : Str} {e : Expr} {z : Str} {tg q1 q2 q3 q4 q5 q6 q7 q8 q9 q10 q11 pos : Pos}
theorem pst_forRep (hp : PassesOwn (model X.prog X.w) X.A X.env X.xe) (hc : X.calm = true) (he : PE X e (tC (.str z))) (ha : z.cps.all (· < 128) = true) (hN : X.N.Nodup) (hi : X.N[i]? = some t) (hj : X.N[j]? = some x) (hij : i ≠ j)
    (ht : X.env.kindOf t = some .local) (hx : X.env.kindOf x = some .local)
    (hs : ∀ y, foldedSetIterable e X.env y = pure y := by intro _; rfl) (dt : (t == ("__debug__" : Str)) = false := by decide) (dx : (x == ("__debug__" : Str)) = false := by decide) (ct : (t == ("__classdict__" : Str)) = false := by decide) (cx : (x == ("__classdict__" : Str)) = false := by decide)
    (hbase : attributeBase (.Name t q2) "replace" X.env (eval (.Name t q2) X.env) = eval (.Name t q2) X.env := by rfl) (hline : (q3.endLine == q10.line) = true := by rfl)
    (hst : starEach [.Name x q4, .JoinedStr [.Constant (.str " ") k1 q5, .FormattedValue (.Name x q6) (-1) none q7, .Constant (.str " ") k2 q8] q9] X.env = [(false, eval (.Name x q4) X.env), (false, eval (.JoinedStr [.Constant (.str " ") k1 q5, .FormattedValue (.Name x q6) (-1) none q7, .Constant (.str " ") k2 q8] q9) X.env)] := by rfl)
    (hsw : swapsWith (.Call (.Attribute (.Name t q2) "replace" q3) [.Name x q4, .JoinedStr [.Constant (.str " ") k1 q5, .FormattedValue (.Name x q6) (-1) none q7, .Constant (.str " ") k2 q8] q9] [] q10) (some (.Name t q1)) q11.line X.env = pure false := by rfl) :
    PST X (.For (.Name x tg) e [.Assign [.Name t q1] (.Call (.Attribute (.Name t q2) "replace" q3) [.Name x q4, .JoinedStr [.Constant (.str " ") k1 q5, .FormattedValue (.Name x q6) (-1) none q7, .Constant (.str " ") k2 q8] q9] [] q10) q11] [] pos) (tForRep i j z) := by
  intro pins s σ H D h0 I h
  have vt : Vis X.env.scope t := .inl ht
  have vx : Vis X.env.scope x := .inl hx
  refine wpAny_For (thnT (he.run pins s σ H (fun v H' => v = .str z ∧ H' = H) I ⟨rfl, rfl⟩) fun v s1 hk q => ?_) hs
  obtain ⟨y, H1, I1, r1, ey, eH⟩ := q
  subst ey eH
  obtain ⟨tz, rfl⟩ := r1
  refine wpAny_pyIter_ascii ha ?_
  generalize hit : s1.heap.objs.size = it
  obtain ⟨a0, hσ0, hrep0, hnx⟩ := h
  have T := turn_str (P := X.prog) (w := X.w) (K := X.K) (tg := .Name x tg) it z tz "str_ascii_iterator" (.inl rfl)
  have I2 : Inv X pins σ H1 { s1 with heap := s1.heap.push { cls := .type "str_ascii_iterator", data := .fields #[.str z tz, .int 0 0] } } := I1.kept (t' := s1.toks) fun b o e => Heap.get?_push_of_some _ e
  have fp : FpOk X pins H1 it := by
    rw [← hit]
    (exact I1.fpOk (Nat.le_refl _) (I1.hok.fresh (Nat.le_refl _)))
  have fpl : ∀ b ∈ [it], FpOk X pins H1 b := fun b hb => by
    rw [List.mem_singleton.mp hb]
    exact fp
  obtain ⟨f0, f1, f2, f3, f4, f5⟩ := id fp
  refine codeAny_forLoop_any (fun n s' => ∃ (k : Nat) (σ' : L2.St) (a : Str), Inv X pins σ' H1 s' ∧ s'.heap.IsStrIter it "str_ascii_iterator" z tz k ∧ 1 ≤ s'.toks ∧ n = z.cps.size - k ∧ k ≤ z.cps.size ∧ σ'[i]? = some (some (.str a)) ∧ RepOk (z.cps.toList.drop k) a ∧ D.nx (repSt i j (z.cps.toList.drop k) σ' a) H1) ?_ z.cps.size
    ⟨0, σ, a0, I2, ⟨_, by rw [← hit]; exact Heap.get?_push_size _ rfl, rfl, rfl⟩, Nat.le_trans h0 hk, rfl, Nat.zero_le _, hσ0, hrep0, hnx⟩
  rintro n s3 ⟨k, σ3, a, I3, st3, ht3, hn3, hkz, hσ3, hrep, hgo⟩
  by_cases hlt : k < z.cps.size
  · have hx3 : z.cps[k]? = some z.cps[k] := by simp [hlt]
    generalize z.cps[k] = c at hx3
    have hd3 : z.cps.toList.drop k = c :: z.cps.toList.drop (k + 1) := by
      have g : z.cps.toList[k]? = some c := by simpa using hx3
      obtain ⟨hk2, e2⟩ := List.getElem?_eq_some_iff.mp g
      rw [List.drop_eq_getElem_cons hk2, e2]
    rw [hd3] at hrep hgo
    obtain ⟨hlen, hrep⟩ := hrep
    refine wpAny_passesOwn hp (wpAny_pyNext_ascii_item st3 hx3 fun h4 st4 sb4 => ?_)
    have I4 : Inv X pins σ3 H1 { s3 with heap := h4, toks := s3.toks + 1 } := I3.turned (fun b o hb e => (sb4.2 b hb).trans e) f0 f1 f3 f4 f5
    obtain ⟨o4, g4, c4, d4⟩ := id st4
    refine wpAny_passesOwn hp (go_of (s := { s3 with heap := h4, toks := s3.toks + 1 }) g4 c4 d4 (by decide) ?_)
    have I5 := I4.pinned fpl (T.obj _ _ st4)
    obtain ⟨m5, ns5, _⟩ := id I5.loc
    have hcls : (X.env.scope.kind == .class || (X.env.scope.kind == .module && X.env.locals != X.env.globals)) = false := by rw [I5.ok.kind]; rfl
    refine wpAny_passesOwn hp (wpAny_assign_Name (thnT (storeName_both (Q1 := fun _ s' => Inv X (pins ++ pinsAt [it] h4) (σ3.set j (some (.str ⟨#[c]⟩))) H1 s') (Q2 := fun _ s' => (∃ m, s'.heap.Ns X.env.locals m ∧ m x = some (.str ⟨#[c]⟩ s3.toks)) ∧ s'.toks = s3.toks + 2) hx ns5 hcls
      (store_ok (v := .str ⟨#[c]⟩) I5 hN hj (.inl hx) ⟨_, rfl⟩ (fun s' I' => I') (.inr hx)) (wpAny_storeName_local hx ns5 (fun h' hn' _ => ⟨⟨_, hn', by simp⟩, rfl⟩) hcls)) fun _ s6 _ q6 => ?_))
    obtain ⟨I6, ⟨m6, ns6, hm6⟩, tk6⟩ := q6
    have hσ6 : (σ3.set j (some (.str ⟨#[c]⟩)))[i]? = some (some (.str a)) := by
      rw [List.getElem?_set_ne (Ne.symm hij)]
      exact hσ3
    have hjl : j < σ3.length := by
      rw [I5.len]
      exact (List.getElem?_eq_some_iff.mp hj).1
    have hσj : (σ3.set j (some (.str ⟨#[c]⟩)))[j]? = some (some (.str ⟨#[c]⟩)) := List.getElem?_set_self hjl
    refine wpAny_passesOwn hp (wpAny_execs_cons (wpAny_Assign_Name (PySem.Call_method2 hbase hst hline (raw_name hi vt I6 hσ6 (fun u ru => ?_) dt ct)) hsw))
    obtain ⟨ta, rfl⟩ := ru
    (refine ⟨"str", _, PySem.F.plainAttrs_str, PySem.F.slot_str_replace, PySem.F.type_str_replace, typeIs_str _ _ _, (fun _ e => nomatch e), Calls.callWith_builtin rfl (Calls.evalArgs_plain (Calls.spliced_cons ?_))⟩)
    refine wpAny_Name (wpAny_loadName_local I6.ok.kind hx ns6 hm6 ?_) dx
    refine Calls.spliced_cons (thnT (Q := fun (v : Value) (s'' : Shared) => ∃ tk, v = .str (sp1 c) tk ∧ s''.toks = tk + 1 ∧ Inv X (pins ++ pinsAt [it] h4) (σ3.set j (some (.str ⟨#[c]⟩))) H1 s'') (wpAny_JoinedStr (pj_run (ts := [tC (.str " "), tFmt (tVar j), tC (.str " ")]) (.cons pe_str (.cons (pe_fmt (pe_var hj vx dx cx)) (.cons pe_str .nil))) Str.empty s6 H1 (fun out H' => out = sp1 c ∧ H' = H1)
      (fun out s' => out.length ≤ sizeLine ∧ ((fun (v : Value) (s'' : Shared) => ∃ tk, v = .str (sp1 c) tk ∧ s''.toks = tk + 1 ∧ Inv X (pins ++ pinsAt [it] h4) (σ3.set j (some (.str ⟨#[c]⟩))) H1 s'') (Value.str out s'.toks) { s' with toks := s'.toks + 1 })) (Nat.zero_le _) I6 ?_ fun out s' H' hz' I' q' => ?_)) fun v s7 hk7 q7 => ?_)
    · refine ⟨" ", rfl, by rw [sizeLine_eq]; decide, ?_⟩
      refine ⟨_, hσj, .inl ⟨⟨#[c]⟩, rfl, by rw [sizeLine_eq]; exact (by decide : (1 : Nat) ≤ 16777216), ?_⟩⟩
      refine ⟨⟨#[c]⟩, rfl, ?_, ?_⟩
      · rw [sizeLine_eq]; exact (by decide : (2 : Nat) ≤ 16777216)
      · refine ⟨" ", rfl, ?_, rfl, rfl⟩
        rw [sizeLine_eq]; exact (by decide : (3 : Nat) ≤ 16777216)
    · obtain ⟨rfl, rfl⟩ := q'
      exact ⟨hz', _, rfl, rfl, I'.tok _⟩
    · obtain ⟨tk, rfl, htk, I7⟩ := q7
      refine Calls.spliced_nil ?_
      have n1 : ¬ s3.toks = 0 := by omega
      have g3 : s3.toks < tk := by omega
      have g2 : 0 < tk := Nat.lt_of_le_of_lt (Nat.zero_le _) g3
      have n2 := Nat.ne_of_gt g2
      have n3 := Nat.ne_of_lt g3
      refine thnT (Q := fun v s' => ∃ t' kk, v = Value.str (rep1 a c) t' ∧ s' = { s7 with toks := kk }) (PySem.SC.replace n1 n2 n3 (sp1_ne c) (by rw [sp1_len]; exact hlen) fun t' kk => ⟨t', kk, rfl, rfl⟩) fun v s9 hk9 q9 => ?_
      obtain ⟨t', kk, rfl, rfl⟩ := q9
      refine thnT (Q := fun (_ : Unit) s' => Inv X (pins ++ pinsAt [it] h4) ((σ3.set j (some (.str ⟨#[c]⟩))).set i (some (.str (rep1 a c)))) H1 s') (store_ok (v := .str (rep1 a c)) (I7.tok kk) hN hi (.inl ht) ⟨t', rfl⟩ (fun s' I' => I') (.inr ht)) fun _ s8 hk8 I8 => ?_
      have hk9 : s7.toks ≤ kk := hk9
      have hk8 : kk ≤ s8.toks := hk8
      have il : i < (σ3.set j (some (.str ⟨#[c]⟩))).length := by
        rw [I6.len]
        exact (List.getElem?_eq_some_iff.mp hi).1
      refine wpAny_execs_nil ⟨z.cps.size - (k + 1), by omega, k + 1, _, rep1 a c, I8.unpinned, ?_, by omega, rfl, hlt, List.getElem?_set_self il, hrep, hgo⟩
      have g8 := (I8.pin (it, o4) (List.mem_append_right _ (List.mem_append_right _ (mem_pinsAt (List.mem_singleton.mpr rfl) g4)))).1
      exact ⟨o4, g8, c4, d4⟩
  · have hk3 : k = z.cps.size := by omega
    have hx3 : z.cps[k]? = none := Array.getElem?_eq_none (by omega)
    have hd3 : z.cps.toList.drop k = [] := List.drop_of_length_le (by simp; omega)
    rw [hd3] at hgo
    refine wpAny_passesOwn hp (wpAny_pyNext_ascii_end (I3.ok.hd hc) st3 hx3 fun h4 eb => ?_)
    exact wpAny_execs_nil ⟨σ3, H1, I3.turned (t' := s3.toks) (fun b o hb e => eb b o hb e) f0 f1 f3 f4 f5, hgo⟩
end
/-! a def of one parameter and no cells: a token is out where its body begins -/
theorem cells_none : ∀ (ns : List (Str × NameKind)) (n : Nat), (∀ x ∈ ns, x.2 ≠ .cell) → cellsFrom n ns [] = []
  | [], _, _ => rfl
  | (a, b) :: r, n, h => by
    have hb : (b == NameKind.cell) = false := by
      have := h (a, b) List.mem_cons_self
      cases b <;> first | rfl | exact absurd rfl this
    unfold cellsFrom
    (rw [hb, if_neg Bool.false_ne_true])
    exact cells_none r n fun x hx => h x (List.mem_cons_of_mem _ hx)
theorem fn_of1 {P : Program} {w : World} {K : PySem.W.Frag} {mg : Str → Option Value} {base : Heap} {k : Nat} {f : Addr} {name qual p : Str} {params : Arguments} {body : List Stmt} {scope : Scope} {dV kV doc pm cdv ct oc : Value} {an od : Option Addr}
    {osl : Array (Option Value)} {N : List Str} {sp : Sp} (lk : K.lookup f = some ⟨oc, od, .func (PySem.W.fnOf name qual params body scope dV kV doc pm an cdv ct), osl⟩) (hcd : PySem.W.codeIn K cdv qual = true) (S : FnScope N [p] scope)
    (hloc : scope.names.lookup p = some .local) (hnc : ∀ x ∈ scope.names, x.2 ≠ .cell) (len : ∀ vs H Q E, sp vs H Q E → vs.length = 1)
    (hbody : ∀ (A : Around) (fr : List Env) (s : Shared) (H : Hp) (vs : List V) (R : VK) (E : XK), Room k (A.deeper (envOfC qual scope s.heap.objs.size f cdv)) → sp vs H R E →
      ∃ t, PSsT (cxOf (L2N.CX P w) P w K mg base N qual scope f cdv A fr s H E) body t ∧ t { nx := fun _ H' => R .non H', rt := R } (start N vs) H) :
    FnOk P w K mg base (L2N.CX P w) (k + 1) f (PySem.W.fnOf name qual params body scope dV kV doc pm an cdv ct) [p] sp := by
  (refine ⟨len, fun A outer s H args us vs Q E hr e0 hb r hsp => ?_⟩)
  have hl := len _ _ _ _ hsp
  have inK : K.In s.heap := e0.mod.kin.keeps fun b o e => (e0.bs b o e).1
  have nol : s.heap.NoLimit := e0.mod.nolimit.keeps fun b o e => (e0.bs b o e).1
  have cf := cells_none scope.names (s.heap.objs.size + 1) hnc
  obtain ⟨u, rfl⟩ : ∃ u, us = [u] := by
    have lu : us.length = 1 := by rw [← r.length]; exact hl
    exact List.length_eq_one_iff.mp lu
  refine codeAny_call_function hr.depth (inK _ _ lk) rfl S.co S.gen rfl (PySem.W.codeRec_of inK hcd) (hb _ _ _ _ ?_)
  refine wpAny_newFunctionEnv hnc (fun y hy => ?_) (fun h1 hn sb => ?_) S.kind
  · have : y = (p, u) := by simpa using hy
    rw [this]
    exact hloc
  have keep : ∀ b o, s.heap.get? b = some o → h1.get? b = some o := fun b o e =>
    (sb.2 b (Nat.ne_of_lt (Heap.lt_size e))).trans (Heap.get?_push_of_some _ e)
  have x : InCallC s s.heap.objs.size (bindL (envOfC qual scope s.heap.objs.size f cdv).kindOf ([p].zip [u]) fun _ => none) (cellsFrom (s.heap.objs.size + 1) scope.names []) (bindC (envOfC qual scope s.heap.objs.size f cdv).kindOf ([p].zip [u]) fun _ => none) { s with heap := h1, toks := s.toks + 1 } := by
    rw [cf]
    refine ⟨⟨⟨_, _, rfl⟩, ?_, keep, Nat.le_refl _⟩, fun n c e => (by cases e), List.Pairwise.nil, fun n c e => absurd e List.not_mem_nil⟩
    have fe : (bindL (envOfC qual scope s.heap.objs.size f cdv).kindOf ([p].zip [u]) fun _ => none) = fun y => ([(p, u)] : List (Str × Value)).reverse.lookup y := by
      funext y
      have hk : (envOfC qual scope s.heap.objs.size f cdv).kindOf p = some .local := hloc
      show (if (envOfC qual scope s.heap.objs.size f cdv).kindOf p = some .local then (fun z => if z = p then some u else none) else fun _ => none) y = _
      rw [if_pos hk]
      show (if y = p then some u else none) = List.lookup y [(p, u)]
      unfold List.lookup
      by_cases hy : y = p
      · rw [if_pos hy, hy]
        simp
      · have hb : (y == p) = false := beq_eq_false_iff_ne.mpr hy
        rw [if_neg hy, hb]
        rfl
    rw [fe]
    exact hn
  have I : Inv (cxOf (L2N.CX P w) P w K mg base N qual scope f cdv A outer s H E) [] (start N vs) H { s with heap := h1, toks := s.toks + 1 } := inv_start S hr.hd e0 hl r x
  have ee : ∀ g q fu c b, newEnv scope s.heap.objs.size g [] q fu c none b = newEnv scope s.heap.objs.size g (cellsFrom (s.heap.objs.size + 1) scope.names []) q fu c none b := fun _ _ _ _ _ => by rw [cf]
  rw [ee]
  refine ⟨nol.keeps keep, codeAny_func ?_⟩
  obtain ⟨t, ht, hq⟩ := (hbody A outer s H vs Q E (hr.deeper _) hsp)
  refine wpAny_mono (ht [] _ (start N vs) H _ (Nat.le_add_left 1 _) I hq) (fun fl s2 hs => ?_) fun _ _ z => z
  have fin : ∀ {σ' : L2.St} {H' : Hp} {v : V} {u : Value}, Inv (cxOf (L2N.CX P w) P w K mg base N qual scope f cdv A outer s H E) [] σ' H' s2 → RelV v u → Q v H' → CE outer P w H s Q u s2 :=
    fun {_ H' v _} J rv q => ⟨v, H', J.os, J.bare, J.base, J.hok, rv, q⟩
  cases fl with
  | next =>
    obtain ⟨_, _, J, q⟩ := hs
    (exact fin (v := V.non) (u := Value.none) J rfl q)
  | ret u =>
    obtain ⟨_, _, _, J, rv, q⟩ := hs
    exact fin J rv q
  | cont => exact hs.elim fun _ q => q.elim fun _ q => False.elim q.2
  | brk => exact hs.elim fun _ q => q.elim fun _ q => False.elim q.2
/-! its mirror -/
def repOkB : List Nat → Str → Bool
  | [], _ => true
  | c :: cs, a => decide (a.length + (a.length + 1) * 3 ≤ 16777216) && repOkB cs (rep1 a c)
theorem repOk_of : ∀ {cs : List Nat} {a : Str}, repOkB cs a = true → RepOk cs a
  | [], _, _ => trivial
  | c :: cs, a, h => by
    unfold repOkB at h
    (rw [Bool.and_eq_true, decide_eq_true_eq] at h)
    exact ⟨h.1, repOk_of h.2⟩
def repCV (i j : Nat) : List Nat → CV → Str → CV
  | [], ρ, _ => ρ
  | c :: cs, ρ, a => repCV i j cs ((ρ.set j (.val (.str ⟨#[c]⟩))).set i (.val (.str (rep1 a c)))) (rep1 a c)
def sForRep (i j : Nat) (z : Str) : CV → Out := fun ρ => match ρ[i]? with
  | some (.val (.str a)) => if repOkB z.cps.toList a = true then .nx (repCV i j z.cps.toList ρ a) else .no
  | _ => .no
section
variable {X : Cx} {C : Cf} {W : WX} {i j k1 k2 : Nat} {t x : Str} {e : Expr} {z : Str} {u : CV → Out} {rest : List Stmt} {tg q1 q2 q3 q4 q5 q6 q7 q8 q9 q10 q11 pos : Pos}
theorem re_rep {B : Bs} {P : List Addr} {H : Hp} (hi : ¬ B.ro i) (hj : ¬ B.ro j) : ∀ (cs : List Nat) {σ : L2.St} {ρ : CV} {a : Str}, RE C.K C.T B P H σ ρ → RE C.K C.T B P H (repSt i j cs σ a) (repCV i j cs ρ a)
  | [], _, _, _, r => r
  | _ :: cs, _, _, _, r => re_rep hi hj cs ((r.setVal hj (.str _)).setVal hi (.str _))
theorem ss_forRep (hp : PassesOwn (model X.prog X.w) X.A X.env X.xe) (hc : X.calm = true) (i j : Nat) (hN : X.N.Nodup) (he : PE X e (tC (.str z))) (hrest : PSs X rest (tS C W u)) (ha : z.cps.all (· < 128) = true := by decide +kernel) (hi : X.N[i]? = some t := by rfl) (hj : X.N[j]? = some x := by rfl) (hij : i ≠ j := by decide)
    (ht : X.env.kindOf t = some .local := by rfl) (hx : X.env.kindOf x = some .local := by rfl) (hlc : C.lc i = true := by rfl) (hoi : C.ro i = false := by rfl) (hoj : C.ro j = false := by rfl)
    (hs : ∀ y, foldedSetIterable e X.env y = pure y := by intro _; rfl) (dt : (t == ("__debug__" : Str)) = false := by decide) (dx : (x == ("__debug__" : Str)) = false := by decide) (ct : (t == ("__classdict__" : Str)) = false := by decide) (cx : (x == ("__classdict__" : Str)) = false := by decide)
    (hbase : attributeBase (.Name t q2) "replace" X.env (eval (.Name t q2) X.env) = eval (.Name t q2) X.env := by rfl) (hline : (q3.endLine == q10.line) = true := by rfl)
    (hst : starEach [.Name x q4, .JoinedStr [.Constant (.str " ") k1 q5, .FormattedValue (.Name x q6) (-1) none q7, .Constant (.str " ") k2 q8] q9] X.env = [(false, eval (.Name x q4) X.env), (false, eval (.JoinedStr [.Constant (.str " ") k1 q5, .FormattedValue (.Name x q6) (-1) none q7, .Constant (.str " ") k2 q8] q9) X.env)] := by rfl)
    (hsw : swapsWith (.Call (.Attribute (.Name t q2) "replace" q3) [.Name x q4, .JoinedStr [.Constant (.str " ") k1 q5, .FormattedValue (.Name x q6) (-1) none q7, .Constant (.str " ") k2 q8] q9] [] q10) (some (.Name t q1)) q11.line X.env = pure false := by rfl) :
    PSsT X (.For (.Name x tg) e [.Assign [.Name t q1] (.Call (.Attribute (.Name t q2) "replace" q3) [.Name x q4, .JoinedStr [.Constant (.str " ") k1 q5, .FormattedValue (.Name x q6) (-1) none q7, .Constant (.str " ") k2 q8] q9] [] q10) q11] [] pos :: rest) (tS C W (sSeq (sForRep i j z) u)) := by
  intro pins s σ H D h0 I h
  refine psst_cons (pst_forRep hp hc he ha hN hi hj hij ht hx hs dt dx ct cx hbase hline hst hsw) (PSsT.of hrest) pins s σ H D h0 I ?_
  obtain ⟨B, P, ρ, hb, re, h⟩ := h
  unfold sSeq sForRep at h
  cases g : ρ[i]? with
  | none => rw [g] at h; exact h.elim
  | some c =>
    cases c with
    | un => rw [g] at h; exact h.elim
    | own ds => rw [g] at h; exact h.elim
    | fz d => rw [g] at h; exact h.elim
    | val d =>
      cases d <;> (rw [g] at h; try exact h.elim)
      rename_i a
      obtain ⟨v, e1, tr⟩ := re.val (hb.lc hlc) g
      cases tr
      by_cases ok : repOkB z.cps.toList a = true
      · have h : SR C W D B (oSeq (if repOkB z.cps.toList a = true then .nx (repCV i j z.cps.toList ρ a) else .no) u) := h
        rw [if_pos ok] at h
        exact ⟨a, e1, repOk_of ok, B, P, _, hb, re_rep (not_io hb hoi) (not_io hb hoj) _ re, h⟩
      · have h : SR C W D B (oSeq (if repOkB z.cps.toList a = true then .nx (repCV i j z.cps.toList ρ a) else .no) u) := h
        rw [if_neg ok] at h
        exact h.elim
end
/-- a def of one parameter, no cells -/
theorem fn_ok1 {P : Program} {w : World} {base : Heap} {K : PySem.W.Frag} {mg : Str → Option Value} {C : Cf} {x qual p : Str} {st : Stmt} {f : Addr} {fd : FuncData} {N : List Str} {k : Nat} {b : CV → Out} (F : Fun K x qual st f fd) (S : FnScope N [p] (defScope st)) (hn : 1 ≤ N.length)
    (hloc : (defScope st).names.lookup p = some .local) (hnc : ∀ x ∈ (defScope st).names, x.2 ≠ .cell)
    (body : ∀ (cdv : Value) (A : Around) (outer : List Env) (s : Shared) (H : Hp) (E : XK), Room k (A.deeper (envOfC qual (defScope st) s.heap.objs.size f cdv)) →
      PSsT (cxOf (L2N.CX P w) P w K mg base N qual (defScope st) f cdv A outer s H E) (defBody st) (tS C (fun cls d _ H => E cls d H) b)) (hob : C.ob = none := by rfl) :
    FnOk P w K mg base (L2N.CX P w) (k + 1) f fd [p] (spM C 1 (runB N.length b)) := by
  obtain ⟨oc, od, kV, doc, pm, an, cdv, ct, osl, rfl, lk, hcd⟩ := (F.ex)
  refine fn_of1 lk hcd S hloc hnc (fun vs H Q E h => ?_) fun A outer s H vs Q E hr h => ⟨_, body cdv A outer s H E hr, body_read hob hn h⟩
  obtain ⟨B, P, args, hl, _⟩ := h
  exact hl
theorem pe_globS {X : Cx} {x : Str} {z : Str} {pos : Pos} (hm : ∃ t, X.mg x = some (.str z t)) (hg : Gl X x := by rfl) (hd : (x == ("__debug__" : Str)) = false := by decide) : PE X (.Name x pos) (tC (.str z)) := by
  obtain ⟨t, hm⟩ := hm
  exact pe_glob hg hm (v := .str z) ⟨t, rfl⟩ hd
end Eng

set_option Elab.async false
set_option linter.all false
set_option maxRecDepth 100000
/-! Eng35: for x in xs: if TEST: raise (or return), over a list of its own that stays its own. -/
namespace Eng
open PySem PySem.Spec
open PyProof.Rows L2
def forO (j : Nat) (t : CV → Rs Bool) (u : CV → Out) : List D → CV → Out
  | [], ρ => .nx ρ
  | d :: ds, ρ => match t (ρ.set j (.val d)) with
    | .ok true => (match u (ρ.set j (.val d)) with
      | .er c ρ' => .er c ρ'
      | .rt d m ρ' => .rt d m ρ'
      | _ => .no)
    | .ok false => forO j t u ds (ρ.set j (.val d))
    | .er c => .er c (ρ.set j (.val d))
    | .no => .no
def sForO (j k : Nat) (t : CV → Rs Bool) (u : CV → Out) : CV → Out := fun ρ => match ρ[k]? with
  | some (.own ds) => forO j t u ds ρ
  | _ => .no
section
variable {X : Cx} {C : Cf} {W : WX} {x y : Str} {c : Expr} {sa : List Stmt} {t : CV → Rs Bool} {u : CV → Out} {p2 p3 p4 pos : Pos}
theorem ss_forO (j k : Nat) (hp : PassesOwn (model X.prog X.w) X.A X.env X.xe) (hc : X.calm = true) (hN : X.N.Nodup) (hcnd : PT X c (tT C W t)) (hra : PSs X sa (tS C W u)) (hj : X.N[j]? = some x := by rfl) (hk : X.N[k]? = some y := by rfl) (hjk : j ≠ k := by decide)
    (hx : Loc X.env.scope x := by first | exact Or.inl rfl | exact Or.inr rfl) (hy : Vis X.env.scope y := by first | exact Or.inl rfl | exact Or.inr (Or.inl rfl) | exact Or.inr (Or.inr rfl)) (hlc : C.lc k = true := by rfl) (hio : C.ro j = false := by rfl) (hf : X.fn x = true ∨ X.env.scope.names.lookup x = some .local := by first | exact .inl rfl | exact .inr rfl | assumption)
    (hd : (y == ("__debug__" : Str)) = false := by decide) (hcd : (y == ("__classdict__" : Str)) = false := by decide) (hs : ∀ z, foldedSetIterable (.Name y p3) X.env z = pure z := by intro _; rfl) :
    PS X (.For (.Name x p2) (.Name y p3) [.If c sa [] p4] [] pos) (tS C W (sForO j k t u)) :=
  PS.imp (ps_for hp hc (pi_list (pe_var hk hy hd hcd)) (pg_name hN hj hx hf) (pss_one (ps_if hcnd hra pss_nil)) hs) fun D' σ H h => by
    obtain ⟨B, P, ρ, hb, re, h⟩ := h
    have hj' : ¬ B.ro j := hb.ro hio
    unfold sForO at h
    cases g : ρ[k]? with
    | none => rw [g] at h; exact h.elim
    | some cell =>
      cases cell with
      | un => rw [g] at h; exact h.elim
      | val d => rw [g] at h; exact h.elim
      | fz d => rw [g] at h; exact h.elim
      | own ds =>
        rw [g] at h
        dsimp only at h
        obtain ⟨p, vs, e1, _, _, e2, _⟩ := re.own (hb.lc hlc) g
        refine ⟨.ref p, e1, p, rfl, ⟨vs, SqL.of e2⟩, ?_⟩
        refine ⟨fun i m σ' H' => m = ds.length - i ∧ i ≤ ds.length ∧ ∃ ρ', RE C.K C.T B P H' σ' ρ' ∧ σ'[k]? = some (some (.ref p)) ∧ ρ'[k]? = some (.own ds) ∧ SR C W D' B (forO j t u (ds.drop i) ρ'), ⟨ds.length, by simp, Nat.zero_le _, ρ, re, e1, g, h⟩, ?_⟩
        rintro i m σ' H' ⟨rfl, hi, ρ', re', s1, g', h'⟩
        obtain ⟨p', vs', e1', _, _, e2', tr'⟩ := re'.own (hb.lc hlc) g'
        have ep : p' = p := by
          rw [s1] at e1'
          cases e1'
          rfl
        subst ep
        by_cases hlt : i < ds.length
        · have e := List.getElem?_eq_getElem hlt
          have ed : ds.drop i = ds[i] :: ds.drop (i + 1) := List.drop_eq_getElem_cons hlt
          obtain ⟨v, ev, tv⟩ := tr'.get e
          rw [ed] at h'
          generalize ds[i] = d at e tv h'
          refine .inr ⟨⟨vs', v, SqL.of e2', ev⟩, fun σ2 H2 => ∃ ρ2, RE C.K C.T B P H2 σ2 ρ2 ∧ σ2[k]? = some (some (.ref p')) ∧ ρ2[k]? = some (.own ds) ∧ SR C W D' B (forO j t u (ds.drop (i + 1)) ρ2), fun σ2 H2 hN => ⟨ds.length - (i + 1), by omega, rfl, hlt, hN⟩, fun x H2 y => ?_⟩
          obtain ⟨rfl, y⟩ := y
          have ex := y vs' (SqL.of e2')
          rw [ev] at ex
          cases ex
          have re2 := re'.setVal hj' tv
          have s2 : (σ'.set j (some v))[k]? = some (some (.ref p')) := by rw [List.getElem?_set_ne hjk]; exact s1
          have g2 : (ρ'.set j (.val d))[k]? = some (.own ds) := by rw [List.getElem?_set_ne hjk]; exact g'
          refine ⟨B, P, ρ'.set j (.val d), hb, re2, ?_⟩
          unfold forO at h'
          cases eo : t (ρ'.set j (.val d)) with
          | er c => rw [eo] at h'; exact fun A H3 hm s tb => h' A P _ H3 hm (re2.sm s tb)
          | no => rw [eo] at h'; exact h'.elim
          | ok b =>
            rw [eo] at h'
            intro H3 s tb
            cases b with
            | false => exact iteF ⟨_, re2.sm s tb, s2, g2, h'⟩
            | true =>
              refine iteT ⟨B, P, ρ'.set j (.val d), hb, re2.sm s tb, ?_⟩
              dsimp only at h'
              cases uo : u (ρ'.set j (.val d)) with
              | er c ρ2 => rw [uo] at h'; exact h'
              | rt d2 m2 ρ2 => rw [uo] at h'; exact h'
              | nx ρ2 => rw [uo] at h'; exact h'.elim
              | bk ρ2 => rw [uo] at h'; exact h'.elim
              | ct ρ2 => rw [uo] at h'; exact h'.elim
              | ex c => rw [uo] at h'; exact h'.elim
              | no => rw [uo] at h'; exact h'.elim
        · have hl := tr'.length
          have e0 : ds.drop i = [] := List.drop_of_length_le (by omega)
          rw [e0] at h'
          exact .inl ⟨⟨vs', SqL.of e2', by omega⟩, h' P σ' H' re'⟩
end
end Eng

set_option Elab.async false
set_option linter.all false
set_option maxRecDepth 100000
/-! Eng36: try with any number of clauses. -/
namespace Eng
open PySem PySem.Spec
open PyProof.Rows L2
abbrev Clz := List ((Str → Bool) × (CV → Out))
def pickCl (c : Str) (ρ : CV) : Clz → Out
  | [] => .er c ρ
  | (sub, w) :: r => if sub c = true then (match w ρ with | .er _ _ => .no | .ex _ => .no | o => o) else pickCl c ρ r
def sTryN (names : List Str) (cl : Clz) (u : CV → Out) : CV → Out := fun ρ => match u ρ with
  | .er c ρ' => if names.contains c then pickCl c ρ' cl else .no
  | .ex _ => .no
  | o => o
section
variable {X : Cx} {C : Cf} {W : WX} {body : List Stmt} {u : CV → Out} {pos : Pos}
inductive ClsOk (X : Cx) (C : Cf) (names : List Str) : List ExceptHandler → Clz → Prop
  | nil : ClsOk X C names [] []
  | cons {x : Str} {b₀ : Stmt} {su : List Stmt} {np p1 : Pos} {hds : List ExceptHandler} {cl : Clz} {sub : Str → Bool} {w : CV → Out} (E : Clause X.K X.mg x names sub)
      (hsu : ∀ (a : Addr) (oe : Obj) (cls : Value) (d : Option Addr) (pn : List (Addr × Obj)), L2N.Zn cls d oe → (∃ vs, oe.data = .fields vs) → PSs (X.suite a ((a, oe) :: pn)) (b₀ :: su) (tS C W0 w)) (r : ClsOk X C names hds cl)
      (hg : Gl X x := by rfl) (hd : (x == ("__debug__" : Str)) = false := by decide) : ClsOk X C names (.ExceptHandler (some (.Name x np)) none (b₀ :: su) p1 :: hds) ((sub, w) :: cl)
theorem ClsOk.hds {names : List Str} {hds : List ExceptHandler} {cl : Clz} (h : ClsOk X C names hds cl) (hmg : X.mg = C.mg) :
    ∃ l, L2N.HdsOk X hds l ∧ ∀ (D' : Ends) (B : Bs) (P : List Addr) (ρ : CV) (σ : L2.St) (H : Hp) (c : Str) (A : Addr), c ∈ names → C.mg c = some (.ref A) → Lk B C → RE C.K C.T B P H σ ρ → SR C W D' B (pickCl c ρ cl) → wMany X.K W D' l (.ref A) none σ H := by
  induction h with
  | nil => exact ⟨[], .nil, fun D' B P ρ σ H c A _ hm _ re h => h A P σ H hm re⟩
  | @cons x b₀ su np p1 hds cl sub w E hsu r hg hd ih =>
    obtain ⟨l, hl, go⟩ := ih
    obtain ⟨cv, g, hc⟩ := E
    refine ⟨(cv, fun _ _ _ => tS C W0 w) :: l, .cons (ts := fun _ _ _ => tS C W0 w) ⟨hg, hd, .inl g⟩ hsu hl, fun D' B P ρ σ H c A hn hm hb re h => ?_⟩
    refine ⟨sub c, hc c A hn (by rw [hmg]; exact hm), fun hs a ha => ?_, fun hs => ?_⟩
    · unfold pickCl at h
      rw [if_pos hs] at h
      exact ⟨B, P, ρ, hb, re, SR_w0 h⟩
    · unfold pickCl at h
      rw [if_neg (by rw [hs]; exact Bool.false_ne_true)] at h
      exact go D' B P ρ σ H c A hn hm hb re h
theorem ss_tryN {h₀ : ExceptHandler} {hds : List ExceptHandler} {cl : Clz} (names : List Str) (hcl : ClsOk X C names (h₀ :: hds) cl) (tk : L2N.Takes X W)
    (hb : ∀ (W : WX) (pn : List (Addr × Obj)) (xe : Value → Shared → Prop), L2N.Takes (X.tr pn xe) W → PassesOwn (model X.prog X.w) X.A X.env xe → PSs (X.tr pn xe) body (tS C W u))
    (hmg : X.mg = C.mg := by rfl) (hs : X.stack = X.env :: X.outer := by rfl) (hf : X.env.frame = some X.env.locals := by rfl) :
    PS X (.Try body (h₀ :: hds) [] [] pos) (tS C W (sTryN names cl u)) := by
  obtain ⟨l, hl, go⟩ := hcl.hds (W := W) hmg
  refine PS.imp (L2N.ps_try_many (tb := fun W => tS C W u) hs hf tk hb hl) fun D' σ H h => ?_
  obtain ⟨B, P, ρ, hio, re, h⟩ := h
  refine ⟨B, P, ρ, hio, re, ?_⟩
  unfold sTryN at h
  cases eu : u ρ with
  | nx ρ' => rw [eu] at h; exact h
  | rt d m ρ' => rw [eu] at h; exact h
  | bk ρ' => rw [eu] at h; exact h
  | ct ρ' => rw [eu] at h; exact h
  | no => rw [eu] at h; exact h
  | ex c => rw [eu] at h; exact h.elim
  | er c ρ' =>
    rw [eu] at h
    dsimp only at h
    intro A P' σ' H' hm re'
    by_cases hn : names.contains c = true
    · rw [if_pos hn] at h
      exact go D' B P' ρ' σ' H' c A (List.contains_iff_mem.mp hn) hm hio re' h
    · rw [if_neg hn] at h
      exact h.elim
end
end Eng

set_option Elab.async false
set_option linter.all false
set_option maxRecDepth 100000
/-! Eng37 and Eng38: own defs called within an except suite (hot): what a def promises there, its calls, for over a range, raise. -/
namespace Eng
open PySem PySem.Spec
open PyProof.Rows L2
section
variable {P : Program} {w : World} {base : Heap} {K : PySem.W.Frag} {mg : Str → Option Value}
theorem fn_okH {C : Cf} {x qual : Str} {st : Stmt} {f : Addr} {fd : FuncData} {N ps : List Str} {k : Nat} {b : CV → Out} (F : Fun K x qual st f fd) (S : FnScope N ps (defScope st)) (hn : ps.length ≤ N.length)
    (body : ∀ (cdv : Value) (A : Around) (outer : List Env) (s : Shared) (H : Hp) (E : XK) (p : Addr × Obj), L2H.HotC (L2H.cxH (L2.CX P w) P w K mg base N qual (defScope st) f cdv A outer s H E p) → L2H.RoomH k (A.deeper (envOfC qual (defScope st) s.heap.objs.size f cdv)) →
      PSs (L2H.cxH (L2.CX P w) P w K mg base N qual (defScope st) f cdv A outer s H E p) (defBody st) (tS C (fun cls d _ H => E cls d H) b)) (hob : C.ob = none := by rfl) :
    L2H.FnH P w K mg base (L2.CX P w) (k + 1) f fd ps (spM C ps.length (runB N.length b)) := by
  obtain ⟨oc, od, kV, doc, pm, an, cdv, ct, osl, rfl, lk, hcd⟩ := (F.ex)
  refine L2H.fn_ofH lk hcd S (fun vs H Q E h => ?_) fun A outer s H vs Q E p hot hr h => ⟨_, body cdv A outer s H E p ?_ hr, body_read hob hn h⟩
  · obtain ⟨B, P, args, hl, _⟩ := h
    exact hl
  · exact ⟨p, hot, List.mem_singleton.mpr rfl⟩
/-- a def as its callers know it, where an exception is handled -/
structure CalH (P : Program) (w : World) (K : PySem.W.Frag) (mg : Str → Option Value) (base : Heap) (T : List Addr) (x : Str) (n k : Nat) (M : CV → RF) : Prop where
  ex : ∃ (f : Addr) (fd : FuncData) (ps : List Str), L2H.FnH P w K mg base (L2.CX P w) k f fd ps (spM { K := K, T := T, mg := mg, ios := [] } n M) ∧ mg x = some (.ref f) ∧ PySem.W.keepIn K (.ref f) = true ∧ L2.Binds K fd ps []
theorem FnH.mono {i k : Nat} {f : Addr} {fd : FuncData} {ps : List Str} {sp : Sp} (F : L2H.FnH P w K mg base (L2.CX P w) i f fd ps sp) (h : i ≤ k) : L2H.FnH P w K mg base (L2.CX P w) k f fd ps sp :=
  ⟨F.len, fun A outer s H args us vs Q E p hr hot pin e0 hb r q => F.run A outer s H args us vs Q E p (hr.mono h) hot pin e0 hb r q⟩
end
section
variable {X : Cx} {C : Cf} {W : WX} {e : Expr} {es : List Expr} {fa : CV → Rs (List (D × Md))} {p pos : Pos}
theorem se_callH {x : Str} {k k' n : Nat} {M : CV → RF} (G : CalH X.prog X.w X.K X.mg X.base C.T x n k M) (hc : L2H.HotC X) (hr : L2H.RoomH k' X.A) (tk : Takes X W) (ha : PA X (e :: es) (tA C W fa)) (hl : LenA n fa) (hC : { C with ios := [], ob := none } = { K := X.K, T := C.T, mg := X.mg, ios := [], ob := none : Cf } := by rfl)
    (hkk : k ≤ k' := by decide) (hg : Gl X x := by rfl) (hdb : (x == ("__debug__" : Str)) = false := by decide) (he : starEach (e :: es) X.env = (false, eval e X.env) :: starEach es X.env := by rfl) (hpl : (backTo pos (starEach es X.env)).any (·.1) = false := by rfl) : PE X (.Call (.Name x p) (e :: es) [] pos) (tE C W (mCall M fa)) := by
  obtain ⟨f, fd, ps, h1, h2, h3, h4⟩ := G.ex
  rw [← hC] at h1
  exact PE.imp (L2H.pe_callH (E := WE W) h1 (hr.mono hkk) hc hg h2 h3 h4 (fun σ => passAt tk σ) ha hdb he hpl) fun σ H Q w => call_core w hl.len
/-- for over a range, where an exception is handled -/
theorem si_range1H {tg a : Expr} {q : Pos} (hm : X.mg "range" = none) (ha : PA X [a] (tA C W fa)) (hg : Gl X "range" := by rfl) (hs : starEach [a] X.env = [(false, eval a X.env)] := by rfl) : L2H.PIH X tg (.Call (.Name "range" q) [a] [] pos) (tI C W (mRange1 fa)) := by
  refine ⟨fun pins s σ H R I h => (L2H.pi_range1H hg hm ha hs).run pins s σ H R I ?_⟩
  obtain ⟨B, P, ρ, hio, re, h⟩ := h
  refine ⟨B, P, ρ, hio, re, ?_⟩
  unfold mRange1 at h
  cases ef : fa ρ with
  | er c => rw [ef] at h; exact h
  | no => rw [ef] at h; exact h
  | ok xs =>
    rw [ef] at h
    dsimp only [Rs.bind] at h
    intro vs H1 s2 tb ov
    split at h
    · rename_i j m
      split at h
      · rename_i hz
        obtain ⟨v, rfl, o⟩ := ov.one
        have ev := o.int
        subst ev
        refine ⟨j, rfl, by omega, by omega, ?_⟩
        have := h (Itr 0 j.toNat) H1 s2 tb (itOk_range 0 j.toNat)
        exact this
      · exact h.elim
    · exact h.elim
theorem ss_forH (i : Nat) {x : Str} {p2 : Pos} {iter : Expr} {body : List Stmt} {u : CV → Out} {it : CV → Rs (List D)} (hp : PassesOwn (model X.prog X.w) X.A X.env X.xe) (hc : L2H.HotC X) (hN : X.N.Nodup) (hit : L2H.PIH X (.Name x p2) iter (tI C W it)) (hb : PSs X body (tS C W u))
    (hi : X.N[i]? = some x := by rfl) (hx : Loc X.env.scope x := by first | exact Or.inl rfl | exact Or.inr rfl) (hio : C.ro i = false := by rfl) (hf : X.fn x = true ∨ X.env.scope.names.lookup x = some .local := by first | exact .inl rfl | exact .inr rfl | assumption)
    (hs : ∀ z, foldedSetIterable iter X.env z = pure z := by intro _; rfl) : PS X (.For (.Name x p2) iter body [] pos) (tS C W (sFor i it u)) :=
  PS.imp (L2H.ps_forH hp hc hit (pg_name hN hi hx hf) hb hs) fun D' σ H h => by
    obtain ⟨B, P, ρ, hl, re, h⟩ := h
    have hro : ¬ B.ro i := hl.ro hio
    refine ⟨B, P, ρ, hl, re, ?_⟩
    unfold sFor at h
    cases ei : it ρ with
    | no => rw [ei] at h; exact h
    | er c => rw [ei] at h; exact fun A H1 hm s2 tb => h A P σ H1 hm (re.sm s2 tb)
    | ok ds => rw [ei] at h; exact fun J H1 s2 tb io => for_core hl hro (re.sm s2 tb) io h
end
/-! for over a list, where an exception is handled -/
section
variable {prog : Program} {w : World} {s : Shared} {A : Around} {E : Value → Shared → Prop}
theorem list_end_hot {it l x1 : Addr} {i : Nat} {items : Array Value} {Q : Option Value → Shared → Prop} (hot : HotX.HotAt A x1 s.heap) (hne : x1 ≠ it) (hit : s.heap.IsListIter it l i) (hl : s.heap.IsList l items) (hx : items[i]? = none)
    (hQ : ∀ h', (∀ b o, b ≠ it → s.heap.get? b = some o → h'.get? b = some o) → Q none { s with heap := h' }) : wpAny (model prog w) A (pyNext (.ref it)) Q E s := by
  obtain ⟨hh, o1, vs1, h1, d1, c1⟩ := (hot)
  obtain ⟨oi, gi, ci, di⟩ := id hit
  obtain ⟨ol, gl, _, nl, dl⟩ := hl
  unfold pyNext
  refine wpAny_bind (wpAny_attempt (wpAny_callSpecial?_slot (name := Str.ofString "__next__") hit.typeIs slot_listiter_next (wpAny_call_entry slot_listiter_next hit.typeIs entry_listiter_next ?_ (args_listiter_next _))))
  (show wpAny _ _ (field (.ref it) 0 >>= _) _ _ s)
  refine wpAny_bind (wpAny_field gi di (x := .ref l) rfl ?_)
  (show wpAny _ _ (if (Value.ref l == Value.none) = true then _ else _) _ _ s)
  (rw [if_neg (show ¬ ((Value.ref l == Value.none) = true) from Bool.false_ne_true)])
  (show wpAny _ _ (field (.ref it) 1 >>= _) _ _ s)
  refine wpAny_bind (wpAny_field gi di (x := .int i 0) rfl ?_)
  (show wpAny _ _ (seqItems? (.ref l) >>= _) _ _ s)
  refine wpAny_bind (wpAny_seqItems gl dl ?_)
  simp only [hx, Int.toNat_natCast]
  refine wpAny_bind (wpAny_rule (wpAny_bind (wpAny_setField gi di (by simp) ?_)))
  (show wpAny _ _ (newExc (.type "StopIteration") [] >>= _) _ _ _)
  refine wpAny_bind ?_
  simp only [newTuple, newExc]
  (refine wpAny_bind (wpAny_newObj_type ?_ (by size_fits)))
  (refine wpAny_bind (m := firstArgMember _ _) (wpAny_of_eq (a := Value.none) (by first | rfl | (simp only [firstArgMember]; rfl)) ?_))
  (refine wpAny_newObj_type ?_ (by size_fits))
  have g1 : ∀ {f : Obj → Obj} {b : Addr} {o : Obj}, b ≠ it → s.heap.get? b = some o → (s.heap.update it f).get? b = some o := fun {f b o} hb e => (Heap.get?_update_other _ _ hb.symm).trans e
  refine HotX.raiseNew_hot (x1 := x1) ⟨hh, o1, vs1, Heap.get?_push_of_some _ (Heap.get?_push_of_some _ (g1 hne h1)), d1, c1⟩ (Nat.ne_of_lt (Heap.lt_size (Heap.get?_push_of_some _ (g1 hne h1)))) (Heap.get?_push_size _ rfl) rfl (by first | (simp; done) | (simp; omega) | (simp only [Array.size_append]; simp; omega)) ?_
  (refine wpAny_bind (wpAny_isInstance (T := "StopIteration") (b := true) ⟨_, Heap.get?_update_self _ (Heap.get?_push_size _ rfl) rfl, rfl⟩ isSubtype_stop ?_))
  (refine wpAny_pure (hQ _ fun b o hb e => ?_))
  rw [Heap.get?_update_other _ _ (Nat.ne_of_gt (Heap.lt_size (Heap.get?_push_of_some _ (g1 hb e))))]
  exact Heap.get?_push_of_some _ (Heap.get?_push_of_some _ (g1 hb e))
end
theorem turn_listH {P : Program} {w : World} {K : PySem.W.Frag} {tg : Expr} (a it : Addr) : L2H.TurnH P w K tg (Itl K a) [it] it (fun i h => h.IsListIter it a i) where
  mem := List.mem_singleton.mpr rfl
  obj := fun i h st b hb => by
    rw [List.mem_singleton.mp hb]
    obtain ⟨o, e, _, d⟩ := st
    (exact ⟨o, e, fun v z => by rw [d] at z; cases z⟩)
  keep := fun i h h' st k => st.at fun o e => k it (List.mem_singleton.mpr rfl) o e
  item := by
    rintro X hP hw hK hc i pins s σ H E I hf st hg
    subst hP hw hK
    obtain ⟨xs, x, hq, hx⟩ := hg
    obtain ⟨its, rv, p, _⟩ := I.list hq
    obtain ⟨u, hu, ru⟩ := (rv.get hx)
    obtain ⟨f0, f1, f2, f3, f4, f5⟩ := hf it (List.mem_singleton.mpr rfl)
    refine wpAny_pyNext_list_item st p.isList (x := u) (by simpa using hu) fun h2 st2 sb => ?_
    have J : Inv X pins σ H { s with heap := h2 } := I.turned (t' := s.toks) (fun b o hb e => (sb.2 b hb).trans e) f0 f1 f3 f4 f5
    obtain ⟨o, e, c, d⟩ := id st2
    exact ⟨u, rfl, go_of (s := { s with heap := h2 }) e c d (by decide) ⟨x, H, J, ru, ⟨rfl, fun ys hy => by rw [I.list_inj hy hq]; exact hx⟩, st2, fun b hb => (hf b hb).1⟩⟩
  done := by
    rintro X hP hw hK hc i pins s σ H E I hf st hg
    subst hP hw hK
    obtain ⟨xs, hq, hx⟩ := hg
    obtain ⟨its, rv, p, _⟩ := I.list hq
    obtain ⟨f0, f1, f2, f3, f4, f5⟩ := hf it (List.mem_singleton.mpr rfl)
    obtain ⟨q, ⟨hh, v1, e1, c1⟩, hp⟩ := hc
    have hl := rv.length
    exact list_end_hot ⟨hh, q.2, v1, (I.pin q (List.mem_append_left _ hp)).1, e1, c1⟩ (f5 q (List.mem_append_left _ hp)) st p.isList (by simp; omega) fun h2 eb => ⟨rfl, I.turned (t' := s.toks) (fun b o hb e => eb b o hb e) f0 f1 f3 f4 f5⟩
  self := fun _ _ _ _ _ y z => wpAny_pyIter_listiter y z
theorem pi_listH {X : Cx} {tg l : Expr} {tl : TE} (hl : PE X l tl) : L2H.PIH X tg l (iList X.K tl) := by
  (refine ⟨fun pins s σ H R I h => ?_⟩)
  refine thn (hl.run pins s σ H _ I h) fun v s1 hv => ?_
  obtain ⟨x, H1, I1, r1, a, ex, ⟨xs, hq⟩, q⟩ := hv
  subst ex
  cases r1
  obtain ⟨its, rv, p, _⟩ := I1.list hq
  apply wpAny_pyIter_list p.isList
  refine ⟨s1.heap.objs.size, [s1.heap.objs.size], _, _, H1, rfl, I1.kept (t' := s1.toks) fun b o e => Heap.get?_push_of_some _ e, turn_listH a _, ⟨_, Heap.get?_push_size _ rfl, rfl, rfl⟩, fun b hb => ?_, q⟩
  rw [List.mem_singleton.mp hb]
  (exact I1.fpOk (Nat.le_refl _) (I1.hok.fresh (Nat.le_refl _)))
/-- a walk over a list, where an exception is handled: as si_list -/
theorem si_listH {X : Cx} {C : Cf} {W : WX} {tg l : Expr} {f : CV → Rs (D × Md)} (hl : PE X l (tE C W f)) : L2H.PIH X tg l (tI C W (mIterL f)) := by
  refine ⟨fun pins s σ H R I h => (pi_listH (tg := tg) hl).run pins s σ H R I ?_⟩
  obtain ⟨B, P, ρ, hio, re, h⟩ := h
  refine ⟨B, P, ρ, hio, re, ?_⟩
  unfold mIterL at h
  cases e : f ρ with
  | er c => rw [e] at h; exact h
  | no => rw [e] at h; exact h
  | ok a =>
    obtain ⟨d, m⟩ := a
    rw [e] at h
    intro v H1 s2 tb vr
    have sub : ∀ q ∈ P, q ∈ B.M ++ P := fun q hq => List.mem_append_right _ hq
    cases d <;> try exact h.elim
    rename_i ds
    cases m <;> try exact h.elim
    · obtain ⟨p, vs, ds2, rfl, e2, h0, h1, t⟩ := vr
      cases e2
      have np := lst_ne re.lst h0
      exact ⟨p, rfl, ⟨vs, SqL.of h1⟩, h _ H1 s2 tb (itOk_list sub (fun z => np (sub p z)) h1 (TrAll.mono (mask_anti fun a ha => List.mem_cons_of_mem _ ha) _ _ t))⟩
    · cases vr with
      | lst e2 t =>
        obtain ⟨h1, h2⟩ := mask_some e2
        exact ⟨_, rfl, ⟨_, SqL.of h2⟩, h _ H1 s2 tb (itOk_list sub (fun z => h1 (sub _ z)) h2 t)⟩
end Eng

set_option Elab.async false
set_option linter.all false
set_option maxRecDepth 100000
/-! Eng38: raise within an except suite (hot). -/
namespace Eng
open PySem PySem.Spec
open PyProof.Rows L2
section
variable {X : Cx} {C : Cf} {W : WX} {e : Expr} {f : CV → Rs (D × Md)} {pos : Pos}
/-- X(e), an own exception -/
theorem pmkN1 {A : Addr} {bmB : List Value} {Bn newId initId : String} {x : Str} {ta : TE} {p q1 : Pos} (F : ExcBaseFacts Bn newId initId bmB) (q : PySem.W.excIn X.K A bmB newId = true) (gC : X.mg x = some (.ref A)) (kC : PySem.W.keepIn X.K (.ref A) = true) (r : Raises X (.ref A)) (hg : Gl X x)
    (ha : PE X e ta) (hs : starEach [e] X.env = (false, eval e X.env) :: starEach [] X.env := by rfl) (hdb : (x == ("__debug__" : Str)) = false := by decide) : L2N.PMk X (.Call (.Name x p) [e] [] q1) (fun σ H Q => ta σ H fun _ H1 => Q (.ref A) none H1) := by
  intro pins s σ H Q I h
  (refine wpAny_Call_Name_kw (ld_glob I hg gC ?_ hdb))
  (refine PySem.W.callWith_K (h₀ := X.base) I.ok.mod.kin kC ?_ hs (by rfl))
  rw [hs]
  show wpAny _ _ (spliced ((false, eval e X.env) :: backTo q1 (starEach [] X.env))) _ _ s
  refine Calls.spliced_cons (thn (ha.run pins s σ H _ I h) fun u s2 hu => ?_)
  obtain ⟨v, H2, I2, _, w2⟩ := hu
  refine Calls.spliced_nil ⟨I2.kIn, ?_⟩
  show wpAny _ _ (call (.ref A) [u]) _ _ _
  obtain ⟨bm, N, nm, qn, bs, hdct, sn, sub, ab, col, dd, k0, k1, k2, k3, k5, mN, hC, hN, hni, T⟩ := exc_obj I2.kIn q
  refine wpAny_call_exc_subT F T hC hN hni (fun h3 e3 hm => ?_) (by show 1 ≤ sizeLine; rw [sizeLine_eq]; omega)
  exact L2N.mk_of I2 hm r w2 (I2.hok.gone hm.new)
theorem ss_raiseVH {c m : Str} {j : Nat} {p p2 p3 : Pos} (E : Err X.K X.mg c) (hc : L2H.HotC X) (tk : Takes X W) (hmg : X.mg = C.mg := by rfl) (hg : Gl X c := by rfl) (hdb : (c == ("__debug__" : Str)) = false := by decide) :
    PS X (.Raise (some (.Call (.Name c p) [.Constant (.str m) j p2] [] p3)) none pos) (tS C W (sRaise c)) := by
  obtain ⟨Ca, g, k, q, b, t⟩ := E
  exact PS.imp (L2H.ps_raiseH hc tk (L2N.pmk_own PySem.F.excBase_ValueError q g k (raises_own b t) hg hdb)) fun D' σ H h => by
    obtain ⟨B, P, ρ, _, re, h⟩ := h
    exact h Ca P σ H (by rw [← hmg]; exact g) re
theorem ss_raiseVAH {c : Str} {p p3 : Pos} (E : Err X.K X.mg c) (hc : L2H.HotC X) (tk : Takes X W) (ha : PE X e (tE C W f)) (hmg : X.mg = C.mg := by rfl) (hg : Gl X c := by rfl) (hs : starEach [e] X.env = (false, eval e X.env) :: starEach [] X.env := by rfl) (hdb : (c == ("__debug__" : Str)) = false := by decide) :
    PS X (.Raise (some (.Call (.Name c p) [e] [] p3)) none pos) (tS C W (sRaiseA c (mCons f mNil))) := by
  obtain ⟨Ca, g, k, q, b, t⟩ := E
  exact PS.imp (L2H.ps_raiseH hc tk (pmkN1 PySem.F.excBase_ValueError q g k (raises_own b t) hg ha hs hdb)) fun D' σ H h => by
    obtain ⟨B, P, ρ, hb, re, h⟩ := h
    refine ⟨B, P, ρ, hb, re, ?_⟩
    unfold sRaiseA mCons at h
    cases ef : f ρ with
    | er k2 => rw [ef] at h; exact fun A H1 hm s2 tb => h A P σ H1 hm (re.sm s2 tb)
    | no => rw [ef] at h; exact h
    | ok x =>
      rw [ef] at h
      have h : SR C W D' B (.er c ρ) := h
      exact fun v H1 s2 tb _ => h Ca P σ H1 (by rw [← hmg]; exact g) (re.sm s2 tb)
end
end Eng

set_option Elab.async false
set_option linter.all false
set_option maxRecDepth 100000
/-! Eng39: all(LO <= x <= HI for x in a text). -/
namespace Eng
open PySem PySem.Spec
open PyProof.Rows L2 GxR
def betw (lo hi : Str) (c : Nat) : Bool := !decide ([c] < lo.cps.toList) && !decide (hi.cps.toList < [c])
theorem elt_betw {prog : Program} {w : World} {scope : Scope} {x lo hi : Str} {j1 j2 : Nat} {p1 p2 p3 p4 : Pos} (hk : scope.kind = .function) (hl : scope.names.lookup x = some .local) (hd : (x == ("__debug__" : Str)) = false := by decide) :
    EltP prog w scope x (.Compare (.Constant (.str lo) j1 p1) [.LtE, .LtE] [.Name x p2, .Constant (.str hi) j2 p3] p4) (betw lo hi) := by
  intro cenv A2 E2 c t s m hs hn hm
  refine wpAny_mono (Q := fun v s3 => ∃ b, v = .bool b ∧ b = betw lo hi c ∧ Keeps s s3) ?_ (fun v s3 hv => ?_) fun _ _ z => z
  · refine Compare_chain (Calls.Constant_str (chain_link ?_)) rfl
    (refine wpAny_Name (wpAny_loadName_local (by rw [hs]; exact hk) (show cenv.scope.names.lookup x = some .local by rw [hs]; exact hl) hn hm ?_) hd)
    refine PySem.P.le_str (wpAny_truthy_bool ?_)
    have e1 : betw lo hi c = (!decide ((⟨#[c]⟩ : Str).cps.toList < lo.cps.toList) && !decide (hi.cps.toList < [c])) := rfl
    rw [e1]
    cases h1 : !decide ((⟨#[c]⟩ : Str).cps.toList < lo.cps.toList) with
    | false => exact ite_ff ⟨false, rfl, rfl, keeps_tok _ _⟩
    | true => exact ite_tt (chain_last (Calls.Constant_str (PySem.P.le_str ⟨_, rfl, rfl, keeps_tok _ _⟩)))
  · obtain ⟨b, rfl, rfl, k⟩ := hv
    exact ⟨rfl, k⟩
section
variable {X : Cx} {C : Cf} {W : WX} {f : CV → Rs (D × Md)} {iter : Expr}
theorem se_allB (lo hi : Str) {c Pt : Addr} {k : Nat} {x : Str} {scope : Scope} {j1 j2 : Nat} {px p pos gpos p1 p2 p3 p4 : Pos} (hr : Room k X.A) (hP : Pt ∈ C.T) (TB : TabB X.base X.mg c Pt) (hcode : X.env.code = .ref c) (hm : X.mg "all" = none) (ht : PE X iter (tE C W f))
    (hkd : scope.kind = .function := by rfl) (hco : scope.isCoroutine = false := by rfl) (hce : ∀ y ∈ scope.names, y.2 ≠ .cell := by decide +kernel) (hfr : ∀ y ∈ scope.names, y.2 ≠ .free := by decide +kernel) (hdt : scope.names.lookup (".0" : Str) = some NameKind.local := by rfl)
    (hx : scope.names.lookup x = some .local := by rfl) (hg : Gl X "all" := by rfl) (hs : ∀ v, genFold iter X.env v = pure v := by intro _; rfl) (hd : (x == ("__debug__" : Str)) = false := by decide)
    (he : starEach [.GeneratorExp (.Compare (.Constant (.str lo) j1 p1) [.LtE, .LtE] [.Name x p2, .Constant (.str hi) j2 p3] p4) [⟨.Name x px, iter, [], 0⟩] scope gpos] X.env = (false, eval (.GeneratorExp (.Compare (.Constant (.str lo) j1 p1) [.LtE, .LtE] [.Name x p2, .Constant (.str hi) j2 p3] p4) [⟨.Name x px, iter, [], 0⟩] scope gpos) X.env) :: starEach [] X.env := by rfl) :
    PE X (.Call (.Name "all" p) [.GeneratorExp (.Compare (.Constant (.str lo) j1 p1) [.LtE, .LtE] [.Name x p2, .Constant (.str hi) j2 p3] p4) [⟨.Name x px, iter, [], 0⟩] scope gpos] [] pos) (tE C W (mAllS (betw lo hi) f)) :=
  PE.imp (pe_allS hr hg hm (by decide +kernel) TB hcode ⟨hkd, hco, hce, hdt, hx, fun y hy e => absurd e (hfr y hy)⟩ ht (elt_betw hkd hx hd) hs he) fun σ H Q w => by
    obtain ⟨B, P, ρ, hio, re, w⟩ := w
    refine tE_then hio re w fun d m v H1 s re1 vr w1 => ?_
    have o1 := VR.ov re.lst vr
    cases d <;> try exact w1.elim
    rename_i a
    refine ⟨a, o1.str, re1.tab Pt hP, fun H2 tb => ?_⟩
    obtain ⟨s2, t2⟩ := Tabbed.sm re1.tab hP tb
    exact w1 _ H2 s2 t2 (.bl _)
end
end Eng

set_option Elab.async false
set_option linter.all false
set_option maxRecDepth 100000
set_option maxHeartbeats 1234567
/-! Eng40: ends of iterators where an exception is handled (hot). -/
namespace Eng
open PySem PySem.Spec
open PyProof.Rows L2
section
variable {prog : Program} {w : World} {s : Shared} {A : Around} {E : Value → Shared → Prop}
abbrev isStop (h : Heap) (e : Addr) : Prop := ∃ o, h.get? e = some o ∧ o.cls = .type "StopIteration"
/-- StopIteration, raised where an exception is handled -/
theorem stop_hot {α : Type} {x1 : Addr} {Q : α → Shared → Prop} (hot : HotX.HotAt A x1 s.heap)
    (go : ∀ h' e, (∀ b o, s.heap.get? b = some o → h'.get? b = some o) → isStop h' e → E (.ref e) { s with heap := h' }) :
    wpAny (model prog w) A (newExc (.type "StopIteration") [] >>= fun e => (raiseNew e : Sem α)) Q E s := by
  obtain ⟨hh, o1, vs1, h1, d1, c1⟩ := (hot)
  refine wpAny_bind ?_
  simp only [newTuple, newExc]
  (refine wpAny_bind (wpAny_newObj_type ?_ (by size_fits)))
  (refine wpAny_bind (m := firstArgMember _ _) (wpAny_of_eq (a := Value.none) (by first | rfl | (simp only [firstArgMember]; rfl)) ?_))
  (refine wpAny_newObj_type ?_ (by size_fits))
  refine HotX.raiseNew_hot (x1 := x1) ⟨hh, o1, vs1, Heap.get?_push_of_some _ (Heap.get?_push_of_some _ h1), d1, c1⟩ (Nat.ne_of_lt (Heap.lt_size (Heap.get?_push_of_some _ h1))) (Heap.get?_push_size _ rfl) rfl (by first | (simp; done) | (simp; omega) | (simp only [Array.size_append]; simp; omega)) ?_
  refine go _ _ (fun b o e => ?_) ⟨_, Heap.get?_update_self _ (Heap.get?_push_size _ rfl) rfl, rfl⟩
  (rw [Heap.get?_update_other _ _ (Nat.ne_of_gt (Heap.lt_size (Heap.get?_push_of_some _ e)))])
  (exact Heap.get?_push_of_some _ (Heap.get?_push_of_some _ e))
theorem hot_keeps {x1 : Addr} {h h' : Heap} (hot : HotX.HotAt A x1 h) (k : ∀ o, h.get? x1 = some o → h'.get? x1 = some o) : HotX.HotAt A x1 h' := by
  obtain ⟨hh, o1, vs1, h1, d1, c1⟩ := (hot)
  exact ⟨hh, o1, vs1, k _ h1, d1, c1⟩
theorem hot_in1 {x1 : Addr} {h : Heap} (hot : HotX.HotAt A x1 h) : HotX.HotAt A.in1 x1 h := hot
/-- a tuple's iterator ends: as zip asks it -/
theorem nextOf_tup_hot {it l x1 : Addr} {i : Nat} {items : Array Value} {Q : Value → Shared → Prop} (hot : HotX.HotAt A x1 s.heap) (hne : x1 ≠ it) (hit : s.heap.IsTupleIter it l i) (hl : s.heap.IsTuple l items) (hx : items[i]? = none)
    (go : ∀ h' e, Heap.ExtBut it s.heap h' → isStop h' e → E (.ref e) { s with heap := h' }) : wpAny (model prog w) A (Builtin.SmallTypes.nextOf (.ref it)) Q E s := by
  obtain ⟨oi, gi, ci, di⟩ := id hit
  obtain ⟨ol, gl, _, nl, dl⟩ := hl
  (unfold Builtin.SmallTypes.nextOf)
  refine wpAny_bind (wpAny_callSpecial?_slot (name := Str.ofString "__next__") hit.typeIs F.slot_tuple_iterator_next (wpAny_call_entry F.slot_tuple_iterator_next hit.typeIs F.entry_tuple_iterator_next ?_ (F.args_tuple_iterator_next_1 _)))
  show wpAny _ _ (field (.ref it) 0 >>= fun _ => _) _ _ _
  refine wpAny_bind (wpAny_field gi di (x := .ref l) rfl ?_)
  show wpAny _ _ (if (Value.ref l == Value.none) = true then _ else _) _ _ _
  rw [if_neg (by simp : ¬ ((Value.ref l == Value.none) = true))]
  show wpAny _ _ (field (.ref it) 1 >>= fun _ => _) _ _ _
  refine wpAny_bind (wpAny_field gi di (x := .int i 0) rfl ?_)
  show wpAny _ _ (seqItems? (.ref l) >>= fun _ => _) _ _ _
  refine wpAny_bind (wpAny_seqItems gl dl ?_)
  (simp only [hx, Int.toNat_natCast])
  refine wpAny_bind (wpAny_rule (wpAny_bind (wpAny_setField gi di (by simp) ?_)))
  have k : ∀ b o, b ≠ it → s.heap.get? b = some o → (s.heap.update it (Obj.mapFields (·.setIfInBounds 0 .none))).get? b = some o := fun b o hb e => (Heap.get?_update_other _ _ (Ne.symm hb)).trans e
  refine stop_hot (x1 := x1) (hot_keeps hot fun o e => k _ o hne e) fun h' e kp st => go h' e (fun b o hb q => kp b o (k b o hb q)) st
/-- .. as a walk asks it -/
theorem tup_end_hot {it l x1 : Addr} {i : Nat} {items : Array Value} {Q : Option Value → Shared → Prop} (hot : HotX.HotAt A x1 s.heap) (hne : x1 ≠ it) (hit : IsTupIter s.heap it l i) (hl : IsTup s.heap l items) (hx : items[i]? = none)
    (go : ∀ h', Heap.ExtBut it s.heap h' → Q none { s with heap := h' }) : wpAny (model prog w) A (pyNext (.ref it)) Q E s := by
  obtain ⟨oi, gi, ci, di⟩ := id hit
  obtain ⟨ol, gl, _, nl, dl⟩ := hl
  unfold pyNext
  refine wpAny_bind (wpAny_attempt (wpAny_callSpecial?_slot (name := Str.ofString "__next__") hit.typeIs slot_tupleiter_next (wpAny_call_entry slot_tupleiter_next hit.typeIs entry_tupleiter_next ?_ (args_tupleiter_next _))))
  show wpAny _ _ (field (.ref it) 0 >>= fun _ => _) _ _ _
  refine wpAny_bind (wpAny_field gi di (x := .ref l) rfl ?_)
  show wpAny _ _ (if (Value.ref l == Value.none) = true then _ else _) _ _ _
  rw [if_neg (by simp : ¬ ((Value.ref l == Value.none) = true))]
  show wpAny _ _ (field (.ref it) 1 >>= fun _ => _) _ _ _
  refine wpAny_bind (wpAny_field gi di (x := .int i 0) rfl ?_)
  show wpAny _ _ (seqItems? (.ref l) >>= fun _ => _) _ _ _
  refine wpAny_bind (wpAny_seqItems gl dl ?_)
  (simp only [hx, Int.toNat_natCast])
  refine wpAny_bind (wpAny_rule (wpAny_bind (wpAny_setField gi di (by simp) ?_)))
  have k : ∀ b o, b ≠ it → s.heap.get? b = some o → (s.heap.update it (Obj.mapFields (·.setIfInBounds 0 .none))).get? b = some o := fun b o hb e => (Heap.get?_update_other _ _ (Ne.symm hb)).trans e
  refine stop_hot (x1 := x1) (hot_keeps hot fun o e => k _ o hne e) fun h' e kp ⟨o, e1, e2⟩ => ?_
  exact wpAny_bind (wpAny_isInstance (T := "StopIteration") (b := true) ⟨o, e1, e2⟩ isSubtype_stop (wpAny_pure (go h' fun b o hb q => kp b o (k b o hb q))))
/-- a text's iterator ends -/
theorem ascii_end_hot {it x1 : Addr} {x : Str} {t : Tok} {i : Nat} {Q : Option Value → Shared → Prop} (hot : HotX.HotAt A x1 s.heap) (hne : x1 ≠ it) (hit : s.heap.IsStrIter it "str_ascii_iterator" x t i) (hx : x.cps[i]? = none)
    (go : ∀ h', Heap.ExtBut it s.heap h' → Q none { s with heap := h' }) : wpAny (model prog w) A (pyNext (.ref it)) Q E s := by
  obtain ⟨oi, gi, ci, di⟩ := id hit
  unfold pyNext
  refine wpAny_bind (wpAny_attempt (wpAny_callSpecial?_slot (name := Str.ofString "__next__") hit.typeIs F.slot_str_ascii_iterator_next (wpAny_call_entry F.slot_str_ascii_iterator_next hit.typeIs F.entry_str_ascii_iterator_next ?_ (F.args_str_ascii_iterator_next_1 _))))
  show wpAny _ _ (field (.ref it) 0 >>= fun _ => _) _ _ _
  refine wpAny_bind (wpAny_field gi di (x := .str x t) rfl ?_)
  show wpAny _ _ (field (.ref it) 1 >>= fun _ => _) _ _ _
  refine wpAny_bind (wpAny_field gi di (x := .int i 0) rfl ?_)
  (simp only [hx, Int.toNat_natCast])
  refine wpAny_bind (wpAny_rule (wpAny_bind (wpAny_setField gi di (by simp) (wpAny_bind (wpAny_letGo ?_)))))
  have k : ∀ b o, b ≠ it → s.heap.get? b = some o → (s.heap.update it (Obj.mapFields (·.setIfInBounds 0 .none))).get? b = some o := fun b o hb e => (Heap.get?_update_other _ _ (Ne.symm hb)).trans e
  refine stop_hot (x1 := x1) (hot_keeps hot fun o e => k _ o hne e) fun h' e kp ⟨o, e1, e2⟩ => ?_
  exact wpAny_bind (wpAny_isInstance (T := "StopIteration") (b := true) ⟨o, e1, e2⟩ isSubtype_stop (wpAny_pure (go h' fun b o hb q => kp b o (k b o hb q))))
theorem wide_end_hot {it x1 : Addr} {x : Str} {t : Tok} {i : Nat} {Q : Option Value → Shared → Prop} (hot : HotX.HotAt A x1 s.heap) (hne : x1 ≠ it) (hit : s.heap.IsStrIter it "str_iterator" x t i) (hx : x.cps[i]? = none)
    (go : ∀ h', Heap.ExtBut it s.heap h' → Q none { s with heap := h' }) : wpAny (model prog w) A (pyNext (.ref it)) Q E s := by
  obtain ⟨oi, gi, ci, di⟩ := id hit
  unfold pyNext
  refine wpAny_bind (wpAny_attempt (wpAny_callSpecial?_slot (name := Str.ofString "__next__") hit.typeIs F.slot_str_iterator_next (wpAny_call_entry F.slot_str_iterator_next hit.typeIs F.entry_str_iterator_next ?_ (F.args_str_iterator_next_1 _))))
  show wpAny _ _ (field (.ref it) 0 >>= fun _ => _) _ _ _
  refine wpAny_bind (wpAny_field gi di (x := .str x t) rfl ?_)
  show wpAny _ _ (field (.ref it) 1 >>= fun _ => _) _ _ _
  refine wpAny_bind (wpAny_field gi di (x := .int i 0) rfl ?_)
  (simp only [hx, Int.toNat_natCast])
  refine wpAny_bind (wpAny_rule (wpAny_bind (wpAny_setField gi di (by simp) (wpAny_bind (wpAny_letGo ?_)))))
  have k : ∀ b o, b ≠ it → s.heap.get? b = some o → (s.heap.update it (Obj.mapFields (·.setIfInBounds 0 .none))).get? b = some o := fun b o hb e => (Heap.get?_update_other _ _ (Ne.symm hb)).trans e
  refine stop_hot (x1 := x1) (hot_keeps hot fun o e => k _ o hne e) fun h' e kp ⟨o, e1, e2⟩ => ?_
  exact wpAny_bind (wpAny_isInstance (T := "StopIteration") (b := true) ⟨o, e1, e2⟩ isSubtype_stop (wpAny_pure (go h' fun b o hb q => kp b o (k b o hb q))))
end
section
variable {prog : Program} {w : World} {A : Around} {E : Value → Shared → Prop} {s : Shared} {z TI TO T i1 i2 l1 l2 : Addr} {f : Bool} {oT : Obj} {k : Nat} {xs ys : Array Value} {x y : Value}
theorem held_end_hot {x1 : Addr} {Q : Option Value → Shared → Prop} (hot : HotX.HotAt A x1 s.heap) (hz0 : x1 ≠ z) (hz1 : x1 ≠ i1) (hz2 : x1 ≠ i2) (D : ZipApart z TI TO i1 i2 l1 l2) (hz : IsZipHeld s.heap z TI TO T f) (alive : s.heap.get? T = some oT) (pr : IsPair s.heap TI (.ref i1) (.ref i2))
    (c1 : s.heap.IsTupleIter i1 l1 k) (c2 : s.heap.IsTupleIter i2 l2 k) (m1 : s.heap.IsTuple l1 xs) (m2 : s.heap.IsTuple l2 ys) (stop : xs[k]? = none ∨ ys[k]? = none)
    (go : ∀ hp, (∀ c o, c ∉ [z, i1, i2] → s.heap.get? c = some o → hp.get? c = some o) → Q none { s with heap := hp }) : wpAny (model prog w) A (pyNext (.ref z)) Q E s := by
  have ty : s.TypeIs (.ref z) "zip" := ⟨_, hz, rfl⟩
  unfold pyNext
  refine wpAny_bind (wpAny_attempt (wpAny_callSpecial?_slot (name := Str.ofString "__next__") ty F.slot_zip_next (wpAny_call_entry F.slot_zip_next ty F.entry_zip_next ?_ (F.args_zip_next_1 _))))
  show wpAny _ _ (field (.ref z) 2 >>= fun _ => _) _ _ _
  refine wpAny_bind (wpAny_field hz rfl (x := .bool false) rfl (show wpAny _ _ (field (.ref z) 3 >>= fun _ => _) _ _ _ from wpAny_bind (wpAny_field hz rfl (x := .ref TI) rfl (wpAny_bind (wpAny_seqItems pr rfl (show wpAny _ _ (Builtin.SmallTypes.ownedTupleIsFree (.ref z) >>= fun _ => _) _ _ _ from wpAny_bind (wpAny_tupleHeld_zip hz alive fun ha za sa => ?_)))))))
  (simp only [Bool.false_eq_true, if_false])
  refine wpAny_bind (?_ : wpAny _ _ _ _ _ _)
  simp only [← Array.forIn_toList, List.forIn_cons, List.forIn_nil]
  have out : ∀ {sx : Shared} {e : Addr} {M : Model} {A2 : Around} {E2 : Value → Shared → Prop} {g : Bool → Sem (Option Value)}, (∃ o, sx.heap.get? e = some o ∧ o.cls = .type "StopIteration") → wpAny M A2 (g true) Q E2 sx → wpAny M A2 (isInstance (.ref e) (.type "StopIteration") >>= g) Q E2 sx := fun ⟨o, h1, h2⟩ h => wpAny_bind (wpAny_isInstance (T := "StopIteration") (b := true) ⟨o, h1, h2⟩ isSubtype_stop h)
  cases h : xs[k]? with
  | none =>
    refine wpAny_bind (wpAny_bind (wpAny_holding (show wpAny _ _ (Builtin.SmallTypes.nextOf (.ref i1) >>= fun _ => _) _ _ _ from wpAny_bind (nextOf_tup_hot (s := { s with heap := ha }) (x1 := x1) (hot_keeps hot fun o q => sa.extBut x1 o hz0 q) hz1 (c1.extBut sa.extBut D.i1z) (m1.extBut sa.extBut D.l1z) h fun hb e sb ex => out ex (wpAny_pure (go hb fun c o n q => ?_))))))
    simp only [List.mem_cons, List.not_mem_nil, or_false, not_or] at n
    exact sb c o n.2.1 (sa.extBut c o n.1 q)
  | some x =>
    have hy : ys[k]? = none := stop.resolve_left (by rw [h]; simp)
    refine wpAny_bind (wpAny_bind (wpAny_holding (show wpAny _ _ (Builtin.SmallTypes.nextOf (.ref i1) >>= fun _ => _) _ _ _ from wpAny_bind (RZ.nextOf_tuple_item (s := { s with heap := ha }) (c1.extBut sa.extBut D.i1z) (m1.extBut sa.extBut D.l1z) h fun hb b1 sb => wpAny_pure (wpAny_pure ?_)))))
    refine wpAny_bind (wpAny_bind (wpAny_holding (show wpAny _ _ (Builtin.SmallTypes.nextOf (.ref i2) >>= fun _ => _) _ _ _ from wpAny_bind (nextOf_tup_hot (s := { s with heap := hb }) (x1 := x1) (hot_keeps hot fun o q => sb.extBut x1 o hz1 (sa.extBut x1 o hz0 q)) hz2 ((c2.extBut sa.extBut D.i2z).extBut sb.extBut D.i12.symm) ((m2.extBut sa.extBut D.l2z).extBut sb.extBut D.l2i1) hy fun hc e sc ex => out ex (wpAny_pure (go hc fun c o n q => ?_))))))
    simp only [List.mem_cons, List.not_mem_nil, or_false, not_or] at n
    exact sc c o n.2.2 (sb.extBut c o n.2.1 (sa.extBut c o n.1 q))
end
section
variable {prog : Program} {w : World} {A : Around} {E : Value → Shared → Prop} {s : Shared} {z TI TO i1 i2 l1 l2 : Addr} {k : Nat} {xs ys : Array Value} {p0 q0 : Value}
/-- the zip ends ahead of its first item -/
theorem first_end_hot {x1 : Addr} {Q : Option Value → Shared → Prop} (hot : HotX.HotAt A x1 s.heap) (nz : x1 ≠ z) (nO : x1 ≠ TO) (n1 : x1 ≠ i1) (n2 : x1 ≠ i2) (D : ZipApart z TI TO i1 i2 l1 l2) (hz : IsZip s.heap z TI TO .none) (pr : IsPair s.heap TI (.ref i1) (.ref i2)) (out : IsPair s.heap TO p0 q0)
    (c1 : s.heap.IsTupleIter i1 l1 k) (c2 : s.heap.IsTupleIter i2 l2 k) (m1 : s.heap.IsTuple l1 xs) (m2 : s.heap.IsTuple l2 ys) (stop : xs[k]? = none ∨ ys[k]? = none)
    (go : ∀ hp, (∀ c o, c ∉ [z, TO, i1, i2] → s.heap.get? c = some o → hp.get? c = some o) → Q none { s with heap := hp }) : wpAny (model prog w) A (pyNext (.ref z)) Q E s := by
  have ty : s.TypeIs (.ref z) "zip" := ⟨_, hz, rfl⟩
  have done : ∀ {h' : Heap} {e : Addr}, (∀ c o, c ∉ [z, TO, i1, i2] → s.heap.get? c = some o → h'.get? c = some o) → isStop h' e → wpAny (model prog w) A (isInstance (.ref e) (.type "StopIteration") >>= fun b => if b then (pure none : Sem (Option Value)) else throw (.ref e)) Q E { s with heap := h' } :=
    fun kp ⟨o, e1, e2⟩ => wpAny_bind (wpAny_isInstance (T := "StopIteration") (b := true) ⟨o, e1, e2⟩ isSubtype_stop (wpAny_pure (go _ kp)))
  unfold pyNext
  refine wpAny_bind (wpAny_attempt (wpAny_callSpecial?_slot (name := Str.ofString "__next__") ty F.slot_zip_next (wpAny_call_entry F.slot_zip_next ty F.entry_zip_next ?_ (F.args_zip_next_1 _))))
  show wpAny _ _ (field (.ref z) 2 >>= fun _ => _) _ _ _
  refine wpAny_bind (wpAny_field hz rfl (x := .bool false) rfl (show wpAny _ _ (field (.ref z) 3 >>= fun _ => _) _ _ _ from wpAny_bind (wpAny_field hz rfl (x := .ref TI) rfl (wpAny_bind (wpAny_seqItems pr rfl (show wpAny _ _ (Builtin.SmallTypes.ownedTupleIsFree (.ref z) >>= fun _ => _) _ _ _ from wpAny_bind ?_))))))
  (unfold Builtin.SmallTypes.ownedTupleIsFree)
  (refine wpAny_bind (wpAny_field hz rfl (x := .none) rfl (wpAny_pure ?_)))
  simp only [if_true]
  refine wpAny_bind (wpAny_rule (wpAny_bind (wpAny_field hz rfl (x := .ref TO) rfl (wpAny_bind (wpAny_setField_rec hz (by simp) fun ha za sa => ?_)))))
  replace za : IsZip ha z TI TO .ellipsis := za
  refine wpAny_bind ?_
  (simp only [List.zipIdx_cons, List.zipIdx_nil, List.forIn_cons, List.forIn_nil])
  refine wpAny_bind (wpAny_bind (wpAny_onRaise (show wpAny _ _ (Builtin.SmallTypes.nextOf (.ref i1) >>= fun _ => _) _ _ _ from ?_)))
  have notZ : ∀ {h : Heap} {e : Addr} {v : Value}, IsZip h z TI TO v → isStop h e → e ≠ z := fun hz2 ⟨o, e1, e2⟩ q => by
    subst q
    rw [hz2] at e1
    cases e1
    simp at e2
  cases hx : xs[k]? with
  | none =>
    refine wpAny_bind (nextOf_tup_hot (s := { s with heap := ha }) (x1 := x1) (hot_keeps hot fun o q => sa.extBut x1 o nz q) n1 (c1.extBut sa.extBut D.i1z) (m1.extBut sa.extBut D.l1z) hx fun hb e sb ex => ?_)
    have zb : IsZip hb z TI TO .ellipsis := sb _ _ D.i1z.symm za
    obtain ⟨oe, g1, g2⟩ := ex
    have ez := notZ zb ⟨oe, g1, g2⟩
    refine wpAny_setField_rec zb (by simp) fun hc _ sc => done (fun c o n q => ?_) ⟨oe, sc.extBut _ _ ez g1, g2⟩
    simp only [List.mem_cons, List.not_mem_nil, or_false, not_or] at n
    exact sc.extBut _ _ n.1 (sb _ _ n.2.2.1 (sa.extBut _ _ n.1 q))
  | some x =>
    have hy : ys[k]? = none := stop.resolve_left (by rw [hx]; simp)
    refine wpAny_bind (RZ.nextOf_tuple_item (s := { s with heap := ha }) (c1.extBut sa.extBut D.i1z) (m1.extBut sa.extBut D.l1z) hx fun hb b1 sb => wpAny_pure ?_)
    have ob : IsPair hb TO p0 q0 := sb.extBut _ _ D.TOi1 (sa.extBut _ _ D.TOz out)
    refine wpAny_bind (wpAny_seqItems ob rfl (wpAny_bind (wpAny_updateSeq_pair ob fun hc oc sc => wpAny_bind (wpAny_letGo (wpAny_pure (wpAny_bind (wpAny_bind (wpAny_onRaise (show wpAny _ _ (Builtin.SmallTypes.nextOf (.ref i2) >>= fun _ => _) _ _ _ from ?_)))))))))
    have kx : ∀ o, s.heap.get? x1 = some o → hc.get? x1 = some o := fun o q => sc.extBut x1 o nO (sb.extBut x1 o n1 (sa.extBut x1 o nz q))
    refine wpAny_bind (nextOf_tup_hot (s := { s with heap := hc }) (x1 := x1) (hot_keeps hot kx) n2 (((c2.extBut sa.extBut D.i2z).extBut sb.extBut D.i12.symm).extBut sc.extBut D.TOi2.symm) (((m2.extBut sa.extBut D.l2z).extBut sb.extBut D.l2i1).extBut sc.extBut D.l2TO) hy fun hd e sd ex => ?_)
    have zd : IsZip hd z TI TO .ellipsis := sd _ _ D.i2z.symm (sc.extBut _ _ D.TOz.symm (sb.extBut _ _ D.i1z.symm za))
    obtain ⟨oe, g1, g2⟩ := ex
    have ez := notZ zd ⟨oe, g1, g2⟩
    refine wpAny_setField_rec zd (by simp) fun hf _ sf => done (fun c o n q => ?_) ⟨oe, sf.extBut _ _ ez g1, g2⟩
    simp only [List.mem_cons, List.not_mem_nil, or_false, not_or] at n
    exact sf.extBut _ _ n.1 (sd _ _ n.2.2.2 (sc.extBut _ _ n.2.1 (sb.extBut _ _ n.2.2.1 (sa.extBut _ _ n.1 q))))
end
section
variable {X : Cx} {pins : List (Addr × Obj)} {σ : L2.St} {C : Cf} {W : WX} {a b : Expr} {fa : CV → Rs (List (D × Md))}
/-- list(zip(a, b)) of two tuples, where an exception is handled -/
theorem zEnd_hot {A : Around} (hA : A.handled = X.A.handled) (hc : L2H.HotC X) {z TI TO i1 i2 l1 l2 : Addr} (D : ZipApart z TI TO i1 i2 l1 l2) : ZEnd X pins σ A true z TI TO i1 i2 l1 l2 := by
  intro k H s xs ys Q E I hf st m1 m2 stop nz go
  obtain ⟨p, ⟨hh, v1, e1, c1⟩, hp⟩ := (hc)
  have hot : HotX.HotAt A p.1 s.heap := ⟨hA.trans hh, p.2, v1, (I.pin p (List.mem_append_left _ hp)).1, e1, c1⟩
  have ne : ∀ b ∈ [z, TI, TO, i1, i2], p.1 ≠ b := fun b hb => by
    obtain ⟨_, _, _, _, _, q⟩ := hf b hb
    exact q p (List.mem_append_left _ hp)
  obtain ⟨a1, a2, a3, _, a4⟩ := st
  rcases a4 with ⟨b0, b1, p0, q0, b2⟩ | ⟨T, f, oT, b1, b2, b3⟩
  · refine first_end_hot hot (ne _ (by simp)) (ne _ (by simp)) (ne _ (by simp)) (ne _ (by simp)) D b1 a3 b2 a1 a2 m1 m2 stop fun hp n6 => go hp fun c o n e => n6 c o ?_ e
    simp only [List.mem_cons, List.not_mem_nil, or_false, not_or] at n ⊢
    exact ⟨n.1, n.2.2.1, n.2.2.2.1, n.2.2.2.2⟩
  · refine held_end_hot hot (ne _ (by simp)) (ne _ (by simp)) (ne _ (by simp)) D b1 b2 a3 a1 a2 m1 m2 stop fun hp n6 => go hp fun c o n e => n6 c o ?_ e
    simp only [List.mem_cons, List.not_mem_nil, or_false, not_or] at n ⊢
    exact ⟨n.1, n.2.2.2.1, n.2.2.2.2⟩
theorem se_listZipH {p p2 pos2 pos : Pos} (hc : L2H.HotC X) (hm : X.mg "list" = none) (hmz : X.mg "zip" = none) (ha : PA X [a, b] (tA C W fa)) (hK : X.K = C.K := by rfl) (hg : Gl X "list" := by rfl) (hg2 : Gl X "zip" := by rfl)
    (hs : starEach [a, b] X.env = (false, eval a X.env) :: starEach [b] X.env := by rfl) (hpl : (backTo pos2 (starEach [b] X.env)).any (·.1) = false := by rfl) (he0 : starEach [.Call (.Name "zip" p2) [a, b] [] pos2] X.env = (false, eval (.Call (.Name "zip" p2) [a, b] [] pos2) X.env) :: starEach [] X.env := by rfl) :
    PE X (.Call (.Name "list" p) [.Call (.Name "zip" p2) [a, b] [] pos2] [] pos) (tE C W (mCallB hListZip fa)) :=
  se_listZipG (gz := true) (fun pins σ z TI TO i1 i2 l1 l2 D => zEnd_hot (A := X.A.in1.in1) rfl hc D) (fun ds r e => ⟨e, .inl rfl⟩) hm hmz ha hK hg hg2 hs hpl he0
/-- (a, b, ..) = a tuple of that length, where an exception is handled -/
theorem pg_tupH {es : List Expr} {k : Nat} {t : TGs} {n : Nat} {pos : Pos} (hc : L2H.HotC X) (h : PGs X es t) (hn : (assignEach es X.env).length = n := by rfl)
    (hst : (assignEach es X.env).findIdx? (·.1) = none := by rfl) : PG X (.Tuple es k pos) (gTup X.K n t) := by
  constructor
  rintro pins s σ H v u Q I r ⟨a, xs, rfl, hq, hl, hw⟩
  cases r
  obtain ⟨its, rv, ht, hz⟩ := (I.tuple hq)
  obtain ⟨x1, hot⟩ := hc.at I
  have hx1 : x1 < s.heap.objs.size := by
    obtain ⟨_, o1, v1, g1, _⟩ := hot
    exact Heap.lt_size g1
  have la : a < s.heap.objs.size := by
    obtain ⟨o, g, _⟩ := id ht
    exact Heap.lt_size g
  have sz : (assignEach es X.env).length = its.toArray.size := by simp [hn, ← hl, rv.length]
  (rw [PyProof.Rows.assign_Tuple])
  apply wpAny_bind (wpAny_standAt ?_)
  unfold unpack
  rw [sz, hst]
  apply wpAny_bind (wpAny_holding ?_)
  unfold unpackItems notIterableAtAll
  refine wpAny_bind (wpAny_bind (wpAny_specialOf ht.typeIs slot_tuple_iter.lookup (wpAny_pure ?_)))
  (simp only [Bool.false_eq_true, if_false])
  (refine wpAny_bind (wpAny_holding (iter_tuple ht ?_)))
  refine wpAny_bind (wpAny_holding (draw_tuple (Nat.ne_of_lt la) its.toArray.size 0 _ _ ⟨_, Heap.get?_push_size _ rfl, rfl, rfl⟩ (ht.push _) (by omega) fun h1 it1 k1 => ?_))
  have whole : List.take its.toArray.size (List.drop 0 its.toArray.toList) = its := by simp
  rw [whole, if_neg (by simp)]
  have keep1 : ∀ b o, s.heap.get? b = some o → h1.get? b = some o := fun b o e => k1.extBut b o (Nat.ne_of_lt (Heap.lt_size e)) (Heap.get?_push_of_some _ e)
  refine wpAny_bind (wpAny_holding (tup_end_hot (x1 := x1) (hot_keeps hot fun o e => keep1 _ o e) (Nat.ne_of_lt hx1) it1 ((ht.push _).extBut k1.extBut (Nat.ne_of_lt la)) (by simp) fun h2 k2 => ?_))
  (simp only [Option.isSome_none, Bool.false_eq_true, if_false])
  refine wpAny_pure ?_
  have J : Inv X pins σ H { s with heap := h2 } := I.kept (t' := s.toks) fun b o e => k2 b o (Nat.ne_of_lt (Heap.lt_size e)) (keep1 b o e)
  exact h.run pins _ σ H xs _ Q J rv hw
end
end Eng

set_option Elab.async false
set_option linter.all false
set_option maxRecDepth 100000
set_option maxHeartbeats 2345678
/-! Eng41: all(..) over a text or a list, where an exception is handled. -/
namespace Eng
open PySem PySem.Spec
open PyProof.Rows L2 GxR
section
variable {prog : Program} {w : World} {s : Shared} {A : Around} {E : Value → Shared → Prop}
/-- a new StopIteration, then f -/
theorem newStop_hot {α : Type} {x1 : Addr} {f : Value → Sem α} {Q : α → Shared → Prop} (hot : HotX.HotAt A x1 s.heap)
    (go : ∀ (h' : Heap) (e : Addr) (oe : Obj) (vs : Array Value), HotX.HotAt A x1 h' → x1 ≠ e → h'.get? e = some oe → oe.cls = .type "StopIteration" → oe.data = .fields vs → 2 < vs.size → s.heap.objs.size ≤ e → (∀ b o, s.heap.get? b = some o → h'.get? b = some o) → wpAny (model prog w) A (f (.ref e)) Q E { s with heap := h' }) :
    wpAny (model prog w) A (newExc (.type "StopIteration") [] >>= f) Q E s := by
  refine wpAny_bind ?_
  simp only [newTuple, newExc]
  (refine wpAny_bind (wpAny_newObj_type ?_ (by size_fits)))
  (refine wpAny_bind (m := firstArgMember _ _) (wpAny_of_eq (a := Value.none) (by first | rfl | (simp only [firstArgMember]; rfl)) ?_))
  (refine wpAny_newObj_type ?_ (by size_fits))
  have k : ∀ {b : Addr} {o o1 o2 : Obj}, s.heap.get? b = some o → ((s.heap.push o1).push o2).get? b = some o := fun q => Heap.get?_push_of_some _ (Heap.get?_push_of_some _ q)
  obtain ⟨hh, o1, vs1, h1, d1, c1⟩ := (hot)
  refine go _ _ _ _ ⟨hh, o1, vs1, k h1, d1, c1⟩ (Nat.ne_of_lt (Heap.lt_size (Heap.get?_push_of_some _ h1))) (Heap.get?_push_size _ rfl) rfl rfl (by first | (simp; done) | (simp; omega) | (simp only [Array.size_append]; simp; omega)) (by rw [Heap.size_push]; exact Nat.le_succ _) fun b o q => k q
/-- the next item of a generator, where an exception is handled -/
theorem gen_next_hot {a x1 : Addr} {g n : Nat} {gs : GenState} {P : Nat → Shared → Shared → Prop} {Y : Protocol} {Q : Option Value → Shared → Prop} (hl : s.heap.NoLimit) (hroom : A.depth < recursionLimit) (hg : s.heap.IsGen a g) (hgs : s.gens[g]? = some gs)
    (hgo : gs.Goes (model prog w) A.in1 (fun n s0 r s1 => r = .ok .next ∧ P n s0 s1) Y n (.send .none) (s.setGen g .running))
    (hY : ∀ v s1 gs', gs'.bare = true → Y (n - 1) (s.setGen g .running) v s1 (fun r' s2 => match n with
        | 0 => False
        | m + 1 => gs'.Goes (model prog w) A.in1 (fun n s0 r s1 => r = .ok .next ∧ P n s0 s1) Y m r' s2) → Q (some v) (s1.setGen g gs'))
    (hP : ∀ s1, P n (s.setGen g .running) s1 → HotX.HotAt A x1 s1.heap ∧ ∀ h', (∀ b o, s1.heap.get? b = some o → h'.get? b = some o) → Q none { s1.setGen g .finished with heap := h' }) :
    (wpAny (model prog w) A (pyNext (.ref a)) Q E s) := by
  unfold pyNext
  apply wpAny_bind
  apply wpAny_attempt
  refine wpAny_callSpecial?_slot (name := Str.ofString "__next__") hg.typeIs slot_gen_next (wpAny_call_entry slot_gen_next hg.typeIs entry_gen_next ?_ (args_gen_next _))
  show (wpAny _ A.in1 (Builtin.Generator.genWake (.ref a) (.send .none)) _ _ _)
  (unfold Builtin.Generator.genWake)
  (refine wpAny_bind (wpAny_holding (wpAny_genNumber hg (wpAny_bind (wpAny_genState hgs ?_)))))
  cases gs with
  | running => cases hgo
  | finished => cases hgo
  | _ =>
    (refine wpAny_bind (wpAny_roomToWake hl hroom ?_))
    show (wpAny _ A.in1 (.resume g (.send .none) [] _) _ _ _)
    refine wpAny_resumeQ hgs hgo ?_ ?_
    · rintro x s1 ⟨rfl, hp⟩
      obtain ⟨hot, fin⟩ := hP s1 hp
      show (wpAny _ A.in1 (newExc (.type "StopIteration") [] >>= fun _ => _) _ _ _)
      refine newStop_hot (A := A.in1) (x1 := x1) (s := { s1.setGen g .finished with }) hot ?_
      intro h' e oe vs hot' ne ge ce de lt big kp
      refine wpAny_bind (HotX.raiseNew_hot (s := { s1.setGen g .finished with heap := h' }) hot' ne ge de lt ?_)
      refine wpAny_bind (wpAny_isInstance (T := "StopIteration") (b := true) ⟨_, Heap.get?_update_self _ ge (Obj.isFreed_of_fields (Obj.data_mapFields de _)), (Obj.cls_mapFields ..).trans ce⟩ isSubtype_stop ?_)
      refine wpAny_pure (fin _ fun b o q => ?_)
      have nb : e ≠ b := fun z => by
        rw [z] at big
        exact absurd (Nat.lt_of_lt_of_le (Heap.lt_size q) big) (Nat.lt_irrefl _)
      exact (Heap.get?_update_other _ _ nb).trans (kp b o q)
    · intro v s1 gs' hb hv
      exact wpAny_pure ⟨v, rfl, wpAny_pure (hY v s1 gs' hb hv)⟩
end

/-! ### the generator's frame: el its element, y its name; IS: where the iterator stands, It: what it hands out -/
section
variable {X : Cx} {pins : List (Addr × Obj)} {σ : L2.St} {T : List Addr} {H0 H H' : Hp} {L I a : Addr} {g i : Nat} {s : Shared} {cenv : Env} {IS : Nat → Heap → Prop}
structure GH (X : Cx) (pins : List (Addr × Obj)) (σ : L2.St) (T : List Addr) (H0 : Hp) (L I a : Addr) (IS : Nat → Heap → Prop) (g i : Nat) (s : Shared) : Prop where
  hp : ∃ H, Sm H0 H ∧ Tab T H ∧ Inv X pins σ H s ∧ ∀ b, b = L ∨ b = I ∨ b = a → H b = none
  it : IS i s.heap
  itx : ∃ o, s.heap.get? I = some o
  ns : ∃ m, s.heap.Ns L m
  gen : s.heap.IsGen a g
  lt : g < s.gens.size
abbrev Stays (I : Addr) (IS : Nat → Heap → Prop) : Prop := ∀ i h h', IS i h → (∀ o, h.get? I = some o → h'.get? I = some o) → IS i h'
theorem GH.home (J : GH X pins σ T H0 L I a IS g i s) : Home X pins σ T H0 s := let ⟨H, h1, h2, h3, _⟩ := J.hp; ⟨H, h1, h2, h3⟩
theorem GH.setGen {x : GenState} (J : GH X pins σ T H0 L I a IS g i s) (hx : x.bare = true) : GH X pins σ T H0 L I a IS g i (s.setGen g x) := by
  obtain ⟨⟨H, h1, h2, h3, h4⟩, j1, j0, j2, j3, j4⟩ := J
  exact ⟨⟨H, h1, h2, Inv.gensTo h3 (setGen_bare h3.bare hx), h4⟩, j1, j0, j2, j3, by rw [GenW.setGen_size]; exact j4⟩
theorem GH.turn (O : Ours X pins L I a) (J : GH X pins σ T H0 L I a IS g i s) {h' : Heap} {t' : Nat} (it' : IS (i + 1) h') (k : Heap.SameBut I s.heap h') (al : ∃ o, h'.get? I = some o) : GH X pins σ T H0 L I a IS g (i + 1) { s with heap := h', toks := t' } := by
  obtain ⟨⟨H, h1, h2, h3, h4⟩, j1, j0, ⟨m, j2⟩, ⟨o, nm, qn, ho, r⟩, j4⟩ := J
  exact ⟨⟨H, h1, h2, O.turned h3 (.inr (.inl rfl)) (h4 I (.inr (.inl rfl))) k, h4⟩, it', al, ⟨m, j2.sameBut k O.li⟩, ⟨o, nm, qn, k.extBut a o O.ia.symm ho, r⟩, j4⟩
theorem GH.store (S : Stays I IS) (O : Ours X pins L I a) (J : GH X pins σ T H0 L I a IS g i s) {h' : Heap} {m : Str → Option Value} {t' : Nat} (ns' : h'.Ns L m) (k : Heap.SameBut L s.heap h') : GH X pins σ T H0 L I a IS g i { s with heap := h', toks := t' } := by
  obtain ⟨⟨H, h1, h2, h3, h4⟩, j1, ⟨oi, j0⟩, _, ⟨o, nm, qn, ho, r⟩, j4⟩ := J
  exact ⟨⟨H, h1, h2, O.turned h3 (.inl rfl) (h4 L (.inl rfl)) k, h4⟩, S _ _ _ j1 fun o e => k.extBut I o O.li.symm e, ⟨oi, k.extBut I oi O.li.symm j0⟩, ⟨m, ns'⟩, ⟨o, nm, qn, k.extBut a o O.la.symm ho, r⟩, j4⟩
/-- more objects alone -/
theorem GH.more (S : Stays I IS) (J : GH X pins σ T H0 L I a IS g i s) {s' : Shared} (k : Keeps s s') : GH X pins σ T H0 L I a IS g i s' := by
  obtain ⟨⟨H, h1, h2, h3, h4⟩, j1, ⟨oi, j0⟩, ⟨m, j2⟩, ⟨o, nm, qn, ho, r⟩, j4⟩ := J
  obtain ⟨h', t', rfl, kp⟩ := k
  exact ⟨⟨H, h1, h2, h3.kept (t' := t') kp, h4⟩, S _ _ _ j1 fun o e => kp _ o e, ⟨oi, kp _ _ j0⟩, ⟨m, j2.keeps kp⟩, ⟨o, nm, qn, kp _ _ ho, r⟩, j4⟩
theorem GH.called (S : Stays I IS) (O : Ours X pins L I a) (J : GH X pins σ T H0 L I a IS g i s) (hf : cenv.frame = some L) (hJ : Inv X pins σ H s) (h4 : ∀ b, b = L ∨ b = I ∨ b = a → H b = none) {s' : Shared} (h1 : Sm H0 H') (h2 : Tab T H') (hos : s'.os = s.os) (hb : AllBare s'.gens)
    (un : Un (frs (cenv :: X.stack)) [] H H' s.heap s'.heap) (hok : HOk X.prog X.w H' s'.heap) (hg : s.gens.size ≤ s'.gens.size) : GH X pins σ T H0 L I a IS g i s' := by
  have fr : frs (cenv :: X.stack) = L :: frs X.stack := by
    unfold frs
    rw [List.filterMap_cons, hf]
  rw [fr] at un
  have nf : ∀ b, b = L ∨ b = I ∨ b = a → b ∉ frs X.stack := fun b hb' z => by
    obtain ⟨_, q2, q3, _⟩ := O.fp b hb' H (h4 b hb')
    rcases List.mem_cons.mp (hJ.stkSub b z) with w | w
    · exact q2 w
    · exact q3 w
  have hI : ∀ o, s.heap.get? I = some o → s'.heap.get? I = some o := fun o e => un.keep I o e (h4 I (.inr (.inl rfl))) (fun z => (List.mem_cons.mp z).elim (fun w => O.li w.symm) (nf I (.inr (.inl rfl)))) (by simp)
  have ha : ∀ o, s.heap.get? a = some o → s'.heap.get? a = some o := fun o e => un.keep a o e (h4 a (.inr (.inr rfl))) (fun z => (List.mem_cons.mp z).elim (fun w => O.la w.symm) (nf a (.inr (.inr rfl)))) (by simp)
  obtain ⟨_, j1, ⟨oi, j0⟩, ⟨m, ol, es, ep, hol, r⟩, ⟨o, nm, qn, ho, r2⟩, j4⟩ := J
  obtain ⟨sl, eL⟩ := un.any hol (h4 L (.inl rfl)) (by simp)
  refine ⟨⟨H', h1, h2, ?_, fun b hb' => ?_⟩, S _ _ _ j1 hI, ⟨oi, hI _ j0⟩, ⟨m, _, es, ep, eL, r⟩, ⟨o, nm, qn, ha o ho, r2⟩, Nat.lt_of_lt_of_le j4 hg⟩
  · refine hJ.call' (ch := [L]) hos ⟨fun b o e n h1 h2 => un.keep b o e n (fun z => (List.mem_cons.mp z).elim (fun w => h2 (by rw [w]; exact List.mem_singleton.mpr rfl)) h1) (by simp), fun b o e n h1 _ => un.slot b o e n (List.mem_cons_of_mem _ h1) (by simp),
      fun b o e n _ => un.free b o e n (by simp), fun b o e _ => un.there b o e (by simp), un.tups, un.frzs, un.tbls⟩ hok hb fun b hb' => ?_
    rw [List.mem_singleton.mp hb']
    obtain ⟨_, q2, _, q4, q5, q6⟩ := O.fp L (.inl rfl) H (h4 L (.inl rfl))
    exact ⟨q4, q2, q5, q6⟩
  · rcases hb' with z | z | z
    · rw [z]; exact un.free L _ hol (h4 L (.inl rfl)) (by simp)
    · rw [z]; exact un.free I _ j0 (h4 I (.inr (.inl rfl))) (by simp)
    · rw [z]; exact un.free a _ ho (h4 a (.inr (.inr rfl))) (by simp)
/-- the generator's names -/
structure GSn (X : Cx) (sc : Scope) (y : Str) : Prop where
  kind : sc.kind = .function
  co : sc.isCoroutine = false
  cell : ∀ z ∈ sc.names, z.2 ≠ .cell
  dot : sc.names.lookup (".0" : Str) = some NameKind.local
  loc : sc.names.lookup y = some .local
  free : X.Ok → ∀ z ∈ sc.names, z.2 = .free → ∃ c, X.env.cells.lookup z.1 = some c
/-- where an element is evaluated -/
structure Below (X : Cx) (cenv : Env) (A' : Around) : Prop where
  hd : A'.handled = X.A.handled
  fr : A'.frames = some (cenv :: X.stack)
  dp : A'.depth ≤ X.A.depth + 1
  un : A'.units ≤ X.A.units + 5
/-- the walk: what the iterator and the element do -/
structure Wk (X : Cx) (pins : List (Addr × Obj)) (σ : L2.St) (T : List Addr) (H0 : Hp) (L I a : Addr) (IS : Nat → Heap → Prop) (It : Nat → Value → Prop) (g : Nat) (cenv : Env) (el : Expr) (y : Str) (bs : List Bool) : Prop where
  stay : Stays I IS
  self : ∀ (i : Nat) (s : Shared) (A : Around) (Q : Value → Shared → Prop) (E : Value → Shared → Prop), IS i s.heap → Q (.ref I) s → wpAny (model X.prog X.w) A (pyIter (.ref I)) Q E s
  item : ∀ (i : Nat) (c : Bool) (s : Shared) (A : Around) (Q : Option Value → Shared → Prop) (E : Value → Shared → Prop), bs[i]? = some c → GH X pins σ T H0 L I a IS g i s →
    (∀ ux h' t', It i ux → IS (i + 1) h' → Heap.SameBut I s.heap h' → (∃ o, h'.get? I = some o) → Q (some ux) { s with heap := h', toks := t' }) → wpAny (model X.prog X.w) A (pyNext (.ref I)) Q E s
  done : ∀ (s : Shared) (A : Around) (Q : Option Value → Shared → Prop) (E : Value → Shared → Prop), A.handled = X.A.handled → GH X pins σ T H0 L I a IS g bs.length s →
    (∀ h', (∀ b o, b ≠ I → s.heap.get? b = some o → h'.get? b = some o) → Q none { s with heap := h' }) → wpAny (model X.prog X.w) A (pyNext (.ref I)) Q E s
  elt : ∀ (i q : Nat) (c : Bool) (ux : Value) (s : Shared) (m : Str → Option Value) (A' : Around) (E : Value → Shared → Prop), Below X cenv A' → GH X pins σ T H0 L I a IS g q s → s.heap.Ns L m → m y = some ux → It i ux → bs[i]? = some c →
    wpAny (model X.prog X.w) A' (eval el cenv) (fun v s' => v = .bool c ∧ GH X pins σ T H0 L I a IS g q s') E s
end
section
variable {X : Cx} {pins : List (Addr × Obj)} {σ : L2.St} {T : List Addr} {H0 : Hp} {L I a : Addr} {g : Nat} {sc : Scope} {y : Str} {py gp : Pos} {el src : Expr} {bs : List Bool} {co bi : Value} {IS : Nat → Heap → Prop} {It : Nat → Value → Prop}
abbrev hExp (el : Expr) (y : Str) (py gp : Pos) (src : Expr) (sc : Scope) : Expr := .GeneratorExp el [⟨.Name y py, src, [], 0⟩] sc gp
def HPro (X : Cx) (pins : List (Addr × Obj)) (σ : L2.St) (T : List Addr) (H0 : Hp) (L I a : Addr) (IS : Nat → Heap → Prop) (g : Nat) (bs : List Bool) : Protocol := fun n _ v s kap =>
  ∃ i c, bs[i]? = some c ∧ v = .bool c ∧ n + (i + 1) = bs.length ∧ GH X pins σ T H0 L I a IS g (i + 1) s ∧ ∀ s', GH X pins σ T H0 L I a IS g (i + 1) s' → kap (.send .none) s'
theorem hl_loop {A : Around} {bi : Addr} (W : Wk X pins σ T H0 L I a IS It g (gEnv X sc L co bi) el y bs) (S : GSn X sc y) (hb : Below X (gEnv X sc L co bi) (A.over (.compLoop (hExp el y py gp src sc) 0 (.ref I) .none (gEnv X sc L co bi)) [])) (O : Ours X pins L I a) : ∀ (cs : List Bool) (i : Nat) (s0 s : Shared), bs.drop i = cs → i ≤ bs.length → GH X pins σ T H0 L I a IS g i s →
    Seg (model X.prog X.w) A (GEnds X pins σ T H0) (HPro X pins σ T H0 L I a IS g bs) cs.length s0 (.compLoop (hExp el y py gp src sc) 0 (.ref I) .none (gEnv X sc L co bi))
      ((model X.prog X.w).den (.compLoop (hExp el y py gp src sc) 0 (.ref I) .none (gEnv X sc L co bi))) [] s := by
  intro cs
  induction cs with
  | nil =>
    intro i s0 s hd hi J
    have ei : i = bs.length := by
      have := List.drop_eq_nil_iff.mp hd
      omega
    subst ei
    show Seg _ A _ _ _ s0 _ ((compTurn (hExp el y py gp src sc) 0 (.ref I) .none (gEnv X sc L co bi)).onRaise (leaving (gEnv X sc L co bi))) [] s
    (rw [compTurn_gen, Sem.onRaise_eq_wrap])
    refine seg_bind_wrap (wpAny_standAt (seg_bind_wrap (W.done s _ _ _ hb.hd J fun h' hk => ?_)))
    obtain ⟨H, h1, h2, h3, h4⟩ := J.hp
    obtain ⟨q1, q2, q3, q4, q5, q6⟩ := O.fp I (.inr (.inl rfl)) H (h4 I (.inr (.inl rfl)))
    exact seg_end (.ok .next) ⟨rfl, rfl, H, h1, h2, h3.turned (t' := s.toks) (fun b o hb e => hk b o hb e) q1 q2 q4 q5 q6⟩
  | cons c cs ih =>
    intro i s0 s hd hi J
    have ec : bs[i]? = some c := by
      have := congrArg (fun l => l[0]?) hd
      simpa using this
    have en : bs.drop (i + 1) = cs := by
      rw [← List.drop_drop, hd]
      rfl
    have lt := (List.getElem?_eq_some_iff.mp ec).1
    show Seg _ A _ _ _ s0 _ ((compTurn (hExp el y py gp src sc) 0 (.ref I) .none (gEnv X sc L co bi)).onRaise (leaving (gEnv X sc L co bi))) [] s
    (rw [compTurn_gen, Sem.onRaise_eq_wrap])
    refine seg_bind_wrap (wpAny_standAt (seg_bind_wrap (W.item i c s _ _ _ ec J fun ux h1 t1 iu it1 k1 al => ?_)))
    have J1 := J.turn (t' := t1) O it1 k1 al
    obtain ⟨m1, n1⟩ := J1.ns
    refine seg_bind_wrap (wpAny_of_eq (rfl : letOwnedTupleGo (.Name y py) (.ref I) ux = pure ()) ?_)
    refine seg_bind_wrap (wpAny_assign_Name (wpAny_storeName_local (show (gEnv X sc L co bi).kindOf y = some .local from S.loc) n1 (fun h2 n2 k2 => ?_) (by show (sc.kind == .class || (sc.kind == .module && _)) = false; rw [S.kind]; rfl)))
    have J2 := J1.store W.stay (t' := t1 + 1) O n2 k2
    simp only [List.forIn_nil]
    refine seg_bind_wrap (wpAny_pure ?_)
    have hy : ∀ v, yieldOut (gEnv X sc L co bi) v = yieldValue v := fun v => by
      unfold yieldOut
      rw [show (gEnv X sc L co bi).scope.isCoroutine = false from S.co]
      rfl
    simp only [if_true, hy]
    (rw [Sem.bind_eq_wrap', Sem.bind_eq_wrap', Sem.wrap_wrap, Sem.wrap_wrap])
    refine seg_wrap (thn (W.elt i (i + 1) c ux _ _ _ _ hb J2 n2 (if_pos rfl) iu ec) fun v s4 hv => ?_)
    obtain ⟨rfl, J4⟩ := hv
    have hlen : cs.length + (i + 1) = bs.length := by
      rw [← en, List.length_drop]
      omega
    exact seg_at (seg_yield rfl rfl rfl ⟨i, c, ec, rfl, hlen, J4, fun s5 J5 => seg_again rfl (ih (i + 1) s5 s5 en lt J5)⟩)
theorem hl_start {A : Around} {bi : Addr} (W : Wk X pins σ T H0 L I a IS It g (gEnv X sc L co bi) el y bs) (S : GSn X sc y) (hb : Below X (gEnv X sc L co bi) (A.over (.compLoop (hExp el y py gp src sc) 0 (.ref I) .none (gEnv X sc L co bi)) [])) (O : Ours X pins L I a) {s0 s : Shared} (J : GH X pins σ T H0 L I a IS g 0 s) :
    Seg (model X.prog X.w) A (GEnds X pins σ T H0) (HPro X pins σ T H0 L I a IS g bs) bs.length s0 (.compStart (hExp el y py gp src sc) 0 (.ref I) .none (gEnv X sc L co bi))
      ((model X.prog X.w).den (.compStart (hExp el y py gp src sc) 0 (.ref I) .none (gEnv X sc L co bi))) [] s := by
  have go := hl_loop (py := py) (gp := gp) (src := src) W S hb O bs 0 s0 s rfl (Nat.zero_le _) J
  show Seg _ A _ _ _ s0 _ ((compStart (hExp el y py gp src sc) 0 (.ref I) .none (gEnv X sc L co bi)).onRaise (leaving (gEnv X sc L co bi))) [] s
  unfold compStart
  rw [Sem.onRaise_eq_wrap]
  show Seg _ A _ _ _ s0 _ ((ask >>= _).wrap _ _ _ _) [] s
  refine (seg_bind_wrap (wpAny_askSetting ?_))
  split
  · exact seg_again rfl go
  · first
      | exact seg_bind_wrap (wpAny_rule (seg_bind_wrap (wpAny_standAt (seg_bind_wrap (W.self _ _ _ _ _ J.it (seg_again rfl go))))))
      | (refine seg_bind_wrap (wpAny_rule ?_)
         show Seg _ A _ _ _ s0 _ ((standAt _ >>= _).wrap _ _ _ _) [] s
         exact seg_bind_wrap (wpAny_standAt (seg_bind_wrap (W.self _ _ _ _ _ J.it (seg_again rfl go)))))
def HSt (X : Cx) (A : Around) (pins : List (Addr × Obj)) (σ : L2.St) (T : List Addr) (H0 : Hp) (L I a : Addr) (IS : Nat → Heap → Prop) (g : Nat) (bs : List Bool) (i : Nat) (s : Shared) : Prop :=
  GH X pins σ T H0 L I a IS g i s ∧ ∃ gs, s.gens[g]? = some gs ∧ ∀ s', GH X pins σ T H0 L I a IS g i s' → gs.Goes (model X.prog X.w) A.in1 (GEnds X pins σ T H0) (HPro X pins σ T H0 L I a IS g bs) (bs.length - i) (.send .none) s'
theorem hot_of {A : Around} (hc : L2H.HotC X) (hA : A.handled = X.A.handled) {H : Hp} {s : Shared} (I : Inv X pins σ H s) : ∃ x1, HotX.HotAt A x1 s.heap := by
  obtain ⟨x1, hh, r⟩ := hc.at I
  exact ⟨x1, hA.trans hh, r⟩
theorem hen_turns {A : Around} (hc : L2H.HotC X) (hA : A.handled = X.A.handled) (hroom : A.depth < recursionLimit) : Turns X.prog X.w A a bs (HSt X A pins σ T H0 L I a IS g bs) (Home X pins σ T H0) where
  item := fun i c s Q E ec st hQ => by
    obtain ⟨J, gs, hgs, hgo⟩ := st
    have lt := (List.getElem?_eq_some_iff.mp ec).1
    obtain ⟨H, _, _, hJ, _⟩ := J.hp
    obtain ⟨n, hn⟩ : ∃ n, bs.length - i = n + 1 := ⟨bs.length - i - 1, by omega⟩
    rw [hn] at hgo
    obtain ⟨x1, hot⟩ := hot_of hc hA hJ
    refine gen_next_hot (x1 := x1) (P := fun n _ s1 => n = 0 ∧ Home X pins σ T H0 s1) hJ.nolimit hroom J.gen hgs (hgo _ (J.setGen rfl)) (fun v s1 gs' hb hv => ?_) (fun s1 hp => ?_)
    · obtain ⟨i', c', ec', rfl, hl, J', hkap⟩ := hv
      have ei : i' = i := by omega
      subst ei
      rw [ec] at ec'
      cases ec'
      refine hQ _ ⟨J'.setGen hb, gs', setGen_get J'.lt, fun s' J2 => ?_⟩
      have e : bs.length - (i' + 1) = n := by omega
      rw [e]
      exact hkap s' J2
    · exact absurd hp.1 (Nat.succ_ne_zero n)
  done := fun s Q E st hQ => by
    obtain ⟨J, gs, hgs, hgo⟩ := st
    obtain ⟨H, _, _, hJ, _⟩ := J.hp
    rw [Nat.sub_self] at hgo
    obtain ⟨p, ⟨hh, v1, e1, c1⟩, hp⟩ := (hc)
    refine gen_next_hot (x1 := p.1) (P := fun n _ s1 => n = 0 ∧ Home X pins σ T H0 s1) hJ.nolimit hroom J.gen hgs (hgo _ (J.setGen rfl)) (fun v s1 gs' hb hv => ?_) (fun s1 hp1 => ?_)
    · obtain ⟨i', c', ec', rfl, hl, J', hkap⟩ := hv
      exact (hkap s1 J').elim
    · obtain ⟨_, H2, h1, h2, h3⟩ := hp1
      exact ⟨⟨hA.trans hh, p.2, v1, (h3.pin p (List.mem_append_left _ hp)).1, e1, c1⟩, fun h' hk => hQ _ ⟨H2, h1, h2, (Inv.gensTo h3 (setGen_bare h3.bare rfl)).kept (t' := (s1.setGen g .finished).toks) hk⟩⟩
  fin := fun i s st => st.1.home
end
end Eng

set_option Elab.async false
set_option linter.all false
set_option maxRecDepth 100000
set_option maxHeartbeats 2345678
/-! Eng42: all(..) over a text or a list, where an exception is handled: the call. -/
namespace Eng
open PySem PySem.Spec
open PyProof.Rows L2 GxR
section
variable {X : Cx} {T : List Addr} {sc : Scope} {y : Str} {py gp p pos : Pos} {el src : Expr} {cd tb : Addr} {k : Nat} {te : TE} {tW : St → V → Hp → (V → Hp → Prop) → Prop}
/-- what a walk over v is made of: its iterator's object, what it does, the truths -/
def MkW (X : Cx) (T : List Addr) (sc : Scope) (el : Expr) (y : Str) (pins : List (Addr × Obj)) (σ : St) (H1 : Hp) (s1 : Shared) (xv : Value) (Q : V → Hp → Prop) : Prop :=
  ∃ (bs : List Bool) (oi : Obj) (IS : Nat → Heap → Prop) (It : Nat → Value → Prop), oi.isFreed = false ∧ (∀ (Q2 : Value → Shared → Prop), Q2 (.ref s1.heap.objs.size) { s1 with heap := s1.heap.push oi } → wpAny (model X.prog X.w) X.A (pyIter xv) Q2 X.xe s1) ∧
    (∀ h' : Heap, h'.get? s1.heap.objs.size = some oi → IS 0 h') ∧ (∀ (L a : Addr) (g : Nat) (co : Value) (bi : Addr), Ours X pins L s1.heap.objs.size a → Wk X pins σ T H1 L s1.heap.objs.size a IS It g (gEnv X sc L co bi) el y bs) ∧
    ∀ H2, Sm H1 H2 → Tab T H2 → Q (.bl (bs.all fun b => b)) H2
theorem pe_allHG (hc : L2H.HotC X) (hr : L2H.RoomH (k + 1) X.A) (hg : Gl X "all") (hma : X.mg "all" = none) (hb : bootBuiltins "all" = some (.builtin "all")) (TB : TabB X.base X.mg cd tb) (hcode : X.env.code = .ref cd) (S : GSn X sc y) (hsrc : PE X src te) (tbT : tb ∈ T)
    (mk : ∀ (pins : List (Addr × Obj)) (σ : St) (H1 : Hp) (s1 : Shared) (v : V) (xv : Value) (Q : V → Hp → Prop), Inv X pins σ H1 s1 → RelV v xv → tW σ v H1 Q → MkW X T sc el y pins σ H1 s1 xv Q) (hs : ∀ v, genFold src X.env v = pure v)
    (he : starEach [hExp el y py gp src sc] X.env = (false, eval (hExp el y py gp src sc) X.env) :: starEach [] X.env := by rfl) :
    PE X (.Call (.Name "all" p) [hExp el y py gp src sc] [] pos) (fun σ H Q => te σ H fun v H1 => Tab T H1 ∧ tW σ v H1 Q) := by
  refine ⟨fun pins s σ H Q I0 want => ?_⟩
  refine wpAny_Call_Name_kw (ld_blt I0 hg hma hb (PyProof.Rows.callWith_builtin1 ?_ he (by rfl)))
  rw [he]
  refine Calls.spliced_cons ?_
  refine wpAny_GeneratorExp_make S.co (closure_ok (S.free I0.ok)) S.cell S.dot S.kind (by have := hr.dp; omega) ?_ hs
  refine thn (hsrc.run pins s σ H _ I0 want) ?_
  rintro xv s1 ⟨v, H1, inv, rel, tab, want1⟩
  obtain ⟨bs, oi, IS, It, nf, iter, is0, wk, next⟩ := mk pins σ H1 s1 v xv Q inv rel want1
  obtain ⟨rows, hrows, trip⟩ := tab tb tbT
  refine iter _ ?_
  have tabS : s1.heap.get? tb = some { cls := .none, data := .fields rows } := inv.hok tb _ hrows
  have stays : ∀ b o, s1.heap.get? b = some o → (s1.heap.push oi).get? b = some o := fun b o q => Heap.get?_push_of_some _ q
  have grown : (s1.heap.push oi).objs.size = s1.heap.objs.size + 1 := Heap.size_push ..
  have tbI : tb < s1.heap.objs.size := Heap.lt_size tabS
  refine ⟨inv.nolimit.push _, gen_code hcode (TB.code.keeps fun b o q => stays b o (inv.bk b o q)) (stays tb _ tabS) trip ?_⟩
  intro cv hp tk2 add ext ge tabN tripN
  rw [grown] at ge
  obtain ⟨bm, ob, m1, m2, m3, m4, m5, m6, m7, m8⟩ := TB.bm
  have onTop : ∀ b o, b ≠ tb → s1.heap.get? b = some o → hp.get? b = some o := fun b o n q => ext b o n (stays b o q)
  refine wpAny_builtinsFor (m := X.mg) (by rw [inv.ok.glob]; exact ((inv.mod.glob.keeps inv.bk).push _).extBut ext TB.gP) m1 m2 (onTop bm ob m4 (inv.bk bm ob m5)) m6 m7 m8 ?_
  intro h' hn' hs'
  have sz' : h'.objs.size = hp.objs.size + 1 := by rw [hs'.1, Heap.size_push]
  have keep' : ∀ b o, hp.get? b = some o → h'.get? b = some o := fun b o e => hs'.extBut b o (Nat.ne_of_lt (Heap.lt_size e)) (Heap.get?_push_of_some _ e)
  have gLt : s1.gens.size < (s1.gens.push (.fresh (.compStart (hExp el y py gp src sc) 0 (.ref s1.heap.objs.size) .none (gEnv X sc hp.objs.size cv builtinsNs)))).size := by
    rw [Array.size_push]; exact Nat.lt_succ_self _
  have isI : hp.get? s1.heap.objs.size = some oi := ext _ _ (Nat.ne_of_gt tbI) (Heap.get?_push_size _ nf)
  have O : Ours X pins hp.objs.size s1.heap.objs.size h'.objs.size := by
    refine ⟨fun b hb H hn => inv.fpOk (H' := H) ?_ hn, Nat.ne_of_gt (by omega), Nat.ne_of_lt (by omega), Nat.ne_of_lt (by omega), Heap.get?_none_of_le ?_⟩
    · rcases hb with z | z | z <;> (rw [z]; first | exact Nat.le_refl _ | (show s1.heap.objs.size ≤ _; omega))
    · have q1 := inv.ok.bsz
      have q2 := inv.sz
      show X.base.objs.size ≤ hp.objs.size
      omega
  have sm5 : Sm H1 (upd H1 tb (.tbl (rows ++ add))) := fun b o e => by
    by_cases hb' : b = tb
    · rw [hb'] at e ⊢
      rw [hrows] at e
      cases e
      exact .inr ⟨rows, _, rfl, upd_same⟩
    · exact .inl (by rw [upd_ne hb']; exact e)
  have tab5 : Tab T (upd H1 tb (.tbl (rows ++ add))) := fun q hq => by
    by_cases hb' : q = tb
    · rw [hb']
      exact ⟨_, upd_same, tripN⟩
    · obtain ⟨qs, e1, e2⟩ := tab q hq
      exact ⟨qs, by rw [upd_ne hb']; exact e1, e2⟩
  apply Calls.spliced_nil
  have J0 : GH X pins σ T H1 hp.objs.size s1.heap.objs.size h'.objs.size IS s1.gens.size 0 { s1 with gens := s1.gens.push (.fresh (.compStart (hExp el y py gp src sc) 0 (.ref s1.heap.objs.size) .none (gEnv X sc hp.objs.size cv builtinsNs))), toks := tk2 + 1 + 1 + 1, heap := h'.push { cls := .type "generator", data := .fields #[.int s1.gens.size 0, .str "<genexpr>" (tk2 + 1), .str (X.env.qual ++ "<genexpr>") (tk2 + 1 + 1)] } } := by
    have atI := Heap.get?_push_of_some { cls := .type "generator", data := .fields #[.int s1.gens.size 0, .str "<genexpr>" (tk2 + 1), .str (X.env.qual ++ "<genexpr>") (tk2 + 1 + 1)] } (keep' _ _ isI)
    refine ⟨⟨_, sm5, tab5, ?_, fun b hb' => ?_⟩, is0 _ atI, ⟨_, atI⟩, ⟨_, hn'.push _⟩, ⟨_, _, _, Heap.get?_push_size _ rfl, rfl, rfl, rfl⟩, gLt⟩
    · exact inv_tab (σ := σ) (more := add) (d' := s1.drawn) inv hrows (fun b o n q => Heap.get?_push_of_some _ (keep' b o (onTop b o n q))) (Heap.get?_push_of_some _ (keep' tb _ tabN)) (fun z hz => by
        rcases Array.mem_push.mp hz with w | w
        · exact inv.bare z w
        · rw [w]; rfl)
    · have hge : s1.heap.objs.size ≤ b := by rcases hb' with z | z | z <;> (rw [z]; first | exact Nat.le_refl _ | (show s1.heap.objs.size ≤ _; omega))
      rw [upd_ne (Nat.ne_of_gt (Nat.lt_of_lt_of_le tbI hge))]
      exact inv.hok.fresh hge
  refine turns_all (wpAny_pyIter_gen J0.gen ⟨_, bs, _, Home X pins σ T H1, rfl, hen_turns (A := X.A.in1) hc rfl (by show X.A.depth < _; have := hr.dp; omega), ⟨J0, _, Array.getElem?_push_size .., fun s' J' => ⟨rfl, ?_⟩⟩, fun s' hs2 => ?_⟩)
  · refine hl_start (A := X.A.in1.in1) (wk _ _ _ _ _ O) S ⟨rfl, ?_, Nat.le_of_eq rfl, Nat.le_of_eq rfl⟩ O J'
    have e := inv.ok.frames
    revert e
    generalize X.A = A
    intro e
    have e : A.in1.in1.frames = some X.stack := e
    unfold Around.over
    dsimp only
    rw [e]
    rfl
  · obtain ⟨H2, s2, t2, i2⟩ := hs2
    exact ⟨.bl _, H2, i2, rfl, next H2 s2 t2⟩
end
/-! over a text -/
section
variable {X : Cx} {C : Cf} {W : WX} {f : CV → Rs (D × Md)} {iter : Expr}
theorem gn_free {X : Cx} {sc : Scope} (h : ∀ y ∈ sc.names, y.2 ≠ .free) : X.Ok → ∀ z ∈ sc.names, z.2 = .free → ∃ c, X.env.cells.lookup z.1 = some c := fun _ z hz e => absurd e (h z hz)
theorem wk_text {T : List Addr} {sc : Scope} {y : Str} {el : Expr} {pb : Nat → Bool} {pins : List (Addr × Obj)} {σ : St} {H1 : Hp} {s1 : Shared} {x : Str} {t : Tok} {Q : V → Hp → Prop} (hc : L2H.HotC X) (hel : EltH X.prog X.w X.K X.mg X.base (X.A.depth + 1) sc y el pb)
    (I : Inv X pins σ H1 s1) (q : ∀ H2, Sm H1 H2 → Tab T H2 → Q (.bl (x.cps.toList.all pb)) H2) : MkW X T sc el y pins σ H1 s1 (.str x t) Q := by
  refine ⟨x.cps.toList.map pb, { cls := .type (strIterType x), data := .fields #[.str x t, .int 0 0] }, fun i h => h.IsStrIter s1.heap.objs.size (strIterType x) x t i, fun i u => ∃ c tk, x.cps[i]? = some c ∧ u = .str ⟨#[c]⟩ tk, rfl, fun Q2 h => wpAny_pyIter_strU h, fun h' e => ⟨_, e, rfl, rfl⟩, fun L a g co bi O => ?_, fun H2 a b => ?_⟩
  · constructor
    · rintro i h h' ⟨o, e, c, d⟩ k
      exact ⟨o, k o e, c, d⟩
    · intro i s A Q E st h
      cases ha : x.cps.all (· < 128) with
      | true =>
        have e : strIterType x = "str_ascii_iterator" := by unfold strIterType; rw [ha]; rfl
        rw [e] at st
        exact wpAny_pyIter_striter_ascii st h
      | false =>
        have e : strIterType x = "str_iterator" := by unfold strIterType; rw [ha]; rfl
        rw [e] at st
        exact wpAny_pyIter_striter_wide st h
    · intro i c s A Q E ec J go
      obtain ⟨n, hn⟩ : ∃ n, x.cps[i]? = some n := by
        rw [List.getElem?_map] at ec
        obtain ⟨n, hn, _⟩ := Option.map_eq_some_iff.mp ec
        exact ⟨n, by simpa using hn⟩
      have st := J.it
      cases ha : x.cps.all (· < 128) with
      | true =>
        have e : strIterType x = "str_ascii_iterator" := by unfold strIterType; rw [ha]; rfl
        rw [e] at st
        exact wpAny_pyNext_ascii_item st hn fun h' it' k => go _ h' (s.toks + 1) ⟨n, _, hn, rfl⟩ (by rw [e]; exact it') k (let ⟨o, q, _⟩ := it'; ⟨o, q⟩)
      | false =>
        have e : strIterType x = "str_iterator" := by unfold strIterType; rw [ha]; rfl
        rw [e] at st
        exact wpAny_pyNext_wide_item st hn fun h' it' k => go _ h' (s.toks + 1) ⟨n, _, hn, rfl⟩ (by rw [e]; exact it') k (let ⟨o, q, _⟩ := it'; ⟨o, q⟩)
    · intro s A Q E hA J go
      obtain ⟨H, h1, h2, hJ, h4⟩ := J.hp
      have nm : ∀ x1, HotX.HotAt A x1 s.heap → x1 ≠ s1.heap.objs.size → wpAny (model X.prog X.w) A (pyNext (.ref s1.heap.objs.size)) Q E s := fun x1 hot ne => by
        have st := J.it
        have hx : x.cps[(x.cps.toList.map pb).length]? = none := by simp
        cases ha : x.cps.all (· < 128) with
        | true =>
          have e : strIterType x = "str_ascii_iterator" := by unfold strIterType; rw [ha]; rfl
          rw [e] at st
          exact ascii_end_hot hot ne st hx fun h' k => go h' fun b o hb q => k b o hb q
        | false =>
          have e : strIterType x = "str_iterator" := by unfold strIterType; rw [ha]; rfl
          rw [e] at st
          exact wide_end_hot hot ne st hx fun h' k => go h' fun b o hb q => k b o hb q
      obtain ⟨p, ⟨hh, v1, e1, c1⟩, hp⟩ := (hc)
      have P1 := hJ.pin p (List.mem_append_left _ hp)
      refine nm p.1 ⟨hA.trans hh, p.2, v1, P1.1, e1, c1⟩ ?_
      obtain ⟨_, _, _, _, _, q6⟩ := O.fp s1.heap.objs.size (.inr (.inl rfl)) H (h4 _ (.inr (.inl rfl)))
      exact q6 p (List.mem_append_left _ hp)
    · intro i q c ux s m A' E B J hns hm ⟨n, tk, hn, hu⟩ ec
      subst hu
      have eb : c = pb n := by
        rw [List.getElem?_map] at ec
        obtain ⟨n2, hn2, e2⟩ := Option.map_eq_some_iff.mp ec
        have : x.cps[i]? = some n2 := by simpa using hn2
        rw [hn] at this
        cases this
        exact e2.symm
      obtain ⟨H, h1, h2, hJ, h4⟩ := J.hp
      have asked := hel hJ.mod (gEnv X sc L co bi) A' E n tk s m rfl hJ.ok.glob B.dp (fun b o hb => hJ.bk b o hb) hns hm
      refine wpAny_mono asked (fun u st hu => ?_) fun _ _ z => z
      obtain ⟨e1, kp⟩ := hu
      exact ⟨by rw [e1, eb], J.more (by rintro i h h' ⟨o, e, c, d⟩ k; exact ⟨o, k o e, c, d⟩) kp⟩
  · have e : ((x.cps.toList.map pb).all fun b => b) = x.cps.toList.all pb := by
      rw [List.all_map]; rfl
    rw [e]
    exact q H2 a b
theorem se_allFH {c Pt : Addr} {k : Nat} {fn x : Str} {pb : Nat → Bool} {scope : Scope} {px p pos gpos p1 p2 p3 : Pos} (E : EltF X.prog X.w X.K X.mg X.base fn x pb) (hc : L2H.HotC X) (hr : L2H.RoomH (k + 1) X.A) (hP : Pt ∈ C.T) (TB : TabB X.base X.mg c Pt) (hcode : X.env.code = .ref c) (hm : X.mg "all" = none) (hi : PE X iter (tE C W f))
    (hkd : scope.kind = .function := by rfl) (hco : scope.isCoroutine = false := by rfl) (hce : ∀ y ∈ scope.names, y.2 ≠ .cell := by decide +kernel) (hfr : ∀ y ∈ scope.names, y.2 ≠ .free := by decide +kernel) (hdt : scope.names.lookup (".0" : Str) = some NameKind.local := by rfl)
    (hfn : scope.names.lookup fn = some .globalImplicit := by rfl) (hx : scope.names.lookup x = some .local := by rfl) (hg : Gl X "all" := by rfl) (hs : ∀ v, genFold iter X.env v = pure v := by intro _; rfl)
    (he : starEach [.GeneratorExp (.Call (.Name fn p1) [.Name x p2] [] p3) [⟨.Name x px, iter, [], 0⟩] scope gpos] X.env = (false, eval (.GeneratorExp (.Call (.Name fn p1) [.Name x p2] [] p3) [⟨.Name x px, iter, [], 0⟩] scope gpos) X.env) :: starEach [] X.env := by rfl) :
    PE X (.Call (.Name "all" p) [.GeneratorExp (.Call (.Name fn p1) [.Name x p2] [] p3) [⟨.Name x px, iter, [], 0⟩] scope gpos] [] pos) (tE C W (mAllS pb f)) :=
  PE.imp (pe_allHG (T := C.T) (tW := fun σ v H1 Q => ∃ a, v = .str a ∧ ∀ H2, Sm H1 H2 → Tab C.T H2 → Q (.bl (a.cps.toList.all pb)) H2) hc hr hg hm (by decide +kernel) TB hcode ⟨hkd, hco, hce, hdt, hx, gn_free hfr⟩ hi hP
    (fun pins σ H1 s1 v xv Q I r w => by
      obtain ⟨a, rfl, q⟩ := w
      cases r with
      | intro tk e =>
        subst e
        exact wk_text hc (E.run p1 p2 p3 scope _ (by have := hr.dp; omega) hkd hfn hx) I q) hs he) fun σ H Q w => by
    obtain ⟨B, P, ρ, hio, re, w⟩ := w
    refine tE_then hio re w fun d m v H1 s re1 vr w1 => ?_
    have o1 := VR.ov re.lst vr
    cases d <;> try exact w1.elim
    rename_i a
    exact ⟨re1.tab, a, o1.str, fun H2 s2 t2 => w1 _ H2 s2 t2 (.bl _)⟩
end
end Eng

set_option Elab.async false
set_option linter.all false
set_option maxRecDepth 100000
set_option maxHeartbeats 2345678
/-! Eng43: all(fn(t, y) for y in a list), where an exception is handled; what else hot defs want. -/
namespace Eng
open PySem PySem.Spec
open PyProof.Rows L2 GxR
section
variable {X : Cx} {pins : List (Addr × Obj)} {σ : L2.St} {T : List Addr} {H0 : Hp} {L I a l : Addr} {g j k : Nat} {sc : Scope} {fn tn y : Str} {p1 p2 p3 p4 py gp : Pos} {src : Expr} {f : Addr} {fd : FuncData} {ps : List Str} {sp : Sp} {vt : V} {vs : List V} {bs : List Bool} {co bi : Value}
/-- the called def -/
structure HFn (X : Cx) (σ : L2.St) (T : List Addr) (H0 : Hp) (fn tn y : Str) (j k l : Nat) (f : Addr) (fd : FuncData) (ps : List Str) (sp : Sp) (vt : V) (vs : List V) (bs : List Bool) : Prop where
  F : L2H.FnH X.prog X.w X.K X.mg X.base (L2.CX X.prog X.w) k f fd ps sp
  hm : X.mg fn = some (.ref f)
  kp : PySem.W.keepIn X.K (.ref f) = true
  hb : Binds X.K fd ps []
  hj : X.N[j]? = some tn
  hv : σ[j]? = some (some vt)
  hl : H0 l = some (.lst vs)
  len : bs.length = vs.length
  d1 : (fn == ("__debug__" : Str)) = false
  d2 : (tn == ("__debug__" : Str)) = false
  d3 : (y == ("__debug__" : Str)) = false
  d4 : (tn == ("__classdict__" : Str)) = false
  does : ∀ (i : Nat) (x : V) (c : Bool), vs[i]? = some x → bs[i]? = some c → ∀ H2 : Hp, Sm H0 H2 → Tab T H2 → sp [vt, x] H2 (fun u H3 => u = .bl c ∧ Sm H2 H3 ∧ Tab T H3) (fun _ _ _ => False)
theorem stays_list {I l : Addr} : Stays I (fun i h => h.IsListIter I l i) := by
  rintro i h h' ⟨o, e, c, d⟩ k
  exact ⟨o, k o e, c, d⟩
theorem helt_turn {A' : Around} {E : Value → Shared → Prop} {bi : Addr} {i q : Nat} {c : Bool} {x : V} {ux : Value} {s : Shared} {m : Str → Option Value} (G : HFn X σ T H0 fn tn y j k l f fd ps sp vt vs bs) (S : GSc X sc fn tn y) (hc : L2H.HotC X) (rm : L2H.RoomH k A')
    (B : Below X (gEnv X sc L co bi) A') (O : Ours X pins L I a) (J : GH X pins σ T H0 L I a (fun i h => h.IsListIter I l i) g q s) (hn : s.heap.Ns L m) (hy : m y = some ux) (rx : RelV x ux) (ex : vs[i]? = some x) (ec : bs[i]? = some c) :
    wpAny (model X.prog X.w) A' (eval (gElt fn tn y p1 p2 p3 p4) (gEnv X sc L co bi)) (fun v s' => v = .bool c ∧ GH X pins σ T H0 L I a (fun i h => h.IsListIter I l i) g q s') E s := by
  obtain ⟨H, h1, h2, hJ, h4⟩ := J.hp
  have gl : s.heap.Ns (gEnv X sc L co bi).globals X.mg := by
    show s.heap.Ns X.env.globals X.mg
    rw [hJ.ok.glob]
    exact hJ.mod.glob.keeps hJ.bk
  refine wpAny_Call_Name_kw (Calls.Name_function_global S.kind S.fn (Calls.loadGlobal_global gl G.hm ?_) G.d1)
  refine PySem.W.callWith_K (h₀ := X.base) hJ.ok.mod.kin G.kp ?_ rfl rfl
  show wpAny _ _ (spliced ((false, eval (.Name tn p2) (gEnv X sc L co bi)) :: (false, eval (.Name y p3) (gEnv X sc L co bi)) :: [])) _ _ s
  obtain ⟨m2, n2, hl⟩ := hJ.loc
  obtain ⟨ut, rt, lk⟩ := hl j tn vt G.hj G.hv (.inr (.inl S.own))
  obtain ⟨c0, hc0, hcell⟩ : ∃ c0, X.env.cells.lookup tn = some c0 ∧ s.heap.IsCell c0 (some ut) := by
    rcases lk with ⟨z, _⟩ | ⟨_, z⟩
    · have z : X.env.scope.names.lookup tn = some .local := z
      rw [S.own] at z
      cases z
    · exact z
  refine Calls.spliced_cons (wpAny_Name (wpAny_loadName_free S.kind S.cap (NdefX.clo_has (S.free hJ.ok) (PySem.mem_of_lookup S.cap) hc0) hcell ?_ G.d4) G.d2)
  refine Calls.spliced_cons (wpAny_Name (wpAny_loadName_local S.kind S.loc hn hy ?_) G.d3)
  refine Calls.spliced_nil ⟨hJ.kIn, ?_⟩
  have r : Vals [vt, x] [ut, ux] := .cons rt (.cons rx .nil)
  have hs := G.does i x c ex ec H h1 h2
  have lp : ps.length = 2 := (G.F.len _ _ _ _ hs).symm
  have b := G.hb s [ut, ux] hJ.kIn (by rw [lp]; rfl)
  rw [List.append_nil] at b
  have e0 : Env0 X.prog X.w X.K X.mg X.base A' (gEnv X sc L co bi :: X.stack) s H :=
    ⟨B.fr, hJ.ok.mod, hJ.bs, Nat.le_trans hJ.ok.bsz hJ.sz, .cons (by show sc.kind ≠ .module; rw [S.kind]; decide) rfl hn O.new hJ.stack, fun b hb => by
      rcases List.mem_cons.mp hb with (z | z)
      · rw [z]; exact h4 L (.inl rfl)
      · exact hJ.stkFree b z, hJ.hok, hJ.bare⟩
  obtain ⟨p, ⟨hh, v1, e1, c1⟩, hp⟩ := (hc)
  have P1 := hJ.pin p (List.mem_append_left _ hp)
  obtain ⟨_, _, _, _, _, qL⟩ := O.fp L (.inl rfl) H (h4 L (.inl rfl))
  have pin : L2H.PinOk (gEnv X sc L co bi :: X.stack) H s p := by
    refine ⟨P1.1, P1.2.1, fun z => ?_, P1.2.2.2.2⟩
    have fr : frs (gEnv X sc L co bi :: X.stack) = L :: frs X.stack := rfl
    rw [fr] at z
    rcases List.mem_cons.mp z with (z | z)
    · exact qL p (List.mem_append_left _ hp) z
    · rcases List.mem_cons.mp (hJ.stkSub _ z) with z | z
      · exact P1.2.2.1 z
      · exact P1.2.2.2.1 z
  refine GenW.wpAny_gsz (Nat.le_refl _) (wpAny_call (codeAny_mono (G.F.run A' _ s H ⟨[ut, ux], []⟩ [ut, ux] [vt, x] _ _ p rm ⟨B.hd.trans hh, v1, e1, c1⟩ pin e0 b r hs) fun r s' hq => ?_))
  cases r with
  | error e =>
    obtain ⟨_, _, _, _, _, _, _, _, _, _, _, _, z⟩ := hq
    exact z.elim
  | ok fl =>
    cases fl with
    | next => exact False.elim hq
    | brk => exact False.elim hq
    | cont => exact False.elim hq
    | ret u =>
      obtain ⟨v, H', os, bare, un, hok, rv, rfl, sm, tb⟩ := hq
      intro hg
      exact ⟨rv, J.called stays_list O (cenv := gEnv X sc L co bi) rfl hJ h4 (h1.trans sm) tb os bare un hok hg⟩
theorem GH.list {i : Nat} {s : Shared} {IS : Nat → Heap → Prop} (J : GH X pins σ T H0 L I a IS g i s) (hl : H0 l = some (.lst vs)) : ∃ its : List Value, Vals vs its ∧ s.heap.IsList l its.toArray := by
  obtain ⟨H, h1, _, hJ, _⟩ := J.hp
  rcases h1 l _ hl with e | ⟨_, _, e, _⟩
  · obtain ⟨_, its, n, r, e2⟩ := hJ.hok l _ e
    exact ⟨its, r, _, e2, rfl, n, rfl⟩
  · cases e
theorem wk_list {s1 : Shared} {H1 : Hp} {Q : V → Hp → Prop} (hc : L2H.HotC X) (hr : L2H.RoomH (k + 1) X.A) (G : HFn X σ T H1 fn tn y j k l f fd ps sp vt vs bs) (S : GSc X sc fn tn y) (inv : Inv X pins σ H1 s1)
    (q : ∀ H2, Sm H1 H2 → Tab T H2 → Q (.bl (bs.all fun b => b)) H2) : MkW X T sc (gElt fn tn y p1 p2 p3 p4) y pins σ H1 s1 (.ref l) Q := by
  obtain ⟨_, its, cap, r, el⟩ := inv.hok l _ G.hl
  have isl : s1.heap.IsList l its.toArray := ⟨_, el, rfl, cap, rfl⟩
  refine ⟨bs, { cls := .type "list_iterator", data := .fields #[.ref l, .int 0 0] }, fun i h => h.IsListIter s1.heap.objs.size l i, fun i u => ∃ x, vs[i]? = some x ∧ RelV x u, rfl, fun Q2 h => wpAny_pyIter_list isl h, fun h' e => ⟨_, e, rfl, rfl⟩, fun L a g co bi O => ?_, q⟩
  constructor
  · exact stays_list
  · exact fun i s A Q E st h => wpAny_pyIter_listiter st h
  · intro i c s A Q E ec J go
    have lt := (List.getElem?_eq_some_iff.mp ec).1
    obtain ⟨its2, r2, hl2⟩ := J.list G.hl
    obtain ⟨x, ex⟩ : ∃ x, vs[i]? = some x := ⟨_, List.getElem?_eq_getElem (by rw [← G.len]; exact lt)⟩
    obtain ⟨ux, eu, rx⟩ := r2.get ex
    exact wpAny_pyNext_list_item J.it hl2 (by rw [List.getElem?_toArray]; exact eu) fun h' it' k => go ux h' s.toks ⟨x, ex, rx⟩ it' k (let ⟨o, q, _⟩ := it'; ⟨o, q⟩)
  · intro s A Q E hA J go
    obtain ⟨its2, r2, hl2⟩ := J.list G.hl
    have hx : its2.toArray[bs.length]? = none := by
      rw [List.getElem?_toArray]
      exact List.getElem?_eq_none (by rw [← r2.length, ← G.len]; exact Nat.le_refl _)
    obtain ⟨H, h1, h2, hJ, h4⟩ := J.hp
    obtain ⟨p, ⟨hh, v1, e1, c1⟩, hp⟩ := (hc)
    have P1 := hJ.pin p (List.mem_append_left _ hp)
    obtain ⟨_, _, _, _, _, q6⟩ := O.fp s1.heap.objs.size (.inr (.inl rfl)) H (h4 _ (.inr (.inl rfl)))
    exact list_end_hot ⟨hA.trans hh, p.2, v1, P1.1, e1, c1⟩ (q6 p (List.mem_append_left _ hp)) J.it hl2 hx go
  · rintro i q c ux s m A' E B J hns hm ⟨x, ex, rx⟩ ec
    have d := B.dp
    have u := B.un
    have hd := hr.dp
    have hu := hr.un
    exact helt_turn G S hc ⟨by omega, by omega⟩ B O J hns hm rx ex ec
end
section
variable {X : Cx} {C : Cf} {W : WX} {fs : CV → Rs (D × Md)} {src : Expr}
theorem se_allGH {cd tb : Addr} {k : Nat} {M : CV → RF} {fn tn y : Str} {sc : Scope} {p1 p2 p3 p4 py gp p pos : Pos} (j : Nat) (G : CalH X.prog X.w X.K X.mg X.base C.T fn 2 k M) (hc : L2H.HotC X) (hr : L2H.RoomH (k + 1) X.A) (hP : tb ∈ C.T) (TB : TabB X.base X.mg cd tb) (hcode : X.env.code = .ref cd) (hma : X.mg "all" = none) (hi : PE X src (tE C W fs))
    (hC : { C with ios := [], ob := none } = { K := X.K, T := C.T, mg := X.mg, ios := [], ob := none : Cf } := by rfl) (hj : X.N[j]? = some tn := by rfl) (hlc : C.lc j = true := by rfl)
    (hkd : sc.kind = .function := by rfl) (hco : sc.isCoroutine = false := by rfl) (hce : ∀ y ∈ sc.names, y.2 ≠ .cell := by decide +kernel) (hon : ∀ z ∈ sc.names, z.2 = .free → z.1 = tn := by decide +kernel) (hdt : sc.names.lookup (".0" : Str) = some NameKind.local := by rfl)
    (hfn : sc.names.lookup fn = some .globalImplicit := by rfl) (hcap : sc.names.lookup tn = some .free := by rfl) (hy : sc.names.lookup y = some .local := by rfl) (hown : X.env.scope.names.lookup tn = some .cell := by rfl) (hg : Gl X "all" := by rfl) (hs : ∀ v, genFold src X.env v = pure v := by intro _; rfl)
    (d1 : (fn == ("__debug__" : Str)) = false := by decide) (d2 : (tn == ("__debug__" : Str)) = false := by decide) (d3 : (y == ("__debug__" : Str)) = false := by decide) (d4 : (tn == ("__classdict__" : Str)) = false := by decide)
    (he : starEach [gExp fn tn y p1 p2 p3 p4 py gp src sc] X.env = (false, eval (gExp fn tn y p1 p2 p3 p4 py gp src sc) X.env) :: starEach [] X.env := by rfl) :
    PE X (.Call (.Name "all" p) [gExp fn tn y p1 p2 p3 p4 py gp src sc] [] pos) (tE C W (mAllG M j fs)) := by
  obtain ⟨f, fd, ps, h1, h2, h3, h4⟩ := G.ex
  have S : GSc X sc fn tn y := ⟨hkd, hco, hce, hdt, hy, hfn, hcap, hon, hown⟩
  refine PE.imp (pe_allHG (T := C.T) (tW := fun σ v H1 Q => ∃ (l : Addr) (vs : List V) (vt : V) (bs : List Bool), v = .ref l ∧ H1 l = some (.lst vs) ∧ σ[j]? = some (some vt) ∧ bs.length = vs.length ∧
      (∀ (i : Nat) (x : V) (c : Bool), vs[i]? = some x → bs[i]? = some c → ∀ H2 : Hp, Sm H1 H2 → Tab C.T H2 → spM { K := X.K, T := C.T, mg := X.mg, ios := [] } 2 M [vt, x] H2 (fun u H3 => u = .bl c ∧ Sm H2 H3 ∧ Tab C.T H3) (fun _ _ _ => False)) ∧ ∀ H2, Sm H1 H2 → Tab C.T H2 → Q (.bl (bs.all fun b => b)) H2)
    hc hr hg hma (by decide +kernel) TB hcode ⟨hkd, hco, hce, hdt, hy, fun ok => S.free ok⟩ hi hP (fun pins σ H1 s1 v xv Q I r w => by
      obtain ⟨l, vs, vt, bs, rfl, hl, hv, hlen, hdo, next⟩ := w
      cases r
      exact wk_list hc hr ⟨h1, h2, h3, h4, hj, hv, hl, hlen, d1, d2, d3, d4, hdo⟩ S I next) hs he) fun σ H Q w => ?_
  obtain ⟨B, P, ρ, hio, re, w⟩ := w
  refine tE_then hio re w fun d m v H1 s re1 vr w1 => ?_
  have o1 := VR.ov re.lst vr
  split at w1
  · rename_i ds m0 t ed et
    cases ed
    split at w1
    · exact w1.elim
    rename_i hm
    split at w1
    · rename_i bs eb
      obtain ⟨l1, l2⟩ := bits_ok eb
      obtain ⟨vt, hvt, tt⟩ := re1.val (hio.lc hlc) et
      cases o1.tr hm with
      | lst hl tl =>
        rename_i a vs
        refine ⟨re1.tab, a, vs, vt, bs, rfl, hl, hvt, by rw [l1, tl.lenEq], fun i x c ex ec H2 s2 t2 => ?_, fun H2 s2 t2 => w1 _ H2 s2 t2 (.bl _)⟩
        obtain ⟨dx, edx, tx⟩ := tl.item ex
        obtain ⟨mx, ρx, eM⟩ := l2 i dx c edx ec
        have q1 : Tr H2 vt t := Tr.mono s2.seq _ _ (Tr.mono mask_le _ _ tt)
        have q2 : Tr H2 x dx := Tr.mono s2.seq _ _ tx
        refine ⟨{ H0 := H2, M := [], io := [], ch := [] }, [], [.val t, .val dx], rfl, ⟨rfl, rfl⟩, rfl, rfl, entry_call (C := { K := X.K, T := C.T, mg := X.mg, ios := [] }) (Pm := []) (M := []) (ds := [(t, .cl), (dx, .cl)]) (fun q hq => by simp at hq) t2 ⟨by show Tr (mask [] H2) vt t; rw [mask_nil]; exact q1, by show Tr (mask [] H2) x dx; rw [mask_nil]; exact q2, trivial⟩ (fun z u o nf hz => ?_), ?_⟩
        · rw [mask_nil]
          exact o.tr nf
        · rw [eM]
          intro P' σ' H' v' re' rv
          refine ⟨?_, re'.smOf rfl, re'.tab⟩
          cases mx with
          | fr => obtain ⟨_, _, _, _, e, _⟩ := rv; cases e
          | ow => obtain ⟨_, _, _, _, e, _⟩ := rv; cases e
          | cl =>
            have rv : Tr (mask ([] ++ P') H') v' (.bool c) := rv
            cases rv
            rfl
          | vw =>
            have rv : Tr H' v' (.bool c) := rv
            cases rv
            rfl
          | fz =>
            have rv : Fz X.K H' v' (.bool c) := rv
            cases rv
    · exact w1.elim
  · exact w1.elim
/-- (a, b, ..) = a tuple -/
theorem ss_unpH {e : Expr} {es : List Expr} {f : CV → Rs (D × Md)} {pos : Pos} (is : List Nat) {k : Nat} {p2 : Pos} (hc : L2H.HotC X) (hN : X.N.Nodup) (he : PE X e (tE C W f)) (hK : X.K = C.K) (hu : UnpT X es is) (hio : is.all (fun i => !C.ro i) = true := by rfl) (hn : (assignEach es X.env).length = is.length := by rfl)
    (hst : (assignEach es X.env).findIdx? (·.1) = none := by rfl) (hs : swapsWithSole [.Tuple es k p2] e pos.line X.env = pure false := by rfl) (hw : swappedStores [.Tuple es k p2] e X.env = pure none := by rfl)
    (h1 : (assignEach [.Tuple es k p2] X.env).map (·.2) = [assign (.Tuple es k p2) X.env] := by rfl) : PS X (.Assign [.Tuple es k p2] e pos) (tS C W (sUnp is f)) :=
  ss_unpG is (pg_tupH hc (unp_pg hN hu) hn hst) he hK hio hs hw h1
/-- an except suite: the handled exception has no context -/
theorem hot_suite {X : Cx} {a : Addr} {oe : Obj} {cls : Value} {d : Option Addr} {pn : List (Addr × Obj)} (z : L2N.Zn cls d oe) (f : ∃ vs, oe.data = .fields vs) : L2H.HotC (X.suite a ((a, oe) :: pn)) := by
  obtain ⟨vs, e⟩ := f
  exact ⟨(a, oe), ⟨rfl, vs, e, z.2.2 vs e⟩, List.mem_cons_self⟩
theorem roomH_suite {X : Cx} {a : Addr} {pn : List (Addr × Obj)} {k : Nat} (r : Room k X.A) : L2H.RoomH k (X.suite a pn).A := ⟨r.dp, r.un⟩
theorem hot_tr {X : Cx} {pn : List (Addr × Obj)} {xe : Value → Shared → Prop} (h : L2H.HotC X) (s : ∀ q ∈ X.pn, q ∈ pn) : L2H.HotC (X.tr pn xe) := by
  obtain ⟨p, a, b⟩ := h
  exact ⟨p, a, s p b⟩
end
section
variable {P : Program} {w : World} {base : Heap} {K : PySem.W.Frag} {mg : Str → Option Value}
/-- a def that has a code table of its own -/
theorem fn_okTH {C : Cf} {x qual : Str} {st : Stmt} {f : Addr} {fd : FuncData} {N ps : List Str} {k : Nat} {b : CV → Out} (F : Fun K x qual st f fd) (S : FnScope N ps (defScope st)) (hn : ps.length ≤ N.length)
    (body : ∀ (cdv : Value) (A : Around) (outer : List Env) (s : Shared) (H : Hp) (E : XK) (p : Addr × Obj), cdv = fd.code → L2H.HotC (L2H.cxH (L2.CX P w) P w K mg base N qual (defScope st) f cdv A outer s H E p) → L2H.RoomH k (A.deeper (envOfC qual (defScope st) s.heap.objs.size f cdv)) →
      PSs (L2H.cxH (L2.CX P w) P w K mg base N qual (defScope st) f cdv A outer s H E p) (defBody st) (tS C (fun cls d _ H => E cls d H) b)) (hob : C.ob = none := by rfl) :
    L2H.FnH P w K mg base (L2.CX P w) (k + 1) f fd ps (spM C ps.length (runB N.length b)) := by
  obtain ⟨oc, od, kV, doc, pm, an, cdv, ct, osl, rfl, lk, hcd⟩ := (F.ex)
  refine L2H.fn_ofH lk hcd S (fun vs H Q E h => ?_) fun A outer s H vs Q E p hot hr h => ⟨_, body cdv A outer s H E p rfl ?_ hr, body_read hob hn h⟩
  · obtain ⟨B, P, args, hl, _⟩ := h
    exact hl
  · exact ⟨p, hot, List.mem_singleton.mpr rfl⟩
theorem CalH.of {C : Cf} {T : List Addr} {x qual : Str} {st : Stmt} {f : Addr} {fd : FuncData} {n k : Nat} {M : CV → RF} {ps : List Str} (hC : C = { K := K, T := T, mg := mg, ios := [] }) (F : Fun K x qual st f fd) (hm : mg x = some (.ref f)) (hb : L2.Binds K fd ps [])
    (h : L2H.FnH P w K mg base (L2.CX P w) k f fd ps (spM C n M)) : CalH P w K mg base T x n k M := by
  subst hC
  exact ⟨f, fd, ps, h, hm, F.kp, hb⟩
end
/-! ### try: .., except x as n: return f(n), where an exception is handled -/
section
variable {X : Cx} {C : Cf} {W : WX} {body : List Stmt} {u : CV → Out} {pos : Pos}
theorem ss_tryAloneH {x n g : Str} {i k k' : Nat} {np pos' pr p1 p2 p3 : Pos} (names : List Str) (sub : Str → Bool) (E : Clause X.K X.mg x names sub) (G : CalA X.prog X.w X.K X.mg X.base g k names) (hc : L2H.HotC X) (hr : L2H.RoomH k' X.A) (tk : Takes X W) (hND : X.N.Nodup)
    (hb : ∀ (W : WX) (pn : List (Addr × Obj)) (xe : Value → Shared → Prop), L2H.HotC (X.tr pn xe) → Takes (X.tr pn xe) W → PassesOwn (model X.prog X.w) X.A X.env xe → PSs (X.tr pn xe) body (tS C W u))
    (hkk : k ≤ k' := by decide) (hmg : X.mg = C.mg := by rfl) (hs : X.stack = X.env :: X.outer := by rfl) (hf : X.env.frame = some X.env.locals := by rfl) (hg : Gl X x := by rfl) (hdb : (x == ("__debug__" : Str)) = false := by decide) (hi : X.N[i]? = some n := by rfl) (hln : X.env.kindOf n = some .local := by rfl) (hob : C.ob = none := by rfl)
    (hv : Vis X.env.scope n := by first | exact Or.inl rfl | exact Or.inr (Or.inl rfl) | exact Or.inr (Or.inr rfl)) (hgg : Gl X g := by rfl) (hdg : (g == ("__debug__" : Str)) = false := by decide) (hd : (n == ("__debug__" : Str)) = false := by decide) (hcd : (n == ("__classdict__" : Str)) = false := by decide)
    (he : starEach [.Name n p2] X.env = (false, eval (.Name n p2) X.env) :: starEach [] X.env := by rfl) (hpl : (backTo p3 (starEach [] X.env)).any (·.1) = false := by rfl) :
    PS X (.Try body [.ExceptHandler (some (.Name x np)) (some n) [.Return (some (.Call (.Name g p1) [.Name n p2] [] p3)) pr] pos'] [] [] pos) (tS C W (sTryA names sub i u)) := by
  obtain ⟨cv, gx, hx⟩ := E
  obtain ⟨f, fd, y, g1, g2, g3, g4⟩ := G.ex
  have hsu : ∀ c A, c ∈ names → sub c = true → C.mg c = some (.ref A) → ∀ (a : Addr) (oe : Obj) (pn : List (Addr × Obj)), Zc (.ref A) none oe → (∃ vs, oe.data = .fields vs) → PE (X.suite a ((a, oe) :: pn)) (.Call (.Name g p1) [.Name n p2] [] p3) (fun σ H Q => σ[i]? = some (some (.ref a)) ∧ Q (.bl true) H) :=
    fun c A hc _ hm a oe pn hz hfl => pe_callA (g4 c hc A (by rw [hmg]; exact hm)) ⟨(hr.mono hkk).dp, (hr.mono hkk).un⟩ List.mem_cons_self hz hfl g1 g2 g3 hi (Nat.le_refl _) hv hgg hdg hd hcd he hpl
  exact PS.imp (L2H.ps_try_asH (tb := fun W => tS C W u) (ts := fun a cls d D σ H => (∃ c A, c ∈ names ∧ sub c = true ∧ C.mg c = some (.ref A) ∧ cls = .ref A ∧ d = none) ∧ σ[i]? = some (some (.ref a)) ∧ D.rt (.bl true) H) hs hf hND hi hln ⟨hg, hdb, .inl gx⟩ tk
    (fun W pn xe sub tk hp => hb W pn xe (hot_tr hc sub) tk hp) fun a oe cls d pn hz hfl => ⟨fun pins st σ H D inv h => by
    obtain ⟨⟨c, A, h1, h2, h3, rfl, rfl⟩, h4, h5⟩ := h
    exact (pss_one (ps_ret (hsu c A h1 h2 h3 a oe pn hz hfl))).run pins st σ H D inv ⟨h4, h5⟩⟩) fun D' σ H h => by
    obtain ⟨B, P, ρ, hio, re, h⟩ := h
    refine ⟨B, P, ρ, hio, re, ?_⟩
    unfold sTryA at h
    cases eu : u ρ with
    | nx ρ' => rw [eu] at h; exact h
    | rt d m ρ' => rw [eu] at h; exact h
    | bk ρ' => rw [eu] at h; exact h
    | ct ρ' => rw [eu] at h; exact h
    | no => rw [eu] at h; exact h
    | ex c => rw [eu] at h; exact h.elim
    | er c ρ' =>
      rw [eu] at h
      dsimp only at h
      intro A P' σ' H' hm re'
      split at h
      · rename_i hn
        have mem := List.contains_iff_mem.mp hn
        refine ⟨sub c, hx c A mem (by rw [hmg]; exact hm), fun hs a ha => ?_, fun hs => ?_⟩
        · rw [hs, if_pos rfl] at h
          split at h
          · rename_i hl
            have l := (re'.to0 (hio.ob.trans hob)).len
            exact ⟨⟨c, A, mem, hs, hm, rfl, rfl⟩, List.getElem?_set_self (by omega), h P' σ' H' _ re' (.bl true)⟩
          · exact h.elim
        · rw [hs, if_neg Bool.false_ne_true] at h
          exact h A P' σ' H' hm re'
      · exact h.elim
end
theorem unitsH {k : Nat} {A : Around} (r : L2H.RoomH k A) : A.units + 64 < cLine := by have := r.un; omega
theorem takes0N {X : Cx} : L2N.Takes X (fun _ _ _ _ => False) := fun _ _ x => by
  obtain ⟨_, _, _, _, _, _, _, _, _, _, _, _, _, _, _, _, z⟩ := (x)
  exact z.elim
theorem room200H {k : Nat} {A : Around} (r : L2H.RoomH k A) : A.units + 200 < cLine := by have := r.un; omega
end Eng

set_option Elab.async false
set_option linter.all false
set_option maxRecDepth 100000
set_option maxHeartbeats 1234567
namespace V_k03
open PySem PySem.Spec
open PyProof.Rows L2 Eng

/-! ### the text -/
def topS (i : Nat) : Stmt := PySem.Challenge.pw_precread_k03_tellings_added.main.body.getD i (.Pass ⟨0, 0, 0, 0⟩)
abbrev s_is_inner : Stmt := topS 12
abbrev N_is_inner : List Str := ["sign"]
theorem sc_is_inner : FnScope N_is_inner ["sign"] (defScope s_is_inner) := ⟨rfl, rfl, rfl, by decide +kernel, rfl, by decide +kernel, by decide +kernel⟩
abbrev s_is_word : Stmt := topS 11
abbrev N_is_word : List Str := ["thing"]
theorem sc_is_word : FnScope N_is_word ["thing"] (defScope s_is_word) := ⟨rfl, rfl, rfl, by decide +kernel, rfl, by decide +kernel, by decide +kernel⟩
abbrev s_is_strength : Stmt := topS 22
abbrev N_is_strength : List Str := ["thing"]
theorem sc_is_strength : FnScope N_is_strength ["thing"] (defScope s_is_strength) := ⟨rfl, rfl, rfl, by decide +kernel, rfl, by decide +kernel, by decide +kernel⟩
abbrev s_is_telling : Stmt := topS 21
abbrev N_is_telling : List Str := ["thing", "first", "kind", "strength", "word"]
theorem sc_is_telling : FnScope N_is_telling ["thing"] (defScope s_is_telling) := ⟨rfl, rfl, rfl, by decide +kernel, rfl, by decide +kernel, by decide +kernel⟩
abbrev s_has_other_kind : Stmt := topS 24
abbrev N_has_other_kind : List Str := ["table", "telling", "other"]
theorem sc_has_other_kind : FnScope N_has_other_kind ["table", "telling"] (defScope s_has_other_kind) := ⟨rfl, rfl, rfl, by decide +kernel, rfl, by decide +kernel, by decide +kernel⟩
abbrev s_is_ahead : Stmt := topS 23
abbrev N_is_ahead : List Str := ["telling"]
theorem sc_is_ahead : FnScope N_is_ahead ["telling"] (defScope s_is_ahead) := ⟨rfl, rfl, rfl, by decide +kernel, rfl, by decide +kernel, by decide +kernel⟩
abbrev s_role : Stmt := topS 20
abbrev N_role : List Str := ["table", "word", "ahead", "telling"]
theorem sc_role : FnScope N_role ["table", "word", "ahead"] (defScope s_role) := ⟨rfl, rfl, rfl, by decide +kernel, rfl, by decide +kernel, by decide +kernel⟩
abbrev s_added : Stmt := topS 19
abbrev N_added : List Str := ["table", "telling"]
theorem sc_added : FnScope N_added ["table", "telling"] (defScope s_added) := ⟨rfl, rfl, rfl, by decide +kernel, rfl, by decide +kernel, by decide +kernel⟩
abbrev s__law_mixed : Stmt := topS 26
abbrev N__law_mixed : List Str := ["_law_cell", "_law_k", "_law_left"]
theorem sc__law_mixed : FnScope N__law_mixed ["_law_cell", "_law_k"] (defScope s__law_mixed) := ⟨rfl, rfl, rfl, by decide +kernel, rfl, by decide +kernel, by decide +kernel⟩
abbrev s__law_cell_at : Stmt := topS 27
abbrev N__law_cell_at : List Str := ["_law_script", "_law_k"]
theorem sc__law_cell_at : FnScope N__law_cell_at ["_law_script", "_law_k"] (defScope s__law_cell_at) := ⟨rfl, rfl, rfl, by decide +kernel, rfl, by decide +kernel, by decide +kernel⟩
abbrev s__law_cells : Stmt := topS 28
abbrev N__law_cells : List Str := ["_law_script", "_law_at", "_law_end", "_law_k"]
theorem sc__law_cells : FnScope N__law_cells ["_law_script", "_law_at", "_law_end"] (defScope s__law_cells) := ⟨rfl, rfl, rfl, by decide +kernel, rfl, by decide +kernel, by decide +kernel⟩
abbrev s__law_sign_by : Stmt := topS 29
abbrev N__law_sign_by : List Str := ["_law_cell", "_law_some"]
theorem sc__law_sign_by : FnScope N__law_sign_by ["_law_cell"] (defScope s__law_sign_by) := ⟨rfl, rfl, rfl, by decide +kernel, rfl, by decide +kernel, by decide +kernel⟩
abbrev s__law_word_by : Stmt := topS 30
abbrev N__law_word_by : List Str := ["_law_cell", "_law_k", "_law_base", "_law_size", "_law_at", "_law_way", "_law_word", "_law_j"]
theorem sc__law_word_by : FnScope N__law_word_by ["_law_cell", "_law_k"] (defScope s__law_word_by) := ⟨rfl, rfl, rfl, by decide +kernel, rfl, by decide +kernel, by decide +kernel⟩
abbrev s__law_words_by : Stmt := topS 31
abbrev N__law_words_by : List Str := ["_law_cell", "_law_words", "_law_some", "_law_k", "_law_word"]
theorem sc__law_words_by : FnScope N__law_words_by ["_law_cell"] (defScope s__law_words_by) := ⟨rfl, rfl, rfl, by decide +kernel, rfl, by decide +kernel, by decide +kernel⟩
abbrev s__law_role : Stmt := topS 32
abbrev N__law_role : List Str := ["_law_table", "_law_word", "_law_ahead", "_law_row"]
theorem sc__law_role : FnScope N__law_role ["_law_table", "_law_word", "_law_ahead"] (defScope s__law_role) := ⟨rfl, rfl, rfl, by decide +kernel, rfl, by decide +kernel, by decide +kernel⟩
abbrev s__law_clash : Stmt := topS 33
abbrev N__law_clash : List Str := ["_law_table", "_law_telling", "_law_row"]
theorem sc__law_clash : FnScope N__law_clash ["_law_table", "_law_telling"] (defScope s__law_clash) := ⟨rfl, rfl, rfl, by decide +kernel, rfl, by decide +kernel, by decide +kernel⟩
abbrev s__law_telling_by : Stmt := topS 34
abbrev N__law_telling_by : List Str := ["_law_cell", "_law_words", "_law_kind", "_law_power"]
theorem sc__law_telling_by : FnScope N__law_telling_by ["_law_cell", "_law_words"] (defScope s__law_telling_by) := ⟨rfl, rfl, rfl, by decide +kernel, rfl, by decide +kernel, by decide +kernel⟩
abbrev s__law_table_by : Stmt := topS 35
abbrev N__law_table_by : List Str := ["_law_cells_here", "_law_words", "_law_table", "_law_cell", "_law_telling"]
theorem sc__law_table_by : FnScope N__law_table_by ["_law_cells_here", "_law_words"] (defScope s__law_table_by) := ⟨rfl, rfl, rfl, by decide +kernel, rfl, by decide +kernel, by decide +kernel⟩
abbrev s__law_wide_by : Stmt := topS 36
abbrev N__law_wide_by : List Str := ["_law_table", "_law_cell", "_law_words", "_law_k", "_law_power", "_law_kind", "_law_telling"]
theorem sc__law_wide_by : FnScope N__law_wide_by ["_law_table", "_law_cell", "_law_words"] (defScope s__law_wide_by) := ⟨rfl, rfl, rfl, by decide +kernel, rfl, by decide +kernel, by decide +kernel⟩
abbrev s__law_alike : Stmt := topS 37
abbrev N__law_alike : List Str := ["_law_found", "_law_due", "_law_rest", "_law_pair"]
theorem sc__law_alike : FnScope N__law_alike ["_law_found", "_law_due"] (defScope s__law_alike) := ⟨rfl, rfl, rfl, by decide +kernel, rfl, by decide +kernel, by decide +kernel⟩
abbrev s__law_rows : Stmt := topS 38
abbrev N__law_rows : List Str := ["_law_found", "_law_due", "_law_k"]
theorem sc__law_rows : FnScope N__law_rows ["_law_found", "_law_due"] (defScope s__law_rows) := ⟨rfl, rfl, rfl, by decide +kernel, rfl, by decide +kernel, by decide +kernel⟩
abbrev s__law_spoiled : Stmt := topS 39
abbrev N__law_spoiled : List Str := ["_law_telling", "_law_cell", "_law_kind", "_law_power", "_law_word", "_law_some"]
theorem sc__law_spoiled : FnScope N__law_spoiled ["_law_telling", "_law_cell"] (defScope s__law_spoiled) := ⟨rfl, rfl, rfl, by decide +kernel, rfl, by decide +kernel, by decide +kernel⟩
abbrev s__law_refused_by_any : Stmt := topS 41
abbrev N__law_refused_by_any : List Str := ["_law_table", "_law_telling", "_law_e"]
theorem sc__law_refused_by_any : FnScope N__law_refused_by_any ["_law_table", "_law_telling"] (defScope s__law_refused_by_any) := ⟨rfl, rfl, rfl, by decide +kernel, rfl, by decide +kernel, by decide +kernel⟩
abbrev s_law : Stmt := topS 42
abbrev N_law : List Str := ["_law_script", "_law_words", "_law_table", "_law_telling", "_law_handed", "_law_wrong", "_law_clash_here", "_law_refused", "_law_found"]
theorem sc_law : FnScope N_law ["_law_script"] (defScope s_law) := ⟨rfl, rfl, rfl, by decide +kernel, rfl, by decide +kernel, by decide +kernel⟩
abbrev s__law_alone : Stmt := topS 40
abbrev N__law_alone : List Str := ["_law_e", "_law_many"]
theorem sc__law_alone : FnScope N__law_alone ["_law_e"] (defScope s__law_alone) := ⟨rfl, rfl, rfl, by decide +kernel, rfl, by decide +kernel, by decide +kernel⟩
abbrev errN : List Str := ["NoTelling", "Clash"]
abbrev sub_ReadError : Str → Bool := fun c => (["NoTelling", "Clash"] : List Str).contains c
abbrev sub_NoTelling : Str → Bool := fun c => (["NoTelling"] : List Str).contains c
abbrev sub_Clash : Str → Bool := fun c => (["Clash"] : List Str).contains c
/-! ### the mirrors -/
abbrev b_is_inner_1 : CV → Out := sRet (mAndV (mVal (mChain hLe hLe (mK (.str "!")) (mVar 0) (mK (.str "~")))) (mVal (mCmp hNotIn (mVar 0) (mK (.str "();")))))
abbrev b_is_inner : CV → Out := b_is_inner_1
def m_is_inner : CV → RF := runB 1 b_is_inner
abbrev b_is_word_1_1 : CV → Out := sRet (mK (.bool false))
abbrev b_is_word_1 : CV → Out := sIf (mOr (mNot (mBool (mIsi "str" (mVar 0)))) (mCmp hEq (mVar 0) (mK (.str "tell")))) (b_is_word_1_1) (sNx)
abbrev b_is_word_2 : CV → Out := sRet (mAndV (mVal (mChain hLe hLe (mK (.int 1)) (mCallB hLen (mCons (mVar 0) (mNil))) (mK (.int 8)))) (mAllS (inB "();") (mVar 0)))
abbrev b_is_word : CV → Out := sSeq (b_is_word_1) (b_is_word_2)
def m_is_word : CV → RF := runB 1 b_is_word
abbrev b_is_strength_1_1 : CV → Out := sRet (mK (.bool false))
abbrev b_is_strength_1 : CV → Out := sIf (mOr (mNot (mBool (mIsi "int" (mVar 0)))) (mBool (mIsi "bool" (mVar 0)))) (b_is_strength_1_1) (sNx)
abbrev b_is_strength_2 : CV → Out := sRet (mVal (mChain hLe hLe (mK (.int 1)) (mVar 0) (mK (.int 30))))
abbrev b_is_strength : CV → Out := sSeq (b_is_strength_1) (b_is_strength_2)
def m_is_strength : CV → RF := runB 1 b_is_strength
abbrev b_is_telling_1_1 : CV → Out := sRet (mK (.bool false))
abbrev b_is_telling_1 : CV → Out := sIf (mOr (mNot (mBool (mIsi "tuple" (mVar 0)))) (mCmp hNe (mCallB hLen (mCons (mVar 0) (mNil))) (mK (.int 4)))) (b_is_telling_1_1) (sNx)
abbrev b_is_telling_2 : CV → Out := sUnp [1, 2, 3, 4] (mVar 0)
abbrev b_is_telling_3 : CV → Out := sRet (mAndV (mVal (mCmp hEq (mVar 1) (mK (.str "tell")))) (mAndV (mVal (mInG [(.str "left"), (.str "right"), (.str "none"), (.str "before"), (.str "behind")] (mVar 2))) (mAndV (mCall m_is_strength (mCons (mVar 3) (mNil))) (mCall m_is_word (mCons (mVar 4) (mNil))))))
abbrev b_is_telling : CV → Out := sSeq (b_is_telling_1) (sSeq (b_is_telling_2) (b_is_telling_3))
def m_is_telling : CV → RF := runB 5 b_is_telling
abbrev b_has_other_kind_1_1_1 : CV → Out := sRet (mK (.bool true))
abbrev b_has_other_kind_1_1 : CV → Out := sIf (mAnd (mCmp hEq (mBin hIx (mVar 2) (mK (.int 2))) (mBin hIx (mVar 1) (mK (.int 2)))) (mCmp hNe (mBin hIx (mVar 2) (mK (.int 1))) (mBin hIx (mVar 1) (mK (.int 1))))) (b_has_other_kind_1_1_1) (sNx)
abbrev b_has_other_kind_1 : CV → Out := sFor 2 (mIterL (mVar 0)) (b_has_other_kind_1_1)
abbrev b_has_other_kind_2 : CV → Out := sRet (mK (.bool false))
abbrev b_has_other_kind : CV → Out := sSeq (b_has_other_kind_1) (b_has_other_kind_2)
def m_has_other_kind : CV → RF := runB 3 b_has_other_kind
abbrev b_is_ahead_1 : CV → Out := sRet (mVal (mCmp hEq (mBin hIx (mVar 0) (mK (.int 1))) (mK (.str "before"))))
abbrev b_is_ahead : CV → Out := b_is_ahead_1
def m_is_ahead : CV → RF := runB 1 b_is_ahead
abbrev b_role_1_1_1 : CV → Out := sRetOwn 3
abbrev b_role_1_1 : CV → Out := sIf (mAnd (mCmp hEq (mBin hIx (mVar 3) (mK (.int 3))) (mVar 1)) (mCmp hEq (mCall m_is_ahead (mCons (mVar 3) (mNil))) (mVar 2))) (b_role_1_1_1) (sNx)
abbrev b_role_1 : CV → Out := sFor 3 (mIterL (mVar 0)) (b_role_1_1)
abbrev b_role_2 : CV → Out := sRet (mK .none)
abbrev b_role : CV → Out := sSeq (b_role_1) (b_role_2)
def m_role : CV → RF := runB 4 b_role
abbrev b_added_1_1 : CV → Out := sRaise "NoTelling"
abbrev b_added_1 : CV → Out := sIf (mNot (mBool (mCall m_is_telling (mCons (mVar 1) (mNil))))) (b_added_1_1) (sNx)
abbrev b_added_2_1 : CV → Out := sRaiseA "Clash" (mCons (mJs [mK (.str "the strength "), mFmt (mBin hIx (mVar 1) (mK (.int 2))), mK (.str " is told with another kind")] Str.empty) (mNil))
abbrev b_added_2 : CV → Out := sIf (mBool (mCall m_has_other_kind (mCons (mVar 0) (mCons (mVar 1) (mNil))))) (b_added_2_1) (sNx)
abbrev b_added_3_1 : CV → Out := sRaiseA "Clash" (mCons (mJs [mK (.str "the word "), mFmt (mBin hIx (mVar 1) (mK (.int 3))), mK (.str " is told in the same role")] Str.empty) (mNil))
abbrev b_added_3 : CV → Out := sIf (mCmp hNotN (mCall m_role (mCons (mVar 0) (mCons (mBin hIx (mVar 1) (mK (.int 3))) (mCons (mCall m_is_ahead (mCons (mVar 1) (mNil))) (mNil))))) (mK .none)) (b_added_3_1) (sNx)
abbrev b_added_4 : CV → Out := sRet (mBin hAdd (mVar 0) (mLst (mCons (mVar 1) (mNil))))
abbrev b_added : CV → Out := sSeq (b_added_1) (sSeq (b_added_2) (sSeq (b_added_3) (b_added_4)))
def m_added : CV → RF := runB 2 b_added
abbrev b__law_mixed_1 : CV → Out := sSet 2 (mBin hMod (mBin hMul (mBin hAdd (mVar 0) (mBin hMul (mK (.int 7919)) (mVar 1))) (mK (.int 48271))) (mK (.int 2147483647)))
abbrev b__law_mixed_2 : CV → Out := sRet (mBin hMod (mBin hMul (mVar 2) (mVar 2)) (mK (.int 2147483629)))
abbrev b__law_mixed : CV → Out := sSeq (b__law_mixed_1) (b__law_mixed_2)
def m__law_mixed : CV → RF := runB 3 b__law_mixed
abbrev b__law_cell_at_1_1 : CV → Out := sRet (mCall m__law_mixed (mCons (mBin hIx (mVar 0) (mVar 1)) (mCons (mVar 1) (mNil))))
abbrev b__law_cell_at_1 : CV → Out := sIf (mCmp hLt (mVar 1) (mCallB hLen (mCons (mVar 0) (mNil)))) (b__law_cell_at_1_1) (sNx)
abbrev b__law_cell_at_2 : CV → Out := sRet (mK (.int 0))
abbrev b__law_cell_at : CV → Out := sSeq (b__law_cell_at_1) (b__law_cell_at_2)
def m__law_cell_at : CV → RF := runB 2 b__law_cell_at
abbrev b__law_cells_1 : CV → Out := sRet (mLc 3 (mRange2 (mCons (mVar 1) (mCons (mCallB hMin2 (mCons (mVar 2) (mCons (mCallB hLen (mCons (mVar 0) (mNil))) (mNil)))) (mNil)))) (mTrue) (mCall m__law_mixed (mCons (mBin hIx (mVar 0) (mVar 3)) (mCons (mVar 3) (mNil)))))
abbrev b__law_cells : CV → Out := b__law_cells_1
def m__law_cells : CV → RF := runB 4 b__law_cells
abbrev b__law_sign_by_1 : CV → Out := sSet 1 (mK (.str "!\"#$&'*+,-./0123456789:<=>?@ABCDEFGHIJKLMNOPQRSTUVWXYZ[\\]^_`"))
abbrev b__law_sign_by_2 : CV → Out := sSet 1 (mBin hAdd (mVar 1) (mK (.str "abcdefghijklmnopqrstuvwxyz{|}~")))
abbrev b__law_sign_by_3 : CV → Out := sRet (mBin hIx (mVar 1) (mBin hMod (mVar 0) (mK (.int 90))))
abbrev b__law_sign_by : CV → Out := sSeq (b__law_sign_by_1) (sSeq (b__law_sign_by_2) (b__law_sign_by_3))
def m__law_sign_by : CV → RF := runB 2 b__law_sign_by
abbrev b__law_word_by_1 : CV → Out := sSet 2 (mStrM (mK (.str "")) fun a => mUn (hJoin a) (mLc 7 (mRange1 (mCons (mK (.int 8)) (mNil))) (mTrue) (mCall m__law_sign_by (mCons (mBin hMod (mBin hMul (mBin hAdd (mBin hDiv (mVar 0) (mK (.int 12960))) (mBin hMul (mVar 7) (mK (.int 977)))) (mK (.int 48271))) (mK (.int 7919))) (mNil)))))
abbrev b__law_word_by_2_1 : CV → Out := sSet 2 (mBin hAdd (mBin hAdd (mSl (mVar 2) (mNoP) (mPart (mK (.int 3)))) (mK (.str "m"))) (mSl (mVar 2) (mPart (mK (.int 4))) (mNoP)))
abbrev b__law_word_by_2 : CV → Out := sIf (mCmp hEq (mSl (mVar 2) (mNoP) (mPart (mK (.int 4)))) (mK (.str "tell"))) (b__law_word_by_2_1) (sNx)
abbrev b__law_word_by_3 : CV → Out := sSet 3 (mBin hIx (mLst (mCons (mK (.int 1)) (mCons (mK (.int 1)) (mCons (mK (.int 2)) (mCons (mK (.int 3)) (mCons (mK (.int 5)) (mCons (mK (.int 8)) (mNil)))))))) (mBin hMod (mBin hDiv (mVar 0) (mK (.int 90))) (mK (.int 6))))
abbrev b__law_word_by_4 : CV → Out := sSet 4 (mBin hMod (mBin hDiv (mVar 0) (mK (.int 1620))) (mVar 3))
abbrev b__law_word_by_5 : CV → Out := sSet 5 (mBin hMod (mBin hDiv (mVar 0) (mK (.int 540))) (mK (.int 3)))
abbrev b__law_word_by_6_1 : CV → Out := sRet (mSl (mVar 2) (mNoP) (mPart (mBin hAdd (mVar 1) (mK (.int 1)))))
abbrev b__law_word_by_6 : CV → Out := sIf (mCmp hEq (mVar 5) (mK (.int 0))) (b__law_word_by_6_1) (sNx)
abbrev b__law_word_by_7_1 : CV → Out := sRet (mBin hAdd (mBin hAdd (mSl (mVar 2) (mNoP) (mPart (mVar 4))) (mCall m__law_sign_by (mCons (mBin hAdd (mVar 0) (mK (.int 8))) (mNil)))) (mSl (mVar 2) (mPart (mBin hAdd (mVar 4) (mK (.int 1)))) (mPart (mVar 3))))
abbrev b__law_word_by_7 : CV → Out := sIf (mAnd (mCmp hEq (mVar 5) (mK (.int 1))) (mCmp hEq (mBin hAdd (mBin hAdd (mSl (mVar 2) (mNoP) (mPart (mVar 4))) (mCall m__law_sign_by (mCons (mBin hAdd (mVar 0) (mVar 1)) (mNil)))) (mSl (mVar 2) (mPart (mBin hAdd (mVar 4) (mK (.int 1)))) (mPart (mVar 3)))) (mK (.str "tell")))) (b__law_word_by_7_1) (sNx)
abbrev b__law_word_by_8_1 : CV → Out := sRet (mBin hAdd (mBin hAdd (mSl (mVar 2) (mNoP) (mPart (mVar 4))) (mCall m__law_sign_by (mCons (mBin hAdd (mVar 0) (mVar 1)) (mNil)))) (mSl (mVar 2) (mPart (mBin hAdd (mVar 4) (mK (.int 1)))) (mPart (mVar 3))))
abbrev b__law_word_by_8 : CV → Out := sIf (mCmp hEq (mVar 5) (mK (.int 1))) (b__law_word_by_8_1) (sNx)
abbrev b__law_word_by_9 : CV → Out := sSet 6 (mBin hAdd (mCall m__law_sign_by (mCons (mBin hAdd (mVar 0) (mVar 1)) (mNil))) (mSl (mVar 2) (mPart (mVar 1)) (mPart (mBin hAdd (mVar 1) (mBin hMod (mBin hAdd (mVar 3) (mVar 1)) (mK (.int 8)))))))
abbrev b__law_word_by_10 : CV → Out := sShr 6 (sRet (mBin hIx (mLst (mCons (mVar 6) (mCons (mK (.str "t")) (mNil)))) (mCallB hInt (mCons (mVal (mCmp hEq (mVar 6) (mK (.str "tell")))) (mNil)))))
abbrev b__law_word_by : CV → Out := sSeq (b__law_word_by_1) (sSeq (b__law_word_by_2) (sSeq (b__law_word_by_3) (sSeq (b__law_word_by_4) (sSeq (b__law_word_by_5) (sSeq (b__law_word_by_6) (sSeq (b__law_word_by_7) (sSeq (b__law_word_by_8) (sSeq (b__law_word_by_9) (b__law_word_by_10)))))))))
def m__law_word_by : CV → RF := runB 8 b__law_word_by
abbrev b__law_words_by_1 : CV → Out := sSet 1 (mLc 3 (mRange1 (mCons (mK (.int 8)) (mNil))) (mTrue) (mCall m__law_word_by (mCons (mVar 0) (mCons (mVar 3) (mNil)))))
abbrev b__law_words_by_2 : CV → Out := sSet 2 (mLst (mCons (mK (.str "left")) (mCons (mK (.str "right")) (mCons (mK (.str "none")) (mCons (mK (.str "before")) (mCons (mK (.str "behind")) (mCons (mK (.str "tells")) (mCons (mK (.str "6")) (mCons (mK (.str "Left")) (mNil))))))))))
abbrev b__law_words_by_3_1 : CV → Out := sSet 4 (mBin hIx (mVar 2) (mBin hMod (mBin hAdd (mBin hDiv (mVar 0) (mK (.int 28))) (mBin hMul (mK (.int 3)) (mVar 3))) (mK (.int 8))))
abbrev b__law_words_by_3_2_1 : CV → Out := sShr 4 (sSetIx 1 (mVar 4) (mBin hMod (mBin hAdd (mBin hDiv (mVar 0) (mK (.int 224))) (mBin hMul (mK (.int 5)) (mVar 3))) (mK (.int 8))))
abbrev b__law_words_by_3_2 : CV → Out := sIf (mCmp hNotIn (mVar 4) (mVar 1)) (b__law_words_by_3_2_1) (sNx)
abbrev b__law_words_by_3 : CV → Out := sFor 3 (mRange1 (mCons (mBin hMul (mK (.int 2)) (mCallB hInt (mCons (mVal (mCmp hEq (mBin hMod (mBin hDiv (mVar 0) (mK (.int 7))) (mK (.int 4))) (mK (.int 1)))) (mNil)))) (mNil))) (sSeq (b__law_words_by_3_1) (b__law_words_by_3_2))
abbrev b__law_words_by_4 : CV → Out := sRetOwn 1
abbrev b__law_words_by : CV → Out := sSeq (b__law_words_by_1) (sSeq (b__law_words_by_2) (sSeq (b__law_words_by_3) (b__law_words_by_4)))
def m__law_words_by : CV → RF := runB 5 b__law_words_by
abbrev b__law_role_1_1_1 : CV → Out := sRetOwn 3
abbrev b__law_role_1_1 : CV → Out := sIf (mAnd (mCmp hEq (mBin hIx (mVar 3) (mK (.int 3))) (mVar 1)) (mCmp hEq (mVal (mCmp hEq (mBin hIx (mVar 3) (mK (.int 1))) (mK (.str "before")))) (mVar 2))) (b__law_role_1_1_1) (sNx)
abbrev b__law_role_1 : CV → Out := sFor 3 (mIterL (mVar 0)) (b__law_role_1_1)
abbrev b__law_role_2 : CV → Out := sRet (mK .none)
abbrev b__law_role : CV → Out := sSeq (b__law_role_1) (b__law_role_2)
def m__law_role : CV → RF := runB 4 b__law_role
abbrev b__law_clash_1_1_1 : CV → Out := sRet (mK (.bool true))
abbrev b__law_clash_1_1 : CV → Out := sIf (mAnd (mCmp hEq (mBin hIx (mVar 2) (mK (.int 2))) (mBin hIx (mVar 1) (mK (.int 2)))) (mCmp hNe (mBin hIx (mVar 2) (mK (.int 1))) (mBin hIx (mVar 1) (mK (.int 1))))) (b__law_clash_1_1_1) (sNx)
abbrev b__law_clash_1 : CV → Out := sFor 2 (mIterL (mVar 0)) (b__law_clash_1_1)
abbrev b__law_clash_2 : CV → Out := sRet (mVal (mCmp hNotN (mCall m__law_role (mCons (mVar 0) (mCons (mBin hIx (mVar 1) (mK (.int 3))) (mCons (mVal (mCmp hEq (mBin hIx (mVar 1) (mK (.int 1))) (mK (.str "before")))) (mNil))))) (mK .none)))
abbrev b__law_clash : CV → Out := sSeq (b__law_clash_1) (b__law_clash_2)
def m__law_clash : CV → RF := runB 3 b__law_clash
abbrev b__law_telling_by_1 : CV → Out := sSet 2 (mBin hIx (mLst (mCons (mK (.str "left")) (mCons (mK (.str "right")) (mCons (mK (.str "none")) (mCons (mK (.str "before")) (mCons (mK (.str "behind")) (mNil))))))) (mBin hMod (mVar 0) (mK (.int 5))))
abbrev b__law_telling_by_2 : CV → Out := sSet 3 (mBin hAdd (mK (.int 1)) (mBin hMod (mBin hDiv (mVar 0) (mK (.int 20))) (mK (.int 30))))
abbrev b__law_telling_by_3_1 : CV → Out := sSet 3 (mBin hAdd (mK (.int 1)) (mBin hMod (mBin hDiv (mVar 0) (mK (.int 20))) (mK (.int 6))))
abbrev b__law_telling_by_3 : CV → Out := sIf (mCmp hGt (mBin hMod (mBin hDiv (mVar 0) (mK (.int 5))) (mK (.int 4))) (mK (.int 0))) (b__law_telling_by_3_1) (sNx)
abbrev b__law_telling_by_4 : CV → Out := sShr 3 (sShr 2 (sRet (mTup (mCons (mK (.str "tell")) (mCons (mVar 2) (mCons (mVar 3) (mCons (mBin hIx (mVar 1) (mBin hMod (mBin hDiv (mVar 0) (mK (.int 600))) (mK (.int 6)))) (mNil))))))))
abbrev b__law_telling_by : CV → Out := sSeq (b__law_telling_by_1) (sSeq (b__law_telling_by_2) (sSeq (b__law_telling_by_3) (b__law_telling_by_4)))
def m__law_telling_by : CV → RF := runB 4 b__law_telling_by
abbrev b__law_table_by_1 : CV → Out := sSet 2 (mLst (mNil))
abbrev b__law_table_by_2_1 : CV → Out := sSet 4 (mCall m__law_telling_by (mCons (mVar 3) (mCons (mVar 1) (mNil))))
abbrev b__law_table_by_2_2_1 : CV → Out := sApp 2 (mLift (mVar 4))
abbrev b__law_table_by_2_2 : CV → Out := sShr 4 (sIf (mNot (mBool (mCall m__law_clash (mCons (mVar 2) (mCons (mVar 4) (mNil)))))) (b__law_table_by_2_2_1) (sNx))
abbrev b__law_table_by_2 : CV → Out := sFor 3 (mIterL (mVar 0)) (sSeq (b__law_table_by_2_1) (b__law_table_by_2_2))
abbrev b__law_table_by_3 : CV → Out := sRetOwn 2
abbrev b__law_table_by : CV → Out := sSeq (b__law_table_by_1) (sSeq (b__law_table_by_2) (b__law_table_by_3))
def m__law_table_by : CV → RF := runB 5 b__law_table_by
abbrev b__law_wide_by_1_1 : CV → Out := sSet 4 (mBin hAdd (mK (.int 1)) (mBin hMod (mBin hAdd (mVar 3) (mVar 1)) (mK (.int 30))))
abbrev b__law_wide_by_1_2 : CV → Out := sSet 5 (mBin hIx (mLst (mCons (mK (.str "left")) (mCons (mK (.str "right")) (mCons (mK (.str "none")) (mCons (mK (.str "before")) (mCons (mK (.str "behind")) (mNil))))))) (mBin hMod (mBin hAdd (mVar 4) (mVar 1)) (mK (.int 5))))
abbrev b__law_wide_by_1_3 : CV → Out := sShr 4 (sShr 5 (sSet 6 (mTup (mCons (mK (.str "tell")) (mCons (mVar 5) (mCons (mVar 4) (mCons (mBin hAdd (mSl (mBin hIx (mVar 2) (mBin hMod (mVar 3) (mK (.int 6)))) (mNoP) (mPart (mK (.int 5)))) (mCallB hStr (mCons (mVar 3) (mNil)))) (mNil))))))))
abbrev b__law_wide_by_1_4_1 : CV → Out := sSet 0 (mBin hAdd (mVar 0) (mLst (mCons (mVar 6) (mNil))))
abbrev b__law_wide_by_1_4 : CV → Out := sShr 0 (sIf (mAnd (mCmp hNotIn (mBin hIx (mVar 6) (mK (.int 3))) (mVar 2)) (mNot (mBool (mCall m__law_clash (mCons (mVar 0) (mCons (mVar 6) (mNil))))))) (b__law_wide_by_1_4_1) (sNx))
abbrev b__law_wide_by_1 : CV → Out := sFor 3 (mRange1 (mCons (mK (.int 40)) (mNil))) (sSeq (b__law_wide_by_1_1) (sSeq (b__law_wide_by_1_2) (sSeq (b__law_wide_by_1_3) (b__law_wide_by_1_4))))
abbrev b__law_wide_by_2 : CV → Out := sRetOwn 0
abbrev b__law_wide_by : CV → Out := sSeq (b__law_wide_by_1) (b__law_wide_by_2)
def m__law_wide_by : CV → RF := runB 7 b__law_wide_by
abbrev b__law_alike_1 : CV → Out := sSet 2 (mLst (mCons (mTup (mCons (mVar 0) (mCons (mVar 1) (mNil)))) (mNil)))
abbrev b__law_alike_2_1 : CV → Out := sSetX 3 (mPop 2)
abbrev b__law_alike_2_2_1_1 : CV → Out := sRet (mK (.bool false))
abbrev b__law_alike_2_2_1 : CV → Out := sIf (mOr (mNot (mBool (mIsi "str" (mBin hIx (mVar 3) (mK (.int 0)))))) (mCmp hNe (mBin hIx (mVar 3) (mK (.int 0))) (mBin hIx (mVar 3) (mK (.int 1))))) (b__law_alike_2_2_1_1) (sNx)
abbrev b__law_alike_2_2_e_1_1_1 : CV → Out := sRet (mK (.bool false))
abbrev b__law_alike_2_2_e_1_1 : CV → Out := sIf (mOr (mNot (mBool (mIsi "tuple" (mBin hIx (mVar 3) (mK (.int 0)))))) (mCmp hNe (mCallB hLen (mCons (mBin hIx (mVar 3) (mK (.int 0))) (mNil))) (mCallB hLen (mCons (mBin hIx (mVar 3) (mK (.int 1))) (mNil))))) (b__law_alike_2_2_e_1_1_1) (sNx)
abbrev b__law_alike_2_2_e_1_2 : CV → Out := sSet 2 (mBin hAdd (mVar 2) (mCallB hListZip (mCons (mBin hIx (mVar 3) (mK (.int 0))) (mCons (mBin hIx (mVar 3) (mK (.int 1))) (mNil)))))
abbrev b__law_alike_2_2_e_1_e_1_1 : CV → Out := sRet (mK (.bool false))
abbrev b__law_alike_2_2_e_1_e_1 : CV → Out := sIf (mOr (mNot (mBool (mIsi "int" (mBin hIx (mVar 3) (mK (.int 0)))))) (mOr (mBool (mIsi "bool" (mBin hIx (mVar 3) (mK (.int 0))))) (mCmp hNe (mBin hIx (mVar 3) (mK (.int 0))) (mBin hIx (mVar 3) (mK (.int 1)))))) (b__law_alike_2_2_e_1_e_1_1) (sNx)
abbrev b__law_alike_2_2_e_1 : CV → Out := sIf (mBool (mIsi "tuple" (mBin hIx (mVar 3) (mK (.int 1))))) (sSeq (b__law_alike_2_2_e_1_1) (b__law_alike_2_2_e_1_2)) (b__law_alike_2_2_e_1_e_1)
abbrev b__law_alike_2_2 : CV → Out := sIf (mBool (mIsi "str" (mBin hIx (mVar 3) (mK (.int 1))))) (b__law_alike_2_2_1) (b__law_alike_2_2_e_1)
abbrev b__law_alike_2 : CV → Out := whL (mCmp hNe (mVar 2) (mLst (mNil))) (sSeq (b__law_alike_2_1) (b__law_alike_2_2)) 100000
abbrev b__law_alike_3 : CV → Out := sRet (mK (.bool true))
abbrev b__law_alike : CV → Out := sSeq (b__law_alike_1) (sSeq (b__law_alike_2) (b__law_alike_3))
def m__law_alike : CV → RF := runB 4 b__law_alike
abbrev b__law_rows_1_1 : CV → Out := sRet (mK (.bool false))
abbrev b__law_rows_1 : CV → Out := sIf (mOr (mNot (mBool (mIsi "list" (mVar 0)))) (mCmp hNe (mCallB hLen (mCons (mVar 0) (mNil))) (mCallB hLen (mCons (mVar 1) (mNil))))) (b__law_rows_1_1) (sNx)
abbrev b__law_rows_2_1_1 : CV → Out := sRet (mK (.bool false))
abbrev b__law_rows_2_1 : CV → Out := sIf (mNot (mBool (mCall m__law_alike (mCons (mBin hIx (mVar 0) (mVar 2)) (mCons (mBin hIx (mVar 1) (mVar 2)) (mNil)))))) (b__law_rows_2_1_1) (sNx)
abbrev b__law_rows_2 : CV → Out := sFor 2 (mRange1 (mCons (mCallB hLen (mCons (mVar 1) (mNil))) (mNil))) (b__law_rows_2_1)
abbrev b__law_rows_3 : CV → Out := sRet (mK (.bool true))
abbrev b__law_rows : CV → Out := sSeq (b__law_rows_1) (sSeq (b__law_rows_2) (b__law_rows_3))
def m__law_rows : CV → RF := runB 3 b__law_rows
abbrev b__law_spoiled_1 : CV → Out := sSet 2 (mBin hIx (mVar 0) (mK (.int 1)))
abbrev b__law_spoiled_2 : CV → Out := sSet 3 (mBin hIx (mVar 0) (mK (.int 2)))
abbrev b__law_spoiled_3 : CV → Out := sSet 4 (mBin hIx (mVar 0) (mK (.int 3)))
abbrev b__law_spoiled_4 : CV → Out := sShr 4 (sShr 2 (sSet 5 (mLst (mCons (mTup (mCons (mK (.str "tell")) (mCons (mVar 2) (mCons (mK (.int 0)) (mCons (mVar 4) (mNil)))))) (mCons (mTup (mCons (mK (.str "tell")) (mCons (mVar 2) (mCons (mBin hAdd (mK (.int 31)) (mBin hMod (mBin hDiv (mVar 1) (mK (.int 12))) (mK (.int 1000)))) (mCons (mVar 4) (mNil)))))) (mCons (mTup (mCons (mK (.str "tell")) (mCons (mVar 2) (mCons (mUn hNeg (mVar 3)) (mCons (mVar 4) (mNil)))))) (mNil)))))))
abbrev b__law_spoiled_5 : CV → Out := sShr 3 (sShr 4 (sShr 2 (sSet 5 (mBin hAdd (mVar 5) (mLst (mCons (mTup (mCons (mK (.str "tell")) (mCons (mVar 2) (mCons (mK (.bool true)) (mCons (mVar 4) (mNil)))))) (mCons (mTup (mCons (mK (.str "tell")) (mCons (mVar 2) (mCons (mCallB hStr (mCons (mVar 3) (mNil))) (mCons (mVar 4) (mNil)))))) (mCons (mTup (mCons (mK (.str "told")) (mCons (mVar 2) (mCons (mVar 3) (mCons (mVar 4) (mNil)))))) (mNil)))))))))
abbrev b__law_spoiled_6 : CV → Out := sShr 2 (sShr 4 (sShr 3 (sSet 5 (mBin hAdd (mVar 5) (mLst (mCons (mTup (mCons (mK (.str "tell")) (mCons (mK (.str "between")) (mCons (mVar 3) (mCons (mVar 4) (mNil)))))) (mCons (mTup (mCons (mK (.str "tell")) (mCons (mVar 2) (mCons (mVar 3) (mCons (mK (.str "tell")) (mNil)))))) (mCons (mTup (mCons (mK (.str "tell")) (mCons (mVar 2) (mCons (mVar 3) (mCons (mBin hAdd (mVar 4) (mK (.str " "))) (mNil)))))) (mNil)))))))))
abbrev b__law_spoiled_7 : CV → Out := sShr 4 (sShr 3 (sShr 2 (sSet 5 (mBin hAdd (mVar 5) (mLst (mCons (mTup (mCons (mK (.str "tell")) (mCons (mVar 2) (mCons (mVar 3) (mNil))))) (mCons (mTup (mCons (mK (.str "tell")) (mCons (mK .none) (mCons (mVar 3) (mCons (mVar 4) (mNil)))))) (mCons (mLst (mCons (mK (.str "tell")) (mCons (mVar 2) (mCons (mVar 3) (mCons (mVar 4) (mNil)))))) (mNil)))))))))
abbrev b__law_spoiled_8 : CV → Out := sShr 3 (sShr 4 (sShr 2 (sSet 5 (mBin hAdd (mVar 5) (mLst (mCons (mTup (mCons (mK (.str "tell")) (mCons (mVar 2) (mCons (mLst (mCons (mVar 3) (mNil))) (mCons (mVar 4) (mNil)))))) (mCons (mTup (mCons (mK (.str "tell")) (mCons (mLst (mCons (mVar 2) (mNil))) (mCons (mVar 3) (mCons (mVar 4) (mNil)))))) (mCons (mTup (mCons (mK (.str "tell")) (mCons (mVar 2) (mCons (mVar 3) (mCons (mLst (mCons (mVar 4) (mNil))) (mNil)))))) (mNil)))))))))
abbrev b__law_spoiled_9 : CV → Out := sShr 3 (sShr 4 (sShr 2 (sSet 5 (mBin hAdd (mVar 5) (mLst (mCons (mTup (mCons (mK (.str "tell")) (mCons (mVar 2) (mCons (mK .none) (mCons (mVar 4) (mNil)))))) (mCons (mTup (mCons (mK (.str "tell")) (mCons (mVar 2) (mCons (mVar 3) (mCons (mK .none) (mNil)))))) (mCons (mTup (mCons (mLst (mNil)) (mCons (mVar 2) (mCons (mVar 3) (mCons (mVar 4) (mNil)))))) (mNil)))))))))
abbrev b__law_spoiled_10 : CV → Out := sRet (mBin hIx (mVar 5) (mBin hMod (mVar 1) (mK (.int 18))))
abbrev b__law_spoiled : CV → Out := sSeq (b__law_spoiled_1) (sSeq (b__law_spoiled_2) (sSeq (b__law_spoiled_3) (sSeq (b__law_spoiled_4) (sSeq (b__law_spoiled_5) (sSeq (b__law_spoiled_6) (sSeq (b__law_spoiled_7) (sSeq (b__law_spoiled_8) (sSeq (b__law_spoiled_9) (b__law_spoiled_10)))))))))
def m__law_spoiled : CV → RF := runB 6 b__law_spoiled
abbrev b__law_refused_by_any_1_1 : CV → Out := sExpr (mCall m_added (mCons (mVar 0) (mCons (mVar 1) (mNil))))
abbrev b__law_refused_by_any_1 : CV → Out := sTryA errN sub_ReadError 2 (b__law_refused_by_any_1_1)
abbrev b__law_refused_by_any_2 : CV → Out := sRet (mK (.bool false))
abbrev b__law_refused_by_any : CV → Out := sSeq (b__law_refused_by_any_1) (b__law_refused_by_any_2)
def m__law_refused_by_any : CV → RF := runB 3 b__law_refused_by_any
abbrev b_law_1 : CV → Out := sSet 1 (mCall m__law_words_by (mCons (mCall m__law_cell_at (mCons (mVar 0) (mCons (mK (.int 0)) (mNil)))) (mNil)))
abbrev b_law_2 : CV → Out := sShr 1 (sSet 2 (mCall m__law_table_by (mCons (mCall m__law_cells (mCons (mVar 0) (mCons (mK (.int 3)) (mCons (mK (.int 15)) (mNil))))) (mCons (mVar 1) (mNil)))))
abbrev b_law_3_1 : CV → Out := sShr 1 (sShr 2 (sSet 2 (mCall m__law_wide_by (mCons (mVar 2) (mCons (mBin hDiv (mCall m__law_cell_at (mCons (mVar 0) (mCons (mK (.int 2)) (mNil)))) (mK (.int 144))) (mCons (mVar 1) (mNil)))))))
abbrev b_law_3 : CV → Out := sIf (mCmp hEq (mBin hMod (mBin hDiv (mCall m__law_cell_at (mCons (mVar 0) (mCons (mK (.int 2)) (mNil)))) (mK (.int 36))) (mK (.int 4))) (mK (.int 1))) (b_law_3_1) (sNx)
abbrev b_law_4 : CV → Out := sShr 1 (sSet 3 (mCall m__law_telling_by (mCons (mCall m__law_cell_at (mCons (mVar 0) (mCons (mK (.int 1)) (mNil)))) (mCons (mVar 1) (mNil)))))
abbrev b_law_5 : CV → Out := sSet 4 (mCallB hListOf (mCons (mVar 2) (mNil)))
abbrev b_law_6_1 : CV → Out := sShr 3 (sSet 5 (mCall m__law_spoiled (mCons (mVar 3) (mCons (mBin hDiv (mCall m__law_cell_at (mCons (mVar 0) (mCons (mK (.int 2)) (mNil)))) (mK (.int 3))) (mNil)))))
abbrev b_law_6_2_1 : CV → Out := sShr 5 (sExpr (mCall m_added (mCons (mVar 4) (mCons (mVar 5) (mNil)))))
abbrev b_law_6_2_x_1 : CV → Out := sShr 2 (sShr 5 (sRet (mAndV (mCall m__law_refused_by_any (mCons (mVar 4) (mCons (mVar 5) (mNil)))) (mCall m__law_rows (mCons (mVar 4) (mCons (mVar 2) (mNil)))))))
abbrev b_law_6_2 : CV → Out := sTry errN sub_NoTelling (b_law_6_2_1) (b_law_6_2_x_1)
abbrev b_law_6_3 : CV → Out := sRet (mK (.bool false))
abbrev b_law_6 : CV → Out := sIf (mCmp hEq (mBin hMod (mCall m__law_cell_at (mCons (mVar 0) (mCons (mK (.int 2)) (mNil)))) (mK (.int 3))) (mK (.int 1))) (sSeq (b_law_6_1) (sSeq (b_law_6_2) (b_law_6_3))) (sNx)
abbrev b_law_7 : CV → Out := sShr 3 (sShr 2 (sSet 6 (mCall m__law_clash (mCons (mVar 2) (mCons (mVar 3) (mNil))))))
abbrev b_law_8 : CV → Out := sSet 7 (mK (.bool false))
abbrev b_law_9 : CV → Out := sSet 8 (mK .none)
abbrev b_law_10_1 : CV → Out := sShr 3 (sSet 8 (mCall m_added (mCons (mVar 4) (mCons (mVar 3) (mNil)))))
abbrev b_law_10_x_1 : CV → Out := sSet 7 (mK (.bool true))
abbrev b_law_10 : CV → Out := sTry errN sub_Clash (b_law_10_1) (b_law_10_x_1)
abbrev b_law_11_1 : CV → Out := sRet (mK (.bool false))
abbrev b_law_11 : CV → Out := sShr 2 (sIf (mOr (mNot (mBool (mCall m__law_rows (mCons (mVar 4) (mCons (mVar 2) (mNil)))))) (mCmp hNe (mVar 7) (mVar 6))) (b_law_11_1) (sNx))
abbrev b_law_12_1 : CV → Out := sShr 3 (sRet (mCall m__law_refused_by_any (mCons (mVar 4) (mCons (mVar 3) (mNil)))))
abbrev b_law_12 : CV → Out := sIf (mBool (mVar 6)) (b_law_12_1) (sNx)
abbrev b_law_13_1 : CV → Out := sRet (mK (.bool false))
abbrev b_law_13 : CV → Out := sShr 3 (sIf (mNot (mBool (mCall m__law_rows (mCons (mVar 8) (mCons (mBin hAdd (mVar 2) (mLst (mCons (mVar 3) (mNil)))) (mNil)))))) (b_law_13_1) (sNx))
abbrev b_law_14 : CV → Out := sApp 4 (mLift (mTup (mCons (mK (.str "tell")) (mCons (mK (.str "left")) (mCons (mK (.int 1)) (mCons (mK (.str "x")) (mNil)))))))
abbrev b_law_15_1 : CV → Out := sRet (mK (.bool false))
abbrev b_law_15 : CV → Out := sShr 3 (sIf (mNot (mBool (mCall m__law_rows (mCons (mVar 8) (mCons (mBin hAdd (mVar 2) (mLst (mCons (mVar 3) (mNil)))) (mNil)))))) (b_law_15_1) (sNx))
abbrev b_law_16 : CV → Out := sExprX (mPop 4)
abbrev b_law_17 : CV → Out := sApp 8 (mLift (mVar 3))
abbrev b_law_18 : CV → Out := sShr 3 (sShr 2 (sRet (mAndV (mCall m__law_rows (mCons (mVar 4) (mCons (mVar 2) (mNil)))) (mCall m__law_rows (mCons (mCall m_added (mCons (mVar 4) (mCons (mVar 3) (mNil)))) (mCons (mBin hAdd (mVar 2) (mLst (mCons (mVar 3) (mNil)))) (mNil)))))))
abbrev b_law : CV → Out := sSeq (b_law_1) (sSeq (b_law_2) (sSeq (b_law_3) (sSeq (b_law_4) (sSeq (b_law_5) (sSeq (b_law_6) (sSeq (b_law_7) (sSeq (b_law_8) (sSeq (b_law_9) (sSeq (b_law_10) (sSeq (b_law_11) (sSeq (b_law_12) (sSeq (b_law_13) (sSeq (b_law_14) (sSeq (b_law_15) (sSeq (b_law_16) (sSeq (b_law_17) (b_law_18)))))))))))))))))
def m_law : CV → RF := runB 9 b_law
/-! ### the rules -/
section
variable {P : Program} {w : World} {base : Heap} {K : PySem.W.Frag} {mg : Str → Option Value} {T : List Addr}
abbrev BltIn (mg : Str → Option Value) : Prop := ∀ x ∈ (["ValueError", "all", "bool", "int", "isinstance", "len", "list", "min", "range", "str", "tuple", "zip"] : List Str), mg x = none
theorem fa__law_alone (hB : BltIn mg) {f : Addr} {fd : FuncData} (F : Fun K "_law_alone" "_law_alone" s__law_alone f fd) {c : Str} (hc : c ∈ sixE) (L : Lone K mg c) : ∀ D, mg c = some (.ref D) → FnA P w K mg base 1 f fd ["_law_e"] D (.bl true) := by
  intro D hD
  obtain ⟨D2, h0, xc, kv, k1, k2, k3, k4, k5, k6⟩ := L.ex
  cases hD.symm.trans h0
  have one := lone_sum c hc
  refine fnA_of F sc__law_alone fun CX cdv A outer s H E a oe hz hf => ?_
  exact alone_run (v := .bl (decide (V.int (bi (decide (c = "NoWord")) + bi (decide (c = "NoTelling")) + bi (decide (c = "Clash")) + bi (decide (c = "NoPart")) + bi (decide (c = "NoTree")) + bi (decide (c = "TooMuch"))) = V.int 1) && true)) (by rw [one]; rfl) sc__law_alone.nd (ge_add (ge_add (ge_int (ge_isR xc hz hf List.mem_cons_self (hB _ (by decide)) k1 rfl) (hB _ (by decide))) (ge_int (ge_isR xc hz hf List.mem_cons_self (hB _ (by decide)) k2 rfl) (hB _ (by decide)))) (ge_int (ge_isR xc hz hf List.mem_cons_self (hB _ (by decide)) k3 rfl) (hB _ (by decide)))) (g2_add (g2_add (g2_add (g2_var rfl) (g2 (ge_int (ge_isR xc hz hf List.mem_cons_self (hB _ (by decide)) k4 rfl) (hB _ (by decide))))) (g2 (ge_int (ge_isR xc hz hf List.mem_cons_self (hB _ (by decide)) k5 rfl) (hB _ (by decide))))) (g2 (ge_int (ge_isR xc hz hf List.mem_cons_self (hB _ (by decide)) k6 rfl) (hB _ (by decide))))) (g2_and (g2_eq1 rfl) (g2 (ge_isV xc hz hf List.mem_cons_self (hB _ (by decide)) (hB _ (by decide)) kv rfl)))
theorem fn_is_inner (hB : BltIn mg) (g_SINGLES : ∃ t, mg "SINGLES" = some (.str "();" t)) {f : Addr} {fd : FuncData} (F : Fun K "is_inner" "is_inner" s_is_inner f fd) : FnOk P w K mg base (L2N.CX P w) 1 f fd ["sign"] (spM { K := K, T := T, mg := mg, ios := [] } 1 m_is_inner) :=
    fn_ok (C := { K := K, T := T, mg := mg, ios := [] }) (k := 0) F sc_is_inner (by decide) fun cdv A outer s H E hr =>
      ss_one (ss_ret (se_and (se_chain op_le2 op_le2 ok_le ok_le (se_str) (se_var 0) (se_str)) (se_one (se_cmp op_notIn3 ok_notIn (se_var 0) (se_globS g_SINGLES)))))
theorem fn_is_word (hB : BltIn mg) (g_LONGEST : ∃ t, mg "LONGEST" = some (.int 8 t)) {f : Addr} {fd : FuncData} (F : Fun K "is_word" "is_word" s_is_word f fd) {c Pt : Addr} (hP : Pt ∈ T) (TB : GxR.TabB base mg c Pt) (hcd : fd.code = .ref c) (e_is_inner : EltF P w K mg base "is_inner" "sign" (inB "();")) : FnOk P w K mg base (L2N.CX P w) 2 f fd ["thing"] (spM { K := K, T := T, mg := mg, ios := [] } 1 m_is_word) :=
    fn_okT (C := { K := K, T := T, mg := mg, ios := [] }) (k := 1) F sc_is_word (by decide) fun cdv A outer s H E hcv hr =>
      ss_cons (ss_if (PW.pt (sw_or (st_not (st_val (se_isi (ty := "str") (by unfold TyOk; decide) (hB _ (by decide)) (hB _ (by decide)) (by decide +kernel) (se_var 0) rfl))) (sw_or1 (st_cmp (op_eq2 hr.units) ok_eq (se_var 0) (se_str))))) (ss_one (ss_ret (se_bool))) (ss_nil))
      (ss_one (ss_ret (se_and (se_chain op_le2 op_le2 ok_le ok_le (se_int) (se_callB call_len2 ok_len (hB _ (by decide)) (by decide +kernel) (sa_cons (se_var 0) (sa_nil))) (se_globI g_LONGEST)) (se_one (se_allF e_is_inner hr hP TB (hcv.trans hcd) (hB _ (by decide)) (se_var 0))))))
theorem fn_is_strength (hB : BltIn mg) (g_STRONGEST : ∃ t, mg "STRONGEST" = some (.int 30 t)) {f : Addr} {fd : FuncData} (F : Fun K "is_strength" "is_strength" s_is_strength f fd) : FnOk P w K mg base (L2N.CX P w) 1 f fd ["thing"] (spM { K := K, T := T, mg := mg, ios := [] } 1 m_is_strength) :=
    fn_ok (C := { K := K, T := T, mg := mg, ios := [] }) (k := 0) F sc_is_strength (by decide) fun cdv A outer s H E hr =>
      ss_cons (ss_if (PW.pt (sw_or (st_not (st_val (se_isi (ty := "int") (by unfold TyOk; decide) (hB _ (by decide)) (hB _ (by decide)) (by decide +kernel) (se_var 0) rfl))) (sw_or1 (st_val (se_isi (ty := "bool") (by unfold TyOk; decide) (hB _ (by decide)) (hB _ (by decide)) (by decide +kernel) (se_var 0) rfl))))) (ss_one (ss_ret (se_bool))) (ss_nil))
      (ss_one (ss_ret (se_chain op_le2 op_le2 ok_le ok_le (se_int) (se_var 0) (se_globI g_STRONGEST))))
theorem fn_is_telling (hB : BltIn mg) (g_KINDS : GlobD K mg "KINDS" (.tuple [(.str "left"), (.str "right"), (.str "none"), (.str "before"), (.str "behind")])) (c_is_strength : Cal P w K mg base T "is_strength" 1 1 m_is_strength) (c_is_word : Cal P w K mg base T "is_word" 1 2 m_is_word) {f : Addr} {fd : FuncData} (F : Fun K "is_telling" "is_telling" s_is_telling f fd) : FnOk P w K mg base (L2N.CX P w) 3 f fd ["thing"] (spM { K := K, T := T, mg := mg, ios := [] } 1 m_is_telling) :=
    fn_ok (C := { K := K, T := T, mg := mg, ios := [] }) (k := 2) F sc_is_telling (by decide) fun cdv A outer s H E hr =>
      ss_cons (ss_if (PW.pt (sw_or (st_not (st_val (se_isi (ty := "tuple") (by unfold TyOk; decide) (hB _ (by decide)) (hB _ (by decide)) (by decide +kernel) (se_var 0) rfl))) (sw_or1 (st_cmp (op_ne2 hr.units) ok_ne (se_callB call_len2 ok_len (hB _ (by decide)) (by decide +kernel) (sa_cons (se_var 0) (sa_nil))) (se_int))))) (ss_one (ss_ret (se_bool))) (ss_nil))
      (ss_cons (ss_unp [1, 2, 3, 4] rfl sc_is_telling.nd (se_var 0) rfl (.cons rfl (.inl rfl) (.inl rfl) (.cons rfl (.inl rfl) (.inl rfl) (.cons rfl (.inl rfl) (.inl rfl) (.cons rfl (.inl rfl) (.inl rfl) (.nil))))))
      (ss_one (ss_ret (se_and (se_cmp (op_eq2 hr.units) ok_eq (se_var 1) (se_str)) (se_and (se_inG (room200 hr) g_KINDS (se_var 2)) (se_and (se_callC c_is_strength hr (L2N.takes_of rfl rfl rfl rfl) (sa_cons (se_var 3) (sa_nil)) (.cons (.nil))) (se_one (se_callC c_is_word hr (L2N.takes_of rfl rfl rfl rfl) (sa_cons (se_var 4) (sa_nil)) (.cons (.nil))))))))))
theorem fn_has_other_kind (hB : BltIn mg) (g_STRENGTH : ∃ t, mg "STRENGTH" = some (.int 2 t)) (g_KIND : ∃ t, mg "KIND" = some (.int 1 t)) {f : Addr} {fd : FuncData} (F : Fun K "has_other_kind" "has_other_kind" s_has_other_kind f fd) : FnOk P w K mg base (L2N.CX P w) 1 f fd ["table", "telling"] (spM { K := K, T := T, mg := mg, ios := [] } 2 m_has_other_kind) :=
    fn_ok (C := { K := K, T := T, mg := mg, ios := [] }) (k := 0) F sc_has_other_kind (by decide) fun cdv A outer s H E hr =>
      ss_cons (ss_for 2 (passes_of rfl) rfl sc_has_other_kind.nd (si_list (se_var 0)) (ss_one (ss_if (PW.pt (sw_and (st_cmp (op_eq2 hr.units) ok_eq (se_ix ix_3 ok_ix (se_var 2) (se_globI g_STRENGTH) (fun _ _ => rfl)) (se_ix ix_3 ok_ix (se_var 1) (se_globI g_STRENGTH) (fun _ _ => rfl))) (sw_and1 (st_cmp (op_ne2 hr.units) ok_ne (se_ix ix_3 ok_ix (se_var 2) (se_globI g_KIND) (fun _ _ => rfl)) (se_ix ix_3 ok_ix (se_var 1) (se_globI g_KIND) (fun _ _ => rfl)))))) (ss_one (ss_ret (se_bool))) (ss_nil))))
      (ss_one (ss_ret (se_bool)))
theorem fn_is_ahead (hB : BltIn mg) (g_KIND : ∃ t, mg "KIND" = some (.int 1 t)) {f : Addr} {fd : FuncData} (F : Fun K "is_ahead" "is_ahead" s_is_ahead f fd) : FnOk P w K mg base (L2N.CX P w) 1 f fd ["telling"] (spM { K := K, T := T, mg := mg, ios := [] } 1 m_is_ahead) :=
    fn_ok (C := { K := K, T := T, mg := mg, ios := [] }) (k := 0) F sc_is_ahead (by decide) fun cdv A outer s H E hr =>
      ss_one (ss_ret (se_cmp (op_eq2 hr.units) ok_eq (se_ix ix_3 ok_ix (se_var 0) (se_globI g_KIND) (fun _ _ => rfl)) (se_str)))
theorem fn_role (hB : BltIn mg) (g_WORD : ∃ t, mg "WORD" = some (.int 3 t)) (c_is_ahead : Cal P w K mg base T "is_ahead" 1 1 m_is_ahead) {f : Addr} {fd : FuncData} (F : Fun K "role" "role" s_role f fd) : FnOk P w K mg base (L2N.CX P w) 2 f fd ["table", "word", "ahead"] (spM { K := K, T := T, mg := mg, ios := [] } 3 m_role) :=
    fn_ok (C := { K := K, T := T, mg := mg, ios := [] }) (k := 1) F sc_role (by decide) fun cdv A outer s H E hr =>
      ss_cons (ss_for 3 (passes_of rfl) rfl sc_role.nd (si_list (se_var 0)) (ss_one (ss_if (PW.pt (sw_and (st_cmp (op_eq2 hr.units) ok_eq (se_ix ix_3 ok_ix (se_var 3) (se_globI g_WORD) (fun _ _ => rfl)) (se_var 1)) (sw_and1 (st_cmp (op_eq2 hr.units) ok_eq (se_callC c_is_ahead hr (L2N.takes_of rfl rfl rfl rfl) (sa_cons (se_var 3) (sa_nil)) (.cons (.nil))) (se_var 2))))) (ss_one (ss_retOwn 3)) (ss_nil))))
      (ss_one (ss_ret (se_none)))
theorem fn_added (hB : BltIn mg) (g_STRENGTH : ∃ t, mg "STRENGTH" = some (.int 2 t)) (g_WORD : ∃ t, mg "WORD" = some (.int 3 t)) (E_NoTelling : Err K mg "NoTelling") (E_Clash : Err K mg "Clash") (c_is_telling : Cal P w K mg base T "is_telling" 1 3 m_is_telling) (c_has_other_kind : Cal P w K mg base T "has_other_kind" 2 1 m_has_other_kind) (c_role : Cal P w K mg base T "role" 3 2 m_role) (c_is_ahead : Cal P w K mg base T "is_ahead" 1 1 m_is_ahead) {f : Addr} {fd : FuncData} (F : Fun K "added" "added" s_added f fd) : FnOk P w K mg base (L2N.CX P w) 4 f fd ["table", "telling"] (spM { K := K, T := T, mg := mg, ios := [] } 2 m_added) :=
    fn_ok (C := { K := K, T := T, mg := mg, ios := [] }) (k := 3) F sc_added (by decide) fun cdv A outer s H E hr =>
      ss_cons (ss_if (st_not (st_val (se_callC c_is_telling hr (L2N.takes_of rfl rfl rfl rfl) (sa_cons (se_var 1) (sa_nil)) (.cons (.nil))))) (ss_one (ss_raiseV E_NoTelling rfl (L2N.takes_of rfl rfl rfl rfl))) (ss_nil))
      (ss_cons (ss_if (st_val (se_callC c_has_other_kind hr (L2N.takes_of rfl rfl rfl rfl) (sa_cons (se_var 0) (sa_cons (se_var 1) (sa_nil))) (.cons (.cons (.nil))))) (ss_one (ss_raiseVA E_Clash rfl (L2N.takes_of rfl rfl rfl rfl) (sa_cons (se_joined (.cons (se_str) (.cons (se_fmt (se_ix ix_3 ok_ix (se_var 1) (se_globI g_STRENGTH) (fun _ _ => rfl))) (.cons (se_str) (.nil))))) (sa_nil)))) (ss_nil))
      (ss_cons (ss_if (st_cmp op_notN ok_notN (se_callC c_role hr (L2N.takes_of rfl rfl rfl rfl) (sa_cons (se_var 0) (sa_cons (se_ix ix_3 ok_ix (se_var 1) (se_globI g_WORD) (fun _ _ => rfl)) (sa_cons (se_callC c_is_ahead hr (L2N.takes_of rfl rfl rfl rfl) (sa_cons (se_var 1) (sa_nil)) (.cons (.nil))) (sa_nil)))) (.cons (.cons (.cons (.nil))))) (se_none)) (ss_one (ss_raiseVA E_Clash rfl (L2N.takes_of rfl rfl rfl rfl) (sa_cons (se_joined (.cons (se_str) (.cons (se_fmt (se_ix ix_3 ok_ix (se_var 1) (se_globI g_WORD) (fun _ _ => rfl))) (.cons (se_str) (.nil))))) (sa_nil)))) (ss_nil))
      (ss_one (ss_ret (se_bin op_add3 ok_add (se_var 0) (se_lst (sa_cons (se_var 1) (sa_nil))))))))
theorem fn__law_mixed (hB : BltIn mg) {f : Addr} {fd : FuncData} (F : Fun K "_law_mixed" "_law_mixed" s__law_mixed f fd) : FnOk P w K mg base (L2N.CX P w) 1 f fd ["_law_cell", "_law_k"] (spM { K := K, T := T, mg := mg, ios := [] } 2 m__law_mixed) :=
    fn_ok (C := { K := K, T := T, mg := mg, ios := [] }) (k := 0) F sc__law_mixed (by decide) fun cdv A outer s H E hr =>
      ss_cons (ss_set 2 sc__law_mixed.nd (se_bin op_mod ok_mod (se_bin op_mul2 ok_mul (se_bin op_add3 ok_add (se_var 0) (se_bin op_mul2 ok_mul (se_int) (se_var 1))) (se_int)) (se_int)))
      (ss_one (ss_ret (se_bin op_mod ok_mod (se_bin op_mul2 ok_mul (se_var 2) (se_var 2)) (se_int))))
theorem fn__law_cell_at (hB : BltIn mg) (c__law_mixed : Cal P w K mg base T "_law_mixed" 2 1 m__law_mixed) {f : Addr} {fd : FuncData} (F : Fun K "_law_cell_at" "_law_cell_at" s__law_cell_at f fd) : FnOk P w K mg base (L2N.CX P w) 2 f fd ["_law_script", "_law_k"] (spM { K := K, T := T, mg := mg, ios := [] } 2 m__law_cell_at) :=
    fn_ok (C := { K := K, T := T, mg := mg, ios := [] }) (k := 1) F sc__law_cell_at (by decide) fun cdv A outer s H E hr =>
      ss_cons (ss_if (st_cmp op_lt ok_lt (se_var 1) (se_callB call_len2 ok_len (hB _ (by decide)) (by decide +kernel) (sa_cons (se_var 0) (sa_nil)))) (ss_one (ss_ret (se_callC c__law_mixed hr (L2N.takes_of rfl rfl rfl rfl) (sa_cons (se_ix ix_3 ok_ix (se_var 0) (se_var 1) (fun _ _ => rfl)) (sa_cons (se_var 1) (sa_nil))) (.cons (.cons (.nil)))))) (ss_nil))
      (ss_one (ss_ret (se_int)))
theorem fn__law_cells (hB : BltIn mg) (c__law_mixed : Cal P w K mg base T "_law_mixed" 2 1 m__law_mixed) {f : Addr} {fd : FuncData} (F : Fun K "_law_cells" "_law_cells" s__law_cells f fd) : FnOk P w K mg base (L2N.CX P w) 2 f fd ["_law_script", "_law_at", "_law_end"] (spM { K := K, T := T, mg := mg, ios := [] } 3 m__law_cells) :=
    fn_ok (C := { K := K, T := T, mg := mg, ios := [] }) (k := 1) F sc__law_cells (by decide) fun cdv A outer s H E hr =>
      ss_one (ss_ret (se_lc 3 rfl sc__law_cells.nd (si_range2 (hB _ (by decide)) (sa_cons (se_var 1) (sa_cons (se_callB (call_min2 rfl) ok_min2 (hB _ (by decide)) (by decide +kernel) (sa_cons (se_var 2) (sa_cons (se_callB call_len2 ok_len (hB _ (by decide)) (by decide +kernel) (sa_cons (se_var 0) (sa_nil))) (sa_nil)))) (sa_nil)))) (blkOk_by (N := N__law_cells) (sc := defScope s__law_cells) (by decide +kernel)) (fun s H Ca cl fp => sts_nil) (fun s H Ca cl fp => se_callC c__law_mixed hr takes0N (sa_cons (se_ix ix_3 ok_ix (se_var 0) (se_var 3) (fun _ _ => rfl)) (sa_cons (se_var 3) (sa_nil))) (.cons (.cons (.nil))))))
theorem fn__law_sign_by (hB : BltIn mg) {f : Addr} {fd : FuncData} (F : Fun K "_law_sign_by" "_law_sign_by" s__law_sign_by f fd) : FnOk P w K mg base (L2N.CX P w) 1 f fd ["_law_cell"] (spM { K := K, T := T, mg := mg, ios := [] } 1 m__law_sign_by) :=
    fn_ok (C := { K := K, T := T, mg := mg, ios := [] }) (k := 0) F sc__law_sign_by (by decide) fun cdv A outer s H E hr =>
      ss_cons (ss_set 1 sc__law_sign_by.nd (se_str))
      (ss_cons (ss_set 1 sc__law_sign_by.nd (se_bin op_add3 ok_add (se_var 1) (se_str)))
      (ss_one (ss_ret (se_ix ix_3 ok_ix (se_var 1) (se_bin op_mod ok_mod (se_var 0) (se_int)) (fun _ _ => rfl)))))
theorem fn__law_word_by (hB : BltIn mg) (c__law_sign_by : Cal P w K mg base T "_law_sign_by" 1 1 m__law_sign_by) {f : Addr} {fd : FuncData} (F : Fun K "_law_word_by" "_law_word_by" s__law_word_by f fd) : FnOk P w K mg base (L2N.CX P w) 2 f fd ["_law_cell", "_law_k"] (spM { K := K, T := T, mg := mg, ios := [] } 2 m__law_word_by) :=
    fn_ok (C := { K := K, T := T, mg := mg, ios := [] }) (k := 1) F sc__law_word_by (by decide) fun cdv A outer s H E hr =>
      ss_cons (ss_set 2 sc__law_word_by.nd (se_join (se_str) (se_lc 7 rfl sc__law_word_by.nd (si_range1 (hB _ (by decide)) (sa_cons (se_int) (sa_nil))) (blkOk_by (N := N__law_word_by) (sc := defScope s__law_word_by) (by decide +kernel)) (fun s H Ca cl fp => sts_nil) (fun s H Ca cl fp => se_callC c__law_sign_by hr takes0N (sa_cons (se_bin op_mod ok_mod (se_bin op_mul2 ok_mul (se_bin op_add3 ok_add (se_bin op_fdiv ok_div (se_var 0) (se_int)) (se_bin op_mul2 ok_mul (se_var 7) (se_int))) (se_int)) (se_int)) (sa_nil)) (.cons (.nil)))) rfl))
      (ss_cons (ss_if (st_cmp (op_eq2 hr.units) ok_eq (se_sl (se_var 2) (so_none) (so_some (se_int)) rfl) (se_str)) (ss_one (ss_set 2 sc__law_word_by.nd (se_bin op_add3 ok_add (se_bin op_add3 ok_add (se_sl (se_var 2) (so_none) (so_some (se_int)) rfl) (se_str)) (se_sl (se_var 2) (so_some (se_int)) (so_none) rfl)))) (ss_nil))
      (ss_cons (ss_set 3 sc__law_word_by.nd (se_ix ix_3 ok_ix (se_lst (sa_cons (se_int) (sa_cons (se_int) (sa_cons (se_int) (sa_cons (se_int) (sa_cons (se_int) (sa_cons (se_int) (sa_nil)))))))) (se_bin op_mod ok_mod (se_bin op_fdiv ok_div (se_var 0) (se_int)) (se_int)) (fun _ _ => rfl)))
      (ss_cons (ss_set 4 sc__law_word_by.nd (se_bin op_mod ok_mod (se_bin op_fdiv ok_div (se_var 0) (se_int)) (se_var 3)))
      (ss_cons (ss_set 5 sc__law_word_by.nd (se_bin op_mod ok_mod (se_bin op_fdiv ok_div (se_var 0) (se_int)) (se_int)))
      (ss_cons (ss_if (st_cmp (op_eq2 hr.units) ok_eq (se_var 5) (se_int)) (ss_one (ss_ret (se_sl (se_var 2) (so_none) (so_some (se_bin op_add3 ok_add (se_var 1) (se_int))) rfl))) (ss_nil))
      (ss_cons (ss_if (PW.pt (sw_and (st_cmp (op_eq2 hr.units) ok_eq (se_var 5) (se_int)) (sw_and1 (st_cmp (op_eq2 hr.units) ok_eq (se_bin op_add3 ok_add (se_bin op_add3 ok_add (se_sl (se_var 2) (so_none) (so_some (se_var 4)) rfl) (se_callC c__law_sign_by hr (L2N.takes_of rfl rfl rfl rfl) (sa_cons (se_bin op_add3 ok_add (se_var 0) (se_var 1)) (sa_nil)) (.cons (.nil)))) (se_sl (se_var 2) (so_some (se_bin op_add3 ok_add (se_var 4) (se_int))) (so_some (se_var 3)) rfl)) (se_str))))) (ss_one (ss_ret (se_bin op_add3 ok_add (se_bin op_add3 ok_add (se_sl (se_var 2) (so_none) (so_some (se_var 4)) rfl) (se_callC c__law_sign_by hr (L2N.takes_of rfl rfl rfl rfl) (sa_cons (se_bin op_add3 ok_add (se_var 0) (se_int)) (sa_nil)) (.cons (.nil)))) (se_sl (se_var 2) (so_some (se_bin op_add3 ok_add (se_var 4) (se_int))) (so_some (se_var 3)) rfl)))) (ss_nil))
      (ss_cons (ss_if (st_cmp (op_eq2 hr.units) ok_eq (se_var 5) (se_int)) (ss_one (ss_ret (se_bin op_add3 ok_add (se_bin op_add3 ok_add (se_sl (se_var 2) (so_none) (so_some (se_var 4)) rfl) (se_callC c__law_sign_by hr (L2N.takes_of rfl rfl rfl rfl) (sa_cons (se_bin op_add3 ok_add (se_var 0) (se_var 1)) (sa_nil)) (.cons (.nil)))) (se_sl (se_var 2) (so_some (se_bin op_add3 ok_add (se_var 4) (se_int))) (so_some (se_var 3)) rfl)))) (ss_nil))
      (ss_cons (ss_set 6 sc__law_word_by.nd (se_bin op_add3 ok_add (se_callC c__law_sign_by hr (L2N.takes_of rfl rfl rfl rfl) (sa_cons (se_bin op_add3 ok_add (se_var 0) (se_var 1)) (sa_nil)) (.cons (.nil))) (se_sl (se_var 2) (so_some (se_var 1)) (so_some (se_bin op_add3 ok_add (se_var 1) (se_bin op_mod ok_mod (se_bin op_add3 ok_add (se_var 3) (se_var 1)) (se_int)))) rfl)))
      (ss_one (ss_share 6 (ss_ret (se_ix ix_3 ok_ix (se_lst (sa_cons (se_var 6) (sa_cons (se_str) (sa_nil)))) (se_callTy call_int1 ok_int1 (hB _ (by decide)) (by decide +kernel) (sa_cons (se_cmp (op_eq2 hr.units) ok_eq (se_var 6) (se_str)) (sa_nil))) (fun _ _ => rfl)))))))))))))
theorem fn__law_words_by (hB : BltIn mg) (c__law_word_by : Cal P w K mg base T "_law_word_by" 2 2 m__law_word_by) {f : Addr} {fd : FuncData} (F : Fun K "_law_words_by" "_law_words_by" s__law_words_by f fd) : FnOk P w K mg base (L2N.CX P w) 3 f fd ["_law_cell"] (spM { K := K, T := T, mg := mg, ios := [] } 1 m__law_words_by) :=
    fn_ok (C := { K := K, T := T, mg := mg, ios := [] }) (k := 2) F sc__law_words_by (by decide) fun cdv A outer s H E hr =>
      ss_cons (ss_setLc 1 3 rfl sc__law_words_by.nd (si_range1 (hB _ (by decide)) (sa_cons (se_int) (sa_nil))) (blkOk_by (N := N__law_words_by) (sc := defScope s__law_words_by) (by decide +kernel)) (fun s H Ca cl fp => sts_nil) (fun s H Ca cl fp => se_callC c__law_word_by hr takes0N (sa_cons (se_var 0) (sa_cons (se_var 3) (sa_nil))) (.cons (.cons (.nil)))) (sw_true rfl rfl rfl (by decide +kernel)))
      (ss_cons (ss_set 2 sc__law_words_by.nd (se_lst (sa_cons (se_str) (sa_cons (se_str) (sa_cons (se_str) (sa_cons (se_str) (sa_cons (se_str) (sa_cons (se_str) (sa_cons (se_str) (sa_cons (se_str) (sa_nil)))))))))))
      (ss_cons (ss_for 3 (passes_of rfl) rfl sc__law_words_by.nd (si_range1 (hB _ (by decide)) (sa_cons (se_bin op_mul2 ok_mul (se_int) (se_callTy call_int1 ok_int1 (hB _ (by decide)) (by decide +kernel) (sa_cons (se_cmp (op_eq2 hr.units) ok_eq (se_bin op_mod ok_mod (se_bin op_fdiv ok_div (se_var 0) (se_int)) (se_int)) (se_int)) (sa_nil)))) (sa_nil))) (ss_cons (ss_set 4 sc__law_words_by.nd (se_ix ix_3 ok_ix (se_var 2) (se_bin op_mod ok_mod (se_bin op_add3 ok_add (se_bin op_fdiv ok_div (se_var 0) (se_int)) (se_bin op_mul2 ok_mul (se_int) (se_var 3))) (se_int)) (fun _ _ => rfl)))
      (ss_one (ss_if (st_cmp op_notIn3 ok_notIn (se_var 4) (se_var 1)) (ss_one (ss_share 4 (ss_setIx 1 (se_var 4) (se_bin op_mod ok_mod (se_bin op_add3 ok_add (se_bin op_fdiv ok_div (se_var 0) (se_int)) (se_bin op_mul2 ok_mul (se_int) (se_var 3))) (se_int))))) (ss_nil)))))
      (ss_one (ss_retOwn 1))))
theorem fn__law_role (hB : BltIn mg) {f : Addr} {fd : FuncData} (F : Fun K "_law_role" "_law_role" s__law_role f fd) : FnOk P w K mg base (L2N.CX P w) 1 f fd ["_law_table", "_law_word", "_law_ahead"] (spM { K := K, T := T, mg := mg, ios := [] } 3 m__law_role) :=
    fn_ok (C := { K := K, T := T, mg := mg, ios := [] }) (k := 0) F sc__law_role (by decide) fun cdv A outer s H E hr =>
      ss_cons (ss_for 3 (passes_of rfl) rfl sc__law_role.nd (si_list (se_var 0)) (ss_one (ss_if (PW.pt (sw_and (st_cmp (op_eq2 hr.units) ok_eq (se_ix ix_3 ok_ix (se_var 3) (se_int) (fun _ _ => rfl)) (se_var 1)) (sw_and1 (st_cmp (op_eq2 hr.units) ok_eq (se_cmp (op_eq2 hr.units) ok_eq (se_ix ix_3 ok_ix (se_var 3) (se_int) (fun _ _ => rfl)) (se_str)) (se_var 2))))) (ss_one (ss_retOwn 3)) (ss_nil))))
      (ss_one (ss_ret (se_none)))
theorem fn__law_clash (hB : BltIn mg) (c__law_role : Cal P w K mg base T "_law_role" 3 1 m__law_role) {f : Addr} {fd : FuncData} (F : Fun K "_law_clash" "_law_clash" s__law_clash f fd) : FnOk P w K mg base (L2N.CX P w) 2 f fd ["_law_table", "_law_telling"] (spM { K := K, T := T, mg := mg, ios := [] } 2 m__law_clash) :=
    fn_ok (C := { K := K, T := T, mg := mg, ios := [] }) (k := 1) F sc__law_clash (by decide) fun cdv A outer s H E hr =>
      ss_cons (ss_for 2 (passes_of rfl) rfl sc__law_clash.nd (si_list (se_var 0)) (ss_one (ss_if (PW.pt (sw_and (st_cmp (op_eq2 hr.units) ok_eq (se_ix ix_3 ok_ix (se_var 2) (se_int) (fun _ _ => rfl)) (se_ix ix_3 ok_ix (se_var 1) (se_int) (fun _ _ => rfl))) (sw_and1 (st_cmp (op_ne2 hr.units) ok_ne (se_ix ix_3 ok_ix (se_var 2) (se_int) (fun _ _ => rfl)) (se_ix ix_3 ok_ix (se_var 1) (se_int) (fun _ _ => rfl)))))) (ss_one (ss_ret (se_bool))) (ss_nil))))
      (ss_one (ss_ret (se_cmp op_notN ok_notN (se_callC c__law_role hr (L2N.takes_of rfl rfl rfl rfl) (sa_cons (se_var 0) (sa_cons (se_ix ix_3 ok_ix (se_var 1) (se_int) (fun _ _ => rfl)) (sa_cons (se_cmp (op_eq2 hr.units) ok_eq (se_ix ix_3 ok_ix (se_var 1) (se_int) (fun _ _ => rfl)) (se_str)) (sa_nil)))) (.cons (.cons (.cons (.nil))))) (se_none))))
theorem fn__law_telling_by (hB : BltIn mg) {f : Addr} {fd : FuncData} (F : Fun K "_law_telling_by" "_law_telling_by" s__law_telling_by f fd) : FnOk P w K mg base (L2N.CX P w) 1 f fd ["_law_cell", "_law_words"] (spM { K := K, T := T, mg := mg, ios := [] } 2 m__law_telling_by) :=
    fn_ok (C := { K := K, T := T, mg := mg, ios := [] }) (k := 0) F sc__law_telling_by (by decide) fun cdv A outer s H E hr =>
      ss_cons (ss_set 2 sc__law_telling_by.nd (se_ix ix_3 ok_ix (se_lst (sa_cons (se_str) (sa_cons (se_str) (sa_cons (se_str) (sa_cons (se_str) (sa_cons (se_str) (sa_nil))))))) (se_bin op_mod ok_mod (se_var 0) (se_int)) (fun _ _ => rfl)))
      (ss_cons (ss_set 3 sc__law_telling_by.nd (se_bin op_add3 ok_add (se_int) (se_bin op_mod ok_mod (se_bin op_fdiv ok_div (se_var 0) (se_int)) (se_int))))
      (ss_cons (ss_if (st_cmp op_gt ok_gt (se_bin op_mod ok_mod (se_bin op_fdiv ok_div (se_var 0) (se_int)) (se_int)) (se_int)) (ss_one (ss_set 3 sc__law_telling_by.nd (se_bin op_add3 ok_add (se_int) (se_bin op_mod ok_mod (se_bin op_fdiv ok_div (se_var 0) (se_int)) (se_int))))) (ss_nil))
      (ss_one (ss_share 3 (ss_share 2 (ss_ret (se_tup (sa_cons (se_str) (sa_cons (se_var 2) (sa_cons (se_var 3) (sa_cons (se_ix ix_3 ok_ix (se_var 1) (se_bin op_mod ok_mod (se_bin op_fdiv ok_div (se_var 0) (se_int)) (se_int)) (fun _ _ => rfl)) (sa_nil))))))))))))
theorem fn__law_table_by (hB : BltIn mg) (c__law_telling_by : Cal P w K mg base T "_law_telling_by" 2 1 m__law_telling_by) (c__law_clash : Cal P w K mg base T "_law_clash" 2 2 m__law_clash) {f : Addr} {fd : FuncData} (F : Fun K "_law_table_by" "_law_table_by" s__law_table_by f fd) : FnOk P w K mg base (L2N.CX P w) 3 f fd ["_law_cells_here", "_law_words"] (spM { K := K, T := T, mg := mg, ios := [] } 2 m__law_table_by) :=
    fn_ok (C := { K := K, T := T, mg := mg, ios := [] }) (k := 2) F sc__law_table_by (by decide) fun cdv A outer s H E hr =>
      ss_cons (ss_set 2 sc__law_table_by.nd (se_lst (sa_nil)))
      (ss_cons (ss_for 3 (passes_of rfl) rfl sc__law_table_by.nd (si_list (se_var 0)) (ss_cons (ss_set 4 sc__law_table_by.nd (se_callC c__law_telling_by hr (L2N.takes_of rfl rfl rfl rfl) (sa_cons (se_var 3) (sa_cons (se_var 1) (sa_nil))) (.cons (.cons (.nil)))))
      (ss_one (ss_share 4 (ss_if (st_not (st_val (se_callC c__law_clash hr (L2N.takes_of rfl rfl rfl rfl) (sa_cons (se_var 2) (sa_cons (se_var 4) (sa_nil))) (.cons (.cons (.nil)))))) (ss_one (ss_app 2 (sx_lift (W := W0) (se_var 4)))) (ss_nil))))))
      (ss_one (ss_retOwn 2)))
theorem fn__law_wide_by (hB : BltIn mg) (c__law_clash : Cal P w K mg base T "_law_clash" 2 2 m__law_clash) {f : Addr} {fd : FuncData} (F : Fun K "_law_wide_by" "_law_wide_by" s__law_wide_by f fd) : FnOk P w K mg base (L2N.CX P w) 3 f fd ["_law_table", "_law_cell", "_law_words"] (spM { K := K, T := T, mg := mg, ios := [] } 3 m__law_wide_by) :=
    fn_ok (C := { K := K, T := T, mg := mg, ios := [] }) (k := 2) F sc__law_wide_by (by decide) fun cdv A outer s H E hr =>
      ss_cons (ss_for 3 (passes_of rfl) rfl sc__law_wide_by.nd (si_range1 (hB _ (by decide)) (sa_cons (se_int) (sa_nil))) (ss_cons (ss_set 4 sc__law_wide_by.nd (se_bin op_add3 ok_add (se_int) (se_bin op_mod ok_mod (se_bin op_add3 ok_add (se_var 3) (se_var 1)) (se_int))))
      (ss_cons (ss_set 5 sc__law_wide_by.nd (se_ix ix_3 ok_ix (se_lst (sa_cons (se_str) (sa_cons (se_str) (sa_cons (se_str) (sa_cons (se_str) (sa_cons (se_str) (sa_nil))))))) (se_bin op_mod ok_mod (se_bin op_add3 ok_add (se_var 4) (se_var 1)) (se_int)) (fun _ _ => rfl)))
      (ss_cons (ss_share 4 (ss_share 5 (ss_set 6 sc__law_wide_by.nd (se_tup (sa_cons (se_str) (sa_cons (se_var 5) (sa_cons (se_var 4) (sa_cons (se_bin op_add3 ok_add (se_sl (se_ix ix_3 ok_ix (se_var 2) (se_bin op_mod ok_mod (se_var 3) (se_int)) (fun _ _ => rfl)) (so_none) (so_some (se_int)) rfl) (se_callTy call_str_int ok_str1 (hB _ (by decide)) (by decide +kernel) (sa_cons (se_var 3) (sa_nil)))) (sa_nil)))))))))
      (ss_one (ss_share 0 (ss_if (PW.pt (sw_and (st_cmp op_notIn3 ok_notIn (se_ix ix_3 ok_ix (se_var 6) (se_int) (fun _ _ => rfl)) (se_var 2)) (sw_and1 (st_not (st_val (se_callC c__law_clash hr (L2N.takes_of rfl rfl rfl rfl) (sa_cons (se_var 0) (sa_cons (se_var 6) (sa_nil))) (.cons (.cons (.nil))))))))) (ss_one (ss_set 0 sc__law_wide_by.nd (se_bin op_add3 ok_add (se_var 0) (se_lst (sa_cons (se_var 6) (sa_nil)))))) (ss_nil))))))))
      (ss_one (ss_retOwn 0))
theorem fn__law_alike (hB : BltIn mg) {f : Addr} {fd : FuncData} (F : Fun K "_law_alike" "_law_alike" s__law_alike f fd) : FnOk P w K mg base (L2N.CX P w) 1 f fd ["_law_found", "_law_due"] (spM { K := K, T := T, mg := mg, ios := [] } 2 m__law_alike) :=
    fn_ok (C := { K := K, T := T, mg := mg, ios := [] }) (k := 0) F sc__law_alike (by decide) fun cdv A outer s H E hr =>
      ss_cons (ss_set 2 sc__law_alike.nd (se_lst (sa_cons (se_tup (sa_cons (se_var 0) (sa_cons (se_var 1) (sa_nil)))) (sa_nil))))
      (ss_cons (ss_while 100000 (passes_of rfl) (st_cmp (op_ne2 hr.units) ok_ne (se_var 2) (se_lst (sa_nil))) (ss_cons (ss_setX 3 sc__law_alike.nd (sx_pop 2))
      (ss_one (ss_if (st_val (se_isi (ty := "str") (by unfold TyOk; decide) (hB _ (by decide)) (hB _ (by decide)) (by decide +kernel) (se_ix ix_3 ok_ix (se_var 3) (se_int) (fun _ _ => rfl)) rfl)) (ss_one (ss_if (PW.pt (sw_or (st_not (st_val (se_isi (ty := "str") (by unfold TyOk; decide) (hB _ (by decide)) (hB _ (by decide)) (by decide +kernel) (se_ix ix_3 ok_ix (se_var 3) (se_int) (fun _ _ => rfl)) rfl))) (sw_or1 (st_cmp (op_ne2 hr.units) ok_ne (se_ix ix_3 ok_ix (se_var 3) (se_int) (fun _ _ => rfl)) (se_ix ix_3 ok_ix (se_var 3) (se_int) (fun _ _ => rfl)))))) (ss_one (ss_ret (se_bool))) (ss_nil))) (ss_one (ss_if (st_val (se_isi (ty := "tuple") (by unfold TyOk; decide) (hB _ (by decide)) (hB _ (by decide)) (by decide +kernel) (se_ix ix_3 ok_ix (se_var 3) (se_int) (fun _ _ => rfl)) rfl)) (ss_cons (ss_if (PW.pt (sw_or (st_not (st_val (se_isi (ty := "tuple") (by unfold TyOk; decide) (hB _ (by decide)) (hB _ (by decide)) (by decide +kernel) (se_ix ix_3 ok_ix (se_var 3) (se_int) (fun _ _ => rfl)) rfl))) (sw_or1 (st_cmp (op_ne2 hr.units) ok_ne (se_callB call_len2 ok_len (hB _ (by decide)) (by decide +kernel) (sa_cons (se_ix ix_3 ok_ix (se_var 3) (se_int) (fun _ _ => rfl)) (sa_nil))) (se_callB call_len2 ok_len (hB _ (by decide)) (by decide +kernel) (sa_cons (se_ix ix_3 ok_ix (se_var 3) (se_int) (fun _ _ => rfl)) (sa_nil))))))) (ss_one (ss_ret (se_bool))) (ss_nil))
      (ss_one (ss_set 2 sc__law_alike.nd (se_bin op_add3 ok_add (se_var 2) (se_listZip hr (hB _ (by decide)) (hB _ (by decide)) (sa_cons (se_ix ix_3 ok_ix (se_var 3) (se_int) (fun _ _ => rfl)) (sa_cons (se_ix ix_3 ok_ix (se_var 3) (se_int) (fun _ _ => rfl)) (sa_nil)))))))) (ss_one (ss_if (PW.pt (sw_or (st_not (st_val (se_isi (ty := "int") (by unfold TyOk; decide) (hB _ (by decide)) (hB _ (by decide)) (by decide +kernel) (se_ix ix_3 ok_ix (se_var 3) (se_int) (fun _ _ => rfl)) rfl))) (sw_or (st_val (se_isi (ty := "bool") (by unfold TyOk; decide) (hB _ (by decide)) (hB _ (by decide)) (by decide +kernel) (se_ix ix_3 ok_ix (se_var 3) (se_int) (fun _ _ => rfl)) rfl)) (sw_or1 (st_cmp (op_ne2 hr.units) ok_ne (se_ix ix_3 ok_ix (se_var 3) (se_int) (fun _ _ => rfl)) (se_ix ix_3 ok_ix (se_var 3) (se_int) (fun _ _ => rfl))))))) (ss_one (ss_ret (se_bool))) (ss_nil)))))))))
      (ss_one (ss_ret (se_bool))))
theorem fn__law_rows (hB : BltIn mg) (c__law_alike : Cal P w K mg base T "_law_alike" 2 1 m__law_alike) {f : Addr} {fd : FuncData} (F : Fun K "_law_rows" "_law_rows" s__law_rows f fd) : FnOk P w K mg base (L2N.CX P w) 2 f fd ["_law_found", "_law_due"] (spM { K := K, T := T, mg := mg, ios := [] } 2 m__law_rows) :=
    fn_ok (C := { K := K, T := T, mg := mg, ios := [] }) (k := 1) F sc__law_rows (by decide) fun cdv A outer s H E hr =>
      ss_cons (ss_if (PW.pt (sw_or (st_not (st_val (se_isi (ty := "list") (by unfold TyOk; decide) (hB _ (by decide)) (hB _ (by decide)) (by decide +kernel) (se_var 0) rfl))) (sw_or1 (st_cmp (op_ne2 hr.units) ok_ne (se_callB call_len2 ok_len (hB _ (by decide)) (by decide +kernel) (sa_cons (se_var 0) (sa_nil))) (se_callB call_len2 ok_len (hB _ (by decide)) (by decide +kernel) (sa_cons (se_var 1) (sa_nil))))))) (ss_one (ss_ret (se_bool))) (ss_nil))
      (ss_cons (ss_for 2 (passes_of rfl) rfl sc__law_rows.nd (si_range1 (hB _ (by decide)) (sa_cons (se_callB call_len2 ok_len (hB _ (by decide)) (by decide +kernel) (sa_cons (se_var 1) (sa_nil))) (sa_nil))) (ss_one (ss_if (st_not (st_val (se_callC c__law_alike hr (L2N.takes_of rfl rfl rfl rfl) (sa_cons (se_ix ix_3 ok_ix (se_var 0) (se_var 2) (fun _ _ => rfl)) (sa_cons (se_ix ix_3 ok_ix (se_var 1) (se_var 2) (fun _ _ => rfl)) (sa_nil))) (.cons (.cons (.nil)))))) (ss_one (ss_ret (se_bool))) (ss_nil))))
      (ss_one (ss_ret (se_bool))))
theorem fn__law_spoiled (hB : BltIn mg) {f : Addr} {fd : FuncData} (F : Fun K "_law_spoiled" "_law_spoiled" s__law_spoiled f fd) : FnOk P w K mg base (L2N.CX P w) 1 f fd ["_law_telling", "_law_cell"] (spM { K := K, T := T, mg := mg, ios := [] } 2 m__law_spoiled) :=
    fn_ok (C := { K := K, T := T, mg := mg, ios := [] }) (k := 0) F sc__law_spoiled (by decide) fun cdv A outer s H E hr =>
      ss_cons (ss_set 2 sc__law_spoiled.nd (se_ix ix_3 ok_ix (se_var 0) (se_int) (fun _ _ => rfl)))
      (ss_cons (ss_set 3 sc__law_spoiled.nd (se_ix ix_3 ok_ix (se_var 0) (se_int) (fun _ _ => rfl)))
      (ss_cons (ss_set 4 sc__law_spoiled.nd (se_ix ix_3 ok_ix (se_var 0) (se_int) (fun _ _ => rfl)))
      (ss_cons (ss_share 4 (ss_share 2 (ss_set 5 sc__law_spoiled.nd (se_lst (sa_cons (se_tup (sa_cons (se_str) (sa_cons (se_var 2) (sa_cons (se_int) (sa_cons (se_var 4) (sa_nil)))))) (sa_cons (se_tup (sa_cons (se_str) (sa_cons (se_var 2) (sa_cons (se_bin op_add3 ok_add (se_int) (se_bin op_mod ok_mod (se_bin op_fdiv ok_div (se_var 1) (se_int)) (se_int))) (sa_cons (se_var 4) (sa_nil)))))) (sa_cons (se_tup (sa_cons (se_str) (sa_cons (se_var 2) (sa_cons (se_un un_neg ok_neg (se_var 3)) (sa_cons (se_var 4) (sa_nil)))))) (sa_nil))))))))
      (ss_cons (ss_share 3 (ss_share 4 (ss_share 2 (ss_set 5 sc__law_spoiled.nd (se_bin op_add3 ok_add (se_var 5) (se_lst (sa_cons (se_tup (sa_cons (se_str) (sa_cons (se_var 2) (sa_cons (se_bool) (sa_cons (se_var 4) (sa_nil)))))) (sa_cons (se_tup (sa_cons (se_str) (sa_cons (se_var 2) (sa_cons (se_callTy call_str_int ok_str1 (hB _ (by decide)) (by decide +kernel) (sa_cons (se_var 3) (sa_nil))) (sa_cons (se_var 4) (sa_nil)))))) (sa_cons (se_tup (sa_cons (se_str) (sa_cons (se_var 2) (sa_cons (se_var 3) (sa_cons (se_var 4) (sa_nil)))))) (sa_nil))))))))))
      (ss_cons (ss_share 2 (ss_share 4 (ss_share 3 (ss_set 5 sc__law_spoiled.nd (se_bin op_add3 ok_add (se_var 5) (se_lst (sa_cons (se_tup (sa_cons (se_str) (sa_cons (se_str) (sa_cons (se_var 3) (sa_cons (se_var 4) (sa_nil)))))) (sa_cons (se_tup (sa_cons (se_str) (sa_cons (se_var 2) (sa_cons (se_var 3) (sa_cons (se_str) (sa_nil)))))) (sa_cons (se_tup (sa_cons (se_str) (sa_cons (se_var 2) (sa_cons (se_var 3) (sa_cons (se_bin op_add3 ok_add (se_var 4) (se_str)) (sa_nil)))))) (sa_nil))))))))))
      (ss_cons (ss_share 4 (ss_share 3 (ss_share 2 (ss_set 5 sc__law_spoiled.nd (se_bin op_add3 ok_add (se_var 5) (se_lst (sa_cons (se_tup (sa_cons (se_str) (sa_cons (se_var 2) (sa_cons (se_var 3) (sa_nil))))) (sa_cons (se_tup (sa_cons (se_str) (sa_cons (se_none) (sa_cons (se_var 3) (sa_cons (se_var 4) (sa_nil)))))) (sa_cons (se_lst (sa_cons (se_str) (sa_cons (se_var 2) (sa_cons (se_var 3) (sa_cons (se_var 4) (sa_nil)))))) (sa_nil))))))))))
      (ss_cons (ss_share 3 (ss_share 4 (ss_share 2 (ss_set 5 sc__law_spoiled.nd (se_bin op_add3 ok_add (se_var 5) (se_lst (sa_cons (se_tup (sa_cons (se_str) (sa_cons (se_var 2) (sa_cons (se_lst (sa_cons (se_var 3) (sa_nil))) (sa_cons (se_var 4) (sa_nil)))))) (sa_cons (se_tup (sa_cons (se_str) (sa_cons (se_lst (sa_cons (se_var 2) (sa_nil))) (sa_cons (se_var 3) (sa_cons (se_var 4) (sa_nil)))))) (sa_cons (se_tup (sa_cons (se_str) (sa_cons (se_var 2) (sa_cons (se_var 3) (sa_cons (se_lst (sa_cons (se_var 4) (sa_nil))) (sa_nil)))))) (sa_nil))))))))))
      (ss_cons (ss_share 3 (ss_share 4 (ss_share 2 (ss_set 5 sc__law_spoiled.nd (se_bin op_add3 ok_add (se_var 5) (se_lst (sa_cons (se_tup (sa_cons (se_str) (sa_cons (se_var 2) (sa_cons (se_none) (sa_cons (se_var 4) (sa_nil)))))) (sa_cons (se_tup (sa_cons (se_str) (sa_cons (se_var 2) (sa_cons (se_var 3) (sa_cons (se_none) (sa_nil)))))) (sa_cons (se_tup (sa_cons (se_lst (sa_nil)) (sa_cons (se_var 2) (sa_cons (se_var 3) (sa_cons (se_var 4) (sa_nil)))))) (sa_nil))))))))))
      (ss_one (ss_ret (se_ix ix_3 ok_ix (se_var 5) (se_bin op_mod ok_mod (se_var 1) (se_int)) (fun _ _ => rfl))))))))))))
theorem fn__law_refused_by_any (hB : BltIn mg) (X_ReadError : Clause K mg "ReadError" errN sub_ReadError) (al__law_alone : CalA P w K mg base "_law_alone" 1 errN) (c_added : Cal P w K mg base T "added" 2 4 m_added) {f : Addr} {fd : FuncData} (F : Fun K "_law_refused_by_any" "_law_refused_by_any" s__law_refused_by_any f fd) : FnOk P w K mg base (L2N.CX P w) 5 f fd ["_law_table", "_law_telling"] (spM { K := K, T := T, mg := mg, ios := [] } 2 m__law_refused_by_any) :=
    fn_ok (C := { K := K, T := T, mg := mg, ios := [] }) (k := 4) F sc__law_refused_by_any (by decide) fun cdv A outer s H E hr =>
      ss_cons (ss_tryAlone errN sub_ReadError X_ReadError al__law_alone hr (L2N.takes_of rfl rfl rfl rfl) sc__law_refused_by_any.nd (fun W pn xe tk hp => ss_one (ss_expr (se_callC c_added hr tk (sa_cons (se_var 0) (sa_cons (se_var 1) (sa_nil))) (.cons (.cons (.nil)))))))
      (ss_one (ss_ret (se_bool)))
theorem fn_law (hB : BltIn mg) (X_NoTelling : Clause K mg "NoTelling" errN sub_NoTelling) (X_Clash : Clause K mg "Clash" errN sub_Clash) (c__law_words_by : Cal P w K mg base T "_law_words_by" 1 3 m__law_words_by) (c__law_cell_at : Cal P w K mg base T "_law_cell_at" 2 2 m__law_cell_at) (c__law_table_by : Cal P w K mg base T "_law_table_by" 2 3 m__law_table_by) (c__law_cells : Cal P w K mg base T "_law_cells" 3 2 m__law_cells) (c__law_wide_by : Cal P w K mg base T "_law_wide_by" 3 3 m__law_wide_by) (c__law_telling_by : Cal P w K mg base T "_law_telling_by" 2 1 m__law_telling_by) (c__law_spoiled : Cal P w K mg base T "_law_spoiled" 2 1 m__law_spoiled) (c_added : Cal P w K mg base T "added" 2 4 m_added) (c__law_clash : Cal P w K mg base T "_law_clash" 2 2 m__law_clash) (c__law_rows : Cal P w K mg base T "_law_rows" 2 2 m__law_rows) (c__law_refused_by_any : Cal P w K mg base T "_law_refused_by_any" 2 5 m__law_refused_by_any) (h__law_refused_by_any : CalH P w K mg base T "_law_refused_by_any" 2 5 m__law_refused_by_any) (h__law_rows : CalH P w K mg base T "_law_rows" 2 2 m__law_rows) {f : Addr} {fd : FuncData} (F : Fun K "law" "law" s_law f fd) : FnOk P w K mg base (L2N.CX P w) 6 f fd ["_law_script"] (spM { K := K, T := T, mg := mg, ios := [] } 1 m_law) :=
    fn_ok (C := { K := K, T := T, mg := mg, ios := [] }) (k := 5) F sc_law (by decide) fun cdv A outer s H E hr =>
      ss_cons (ss_set 1 sc_law.nd (se_callC c__law_words_by hr (L2N.takes_of rfl rfl rfl rfl) (sa_cons (se_callC c__law_cell_at hr (L2N.takes_of rfl rfl rfl rfl) (sa_cons (se_var 0) (sa_cons (se_int) (sa_nil))) (.cons (.cons (.nil)))) (sa_nil)) (.cons (.nil))))
      (ss_cons (ss_share 1 (ss_set 2 sc_law.nd (se_callC c__law_table_by hr (L2N.takes_of rfl rfl rfl rfl) (sa_cons (se_callC c__law_cells hr (L2N.takes_of rfl rfl rfl rfl) (sa_cons (se_var 0) (sa_cons (se_int) (sa_cons (se_int) (sa_nil)))) (.cons (.cons (.cons (.nil))))) (sa_cons (se_var 1) (sa_nil))) (.cons (.cons (.nil))))))
      (ss_cons (ss_if (st_cmp (op_eq2 hr.units) ok_eq (se_bin op_mod ok_mod (se_bin op_fdiv ok_div (se_callC c__law_cell_at hr (L2N.takes_of rfl rfl rfl rfl) (sa_cons (se_var 0) (sa_cons (se_int) (sa_nil))) (.cons (.cons (.nil)))) (se_int)) (se_int)) (se_int)) (ss_one (ss_share 1 (ss_share 2 (ss_set 2 sc_law.nd (se_callC c__law_wide_by hr (L2N.takes_of rfl rfl rfl rfl) (sa_cons (se_var 2) (sa_cons (se_bin op_fdiv ok_div (se_callC c__law_cell_at hr (L2N.takes_of rfl rfl rfl rfl) (sa_cons (se_var 0) (sa_cons (se_int) (sa_nil))) (.cons (.cons (.nil)))) (se_int)) (sa_cons (se_var 1) (sa_nil)))) (.cons (.cons (.cons (.nil))))))))) (ss_nil))
      (ss_cons (ss_share 1 (ss_set 3 sc_law.nd (se_callC c__law_telling_by hr (L2N.takes_of rfl rfl rfl rfl) (sa_cons (se_callC c__law_cell_at hr (L2N.takes_of rfl rfl rfl rfl) (sa_cons (se_var 0) (sa_cons (se_int) (sa_nil))) (.cons (.cons (.nil)))) (sa_cons (se_var 1) (sa_nil))) (.cons (.cons (.nil))))))
      (ss_cons (ss_set 4 sc_law.nd (se_callTy call_list_of ok_listOf (hB _ (by decide)) (by decide +kernel) (sa_cons (se_var 2) (sa_nil))))
      (ss_cons (ss_if (st_cmp (op_eq2 hr.units) ok_eq (se_bin op_mod ok_mod (se_callC c__law_cell_at hr (L2N.takes_of rfl rfl rfl rfl) (sa_cons (se_var 0) (sa_cons (se_int) (sa_nil))) (.cons (.cons (.nil)))) (se_int)) (se_int)) (ss_cons (ss_share 3 (ss_set 5 sc_law.nd (se_callC c__law_spoiled hr (L2N.takes_of rfl rfl rfl rfl) (sa_cons (se_var 3) (sa_cons (se_bin op_fdiv ok_div (se_callC c__law_cell_at hr (L2N.takes_of rfl rfl rfl rfl) (sa_cons (se_var 0) (sa_cons (se_int) (sa_nil))) (.cons (.cons (.nil)))) (se_int)) (sa_nil))) (.cons (.cons (.nil))))))
      (ss_cons (ss_tryV errN sub_NoTelling X_NoTelling (L2N.takes_of rfl rfl rfl rfl) (fun W pn xe tk hp => ss_one (ss_share 5 (ss_expr (se_callC c_added hr tk (sa_cons (se_var 4) (sa_cons (se_var 5) (sa_nil))) (.cons (.cons (.nil))))))) (fun a oe cls d pn zc hv => ss_one (ss_share 2 (ss_share 5 (ss_ret (se_and (se_callH h__law_refused_by_any (hot_suite zc hv) (roomH_suite hr) takes0 (sa_cons (se_var 4) (sa_cons (se_var 5) (sa_nil))) (.cons (.cons (.nil)))) (se_one (se_callH h__law_rows (hot_suite zc hv) (roomH_suite hr) takes0 (sa_cons (se_var 4) (sa_cons (se_var 2) (sa_nil))) (.cons (.cons (.nil)))))))))))
      (ss_one (ss_ret (se_bool))))) (ss_nil))
      (ss_cons (ss_share 3 (ss_share 2 (ss_set 6 sc_law.nd (se_callC c__law_clash hr (L2N.takes_of rfl rfl rfl rfl) (sa_cons (se_var 2) (sa_cons (se_var 3) (sa_nil))) (.cons (.cons (.nil)))))))
      (ss_cons (ss_set 7 sc_law.nd (se_bool))
      (ss_cons (ss_set 8 sc_law.nd (se_none))
      (ss_cons (ss_tryV errN sub_Clash X_Clash (L2N.takes_of rfl rfl rfl rfl) (fun W pn xe tk hp => ss_one (ss_share 3 (ss_set 8 sc_law.nd (se_callC c_added hr tk (sa_cons (se_var 4) (sa_cons (se_var 3) (sa_nil))) (.cons (.cons (.nil))))))) (fun a oe cls d pn zc hv => ss_one (ss_set 7 sc_law.nd (se_bool))))
      (ss_cons (ss_share 2 (ss_if (PW.pt (sw_or (st_not (st_val (se_callC c__law_rows hr (L2N.takes_of rfl rfl rfl rfl) (sa_cons (se_var 4) (sa_cons (se_var 2) (sa_nil))) (.cons (.cons (.nil)))))) (sw_or1 (st_cmp (op_ne2 hr.units) ok_ne (se_var 7) (se_var 6))))) (ss_one (ss_ret (se_bool))) (ss_nil)))
      (ss_cons (ss_if (st_val (se_var 6)) (ss_one (ss_share 3 (ss_ret (se_callC c__law_refused_by_any hr (L2N.takes_of rfl rfl rfl rfl) (sa_cons (se_var 4) (sa_cons (se_var 3) (sa_nil))) (.cons (.cons (.nil))))))) (ss_nil))
      (ss_cons (ss_share 3 (ss_if (st_not (st_val (se_callC c__law_rows hr (L2N.takes_of rfl rfl rfl rfl) (sa_cons (se_var 8) (sa_cons (se_bin op_add3 ok_add (se_var 2) (se_lst (sa_cons (se_var 3) (sa_nil)))) (sa_nil))) (.cons (.cons (.nil)))))) (ss_one (ss_ret (se_bool))) (ss_nil)))
      (ss_cons (ss_app 4 (sx_lift (W := W0) (se_tup (sa_cons (se_str) (sa_cons (se_str) (sa_cons (se_int) (sa_cons (se_str) (sa_nil))))))))
      (ss_cons (ss_share 3 (ss_if (st_not (st_val (se_callC c__law_rows hr (L2N.takes_of rfl rfl rfl rfl) (sa_cons (se_var 8) (sa_cons (se_bin op_add3 ok_add (se_var 2) (se_lst (sa_cons (se_var 3) (sa_nil)))) (sa_nil))) (.cons (.cons (.nil)))))) (ss_one (ss_ret (se_bool))) (ss_nil)))
      (ss_cons (ss_exprX (sx_pop 4))
      (ss_cons (ss_app 8 (sx_lift (W := W0) (se_var 3)))
      (ss_one (ss_share 3 (ss_share 2 (ss_ret (se_and (se_callC c__law_rows hr (L2N.takes_of rfl rfl rfl rfl) (sa_cons (se_var 4) (sa_cons (se_var 2) (sa_nil))) (.cons (.cons (.nil)))) (se_one (se_callC c__law_rows hr (L2N.takes_of rfl rfl rfl rfl) (sa_cons (se_callC c_added hr (L2N.takes_of rfl rfl rfl rfl) (sa_cons (se_var 4) (sa_cons (se_var 3) (sa_nil))) (.cons (.cons (.nil)))) (sa_cons (se_bin op_add3 ok_add (se_var 2) (se_lst (sa_cons (se_var 3) (sa_nil)))) (sa_nil))) (.cons (.cons (.nil))))))))))))))))))))))))))
theorem fnH_is_word (hB : BltIn mg) (g_LONGEST : ∃ t, mg "LONGEST" = some (.int 8 t)) {f : Addr} {fd : FuncData} (F : Fun K "is_word" "is_word" s_is_word f fd) {c Pt : Addr} (hP : Pt ∈ T) (TB : GxR.TabB base mg c Pt) (hcd : fd.code = .ref c) (e_is_inner : EltF P w K mg base "is_inner" "sign" (inB "();")) : L2H.FnH P w K mg base (L2.CX P w) 2 f fd ["thing"] (spM { K := K, T := T, mg := mg, ios := [] } 1 m_is_word) :=
    fn_okTH (C := { K := K, T := T, mg := mg, ios := [] }) (k := 1) F sc_is_word (by decide) fun cdv A outer s H E p hcv hc hr =>
      ss_cons (ss_if (PW.pt (sw_or (st_not (st_val (se_isi (ty := "str") (by unfold TyOk; decide) (hB _ (by decide)) (hB _ (by decide)) (by decide +kernel) (se_var 0) rfl))) (sw_or1 (st_cmp (op_eq2 (unitsH hr)) ok_eq (se_var 0) (se_str))))) (ss_one (ss_ret (se_bool))) (ss_nil))
      (ss_one (ss_ret (se_and (se_chain op_le2 op_le2 ok_le ok_le (se_int) (se_callB call_len2 ok_len (hB _ (by decide)) (by decide +kernel) (sa_cons (se_var 0) (sa_nil))) (se_globI g_LONGEST)) (se_one (se_allFH e_is_inner hc hr hP TB (hcv.trans hcd) (hB _ (by decide)) (se_var 0))))))
theorem fnH_is_strength (hB : BltIn mg) (g_STRONGEST : ∃ t, mg "STRONGEST" = some (.int 30 t)) {f : Addr} {fd : FuncData} (F : Fun K "is_strength" "is_strength" s_is_strength f fd) : L2H.FnH P w K mg base (L2.CX P w) 1 f fd ["thing"] (spM { K := K, T := T, mg := mg, ios := [] } 1 m_is_strength) :=
    fn_okH (C := { K := K, T := T, mg := mg, ios := [] }) (k := 0) F sc_is_strength (by decide) fun cdv A outer s H E p hc hr =>
      ss_cons (ss_if (PW.pt (sw_or (st_not (st_val (se_isi (ty := "int") (by unfold TyOk; decide) (hB _ (by decide)) (hB _ (by decide)) (by decide +kernel) (se_var 0) rfl))) (sw_or1 (st_val (se_isi (ty := "bool") (by unfold TyOk; decide) (hB _ (by decide)) (hB _ (by decide)) (by decide +kernel) (se_var 0) rfl))))) (ss_one (ss_ret (se_bool))) (ss_nil))
      (ss_one (ss_ret (se_chain op_le2 op_le2 ok_le ok_le (se_int) (se_var 0) (se_globI g_STRONGEST))))
theorem fnH_is_telling (hB : BltIn mg) (g_KINDS : GlobD K mg "KINDS" (.tuple [(.str "left"), (.str "right"), (.str "none"), (.str "before"), (.str "behind")])) (h_is_strength : CalH P w K mg base T "is_strength" 1 1 m_is_strength) (h_is_word : CalH P w K mg base T "is_word" 1 2 m_is_word) {f : Addr} {fd : FuncData} (F : Fun K "is_telling" "is_telling" s_is_telling f fd) : L2H.FnH P w K mg base (L2.CX P w) 3 f fd ["thing"] (spM { K := K, T := T, mg := mg, ios := [] } 1 m_is_telling) :=
    fn_okH (C := { K := K, T := T, mg := mg, ios := [] }) (k := 2) F sc_is_telling (by decide) fun cdv A outer s H E p hc hr =>
      ss_cons (ss_if (PW.pt (sw_or (st_not (st_val (se_isi (ty := "tuple") (by unfold TyOk; decide) (hB _ (by decide)) (hB _ (by decide)) (by decide +kernel) (se_var 0) rfl))) (sw_or1 (st_cmp (op_ne2 (unitsH hr)) ok_ne (se_callB call_len2 ok_len (hB _ (by decide)) (by decide +kernel) (sa_cons (se_var 0) (sa_nil))) (se_int))))) (ss_one (ss_ret (se_bool))) (ss_nil))
      (ss_cons (ss_unpH [1, 2, 3, 4] hc sc_is_telling.nd (se_var 0) rfl (.cons rfl (.inl rfl) (.inl rfl) (.cons rfl (.inl rfl) (.inl rfl) (.cons rfl (.inl rfl) (.inl rfl) (.cons rfl (.inl rfl) (.inl rfl) (.nil))))))
      (ss_one (ss_ret (se_and (se_cmp (op_eq2 (unitsH hr)) ok_eq (se_var 1) (se_str)) (se_and (se_inG (room200H hr) g_KINDS (se_var 2)) (se_and (se_callH h_is_strength hc hr (takes_of rfl rfl rfl rfl) (sa_cons (se_var 3) (sa_nil)) (.cons (.nil))) (se_one (se_callH h_is_word hc hr (takes_of rfl rfl rfl rfl) (sa_cons (se_var 4) (sa_nil)) (.cons (.nil))))))))))
theorem fnH_has_other_kind (hB : BltIn mg) (g_STRENGTH : ∃ t, mg "STRENGTH" = some (.int 2 t)) (g_KIND : ∃ t, mg "KIND" = some (.int 1 t)) {f : Addr} {fd : FuncData} (F : Fun K "has_other_kind" "has_other_kind" s_has_other_kind f fd) : L2H.FnH P w K mg base (L2.CX P w) 1 f fd ["table", "telling"] (spM { K := K, T := T, mg := mg, ios := [] } 2 m_has_other_kind) :=
    fn_okH (C := { K := K, T := T, mg := mg, ios := [] }) (k := 0) F sc_has_other_kind (by decide) fun cdv A outer s H E p hc hr =>
      ss_cons (ss_forH 2 (passes_of rfl) hc sc_has_other_kind.nd (si_listH (se_var 0)) (ss_one (ss_if (PW.pt (sw_and (st_cmp (op_eq2 (unitsH hr)) ok_eq (se_ix ix_3 ok_ix (se_var 2) (se_globI g_STRENGTH) (fun _ _ => rfl)) (se_ix ix_3 ok_ix (se_var 1) (se_globI g_STRENGTH) (fun _ _ => rfl))) (sw_and1 (st_cmp (op_ne2 (unitsH hr)) ok_ne (se_ix ix_3 ok_ix (se_var 2) (se_globI g_KIND) (fun _ _ => rfl)) (se_ix ix_3 ok_ix (se_var 1) (se_globI g_KIND) (fun _ _ => rfl)))))) (ss_one (ss_ret (se_bool))) (ss_nil))))
      (ss_one (ss_ret (se_bool)))
theorem fnH_is_ahead (hB : BltIn mg) (g_KIND : ∃ t, mg "KIND" = some (.int 1 t)) {f : Addr} {fd : FuncData} (F : Fun K "is_ahead" "is_ahead" s_is_ahead f fd) : L2H.FnH P w K mg base (L2.CX P w) 1 f fd ["telling"] (spM { K := K, T := T, mg := mg, ios := [] } 1 m_is_ahead) :=
    fn_okH (C := { K := K, T := T, mg := mg, ios := [] }) (k := 0) F sc_is_ahead (by decide) fun cdv A outer s H E p hc hr =>
      ss_one (ss_ret (se_cmp (op_eq2 (unitsH hr)) ok_eq (se_ix ix_3 ok_ix (se_var 0) (se_globI g_KIND) (fun _ _ => rfl)) (se_str)))
theorem fnH_role (hB : BltIn mg) (g_WORD : ∃ t, mg "WORD" = some (.int 3 t)) (h_is_ahead : CalH P w K mg base T "is_ahead" 1 1 m_is_ahead) {f : Addr} {fd : FuncData} (F : Fun K "role" "role" s_role f fd) : L2H.FnH P w K mg base (L2.CX P w) 2 f fd ["table", "word", "ahead"] (spM { K := K, T := T, mg := mg, ios := [] } 3 m_role) :=
    fn_okH (C := { K := K, T := T, mg := mg, ios := [] }) (k := 1) F sc_role (by decide) fun cdv A outer s H E p hc hr =>
      ss_cons (ss_forH 3 (passes_of rfl) hc sc_role.nd (si_listH (se_var 0)) (ss_one (ss_if (PW.pt (sw_and (st_cmp (op_eq2 (unitsH hr)) ok_eq (se_ix ix_3 ok_ix (se_var 3) (se_globI g_WORD) (fun _ _ => rfl)) (se_var 1)) (sw_and1 (st_cmp (op_eq2 (unitsH hr)) ok_eq (se_callH h_is_ahead hc hr (takes_of rfl rfl rfl rfl) (sa_cons (se_var 3) (sa_nil)) (.cons (.nil))) (se_var 2))))) (ss_one (ss_retOwn 3)) (ss_nil))))
      (ss_one (ss_ret (se_none)))
theorem fnH_added (hB : BltIn mg) (g_STRENGTH : ∃ t, mg "STRENGTH" = some (.int 2 t)) (g_WORD : ∃ t, mg "WORD" = some (.int 3 t)) (E_NoTelling : Err K mg "NoTelling") (E_Clash : Err K mg "Clash") (h_is_telling : CalH P w K mg base T "is_telling" 1 3 m_is_telling) (h_has_other_kind : CalH P w K mg base T "has_other_kind" 2 1 m_has_other_kind) (h_role : CalH P w K mg base T "role" 3 2 m_role) (h_is_ahead : CalH P w K mg base T "is_ahead" 1 1 m_is_ahead) {f : Addr} {fd : FuncData} (F : Fun K "added" "added" s_added f fd) : L2H.FnH P w K mg base (L2.CX P w) 4 f fd ["table", "telling"] (spM { K := K, T := T, mg := mg, ios := [] } 2 m_added) :=
    fn_okH (C := { K := K, T := T, mg := mg, ios := [] }) (k := 3) F sc_added (by decide) fun cdv A outer s H E p hc hr =>
      ss_cons (ss_if (st_not (st_val (se_callH h_is_telling hc hr (takes_of rfl rfl rfl rfl) (sa_cons (se_var 1) (sa_nil)) (.cons (.nil))))) (ss_one (ss_raiseVH E_NoTelling hc (takes_of rfl rfl rfl rfl))) (ss_nil))
      (ss_cons (ss_if (st_val (se_callH h_has_other_kind hc hr (takes_of rfl rfl rfl rfl) (sa_cons (se_var 0) (sa_cons (se_var 1) (sa_nil))) (.cons (.cons (.nil))))) (ss_one (ss_raiseVAH E_Clash hc (takes_of rfl rfl rfl rfl) (se_joined (.cons (se_str) (.cons (se_fmt (se_ix ix_3 ok_ix (se_var 1) (se_globI g_STRENGTH) (fun _ _ => rfl))) (.cons (se_str) (.nil))))))) (ss_nil))
      (ss_cons (ss_if (st_cmp op_notN ok_notN (se_callH h_role hc hr (takes_of rfl rfl rfl rfl) (sa_cons (se_var 0) (sa_cons (se_ix ix_3 ok_ix (se_var 1) (se_globI g_WORD) (fun _ _ => rfl)) (sa_cons (se_callH h_is_ahead hc hr (takes_of rfl rfl rfl rfl) (sa_cons (se_var 1) (sa_nil)) (.cons (.nil))) (sa_nil)))) (.cons (.cons (.cons (.nil))))) (se_none)) (ss_one (ss_raiseVAH E_Clash hc (takes_of rfl rfl rfl rfl) (se_joined (.cons (se_str) (.cons (se_fmt (se_ix ix_3 ok_ix (se_var 1) (se_globI g_WORD) (fun _ _ => rfl))) (.cons (se_str) (.nil))))))) (ss_nil))
      (ss_one (ss_ret (se_bin op_add3 ok_add (se_var 0) (se_lst (sa_cons (se_var 1) (sa_nil))))))))
theorem fnH__law_alike (hB : BltIn mg) {f : Addr} {fd : FuncData} (F : Fun K "_law_alike" "_law_alike" s__law_alike f fd) : L2H.FnH P w K mg base (L2.CX P w) 1 f fd ["_law_found", "_law_due"] (spM { K := K, T := T, mg := mg, ios := [] } 2 m__law_alike) :=
    fn_okH (C := { K := K, T := T, mg := mg, ios := [] }) (k := 0) F sc__law_alike (by decide) fun cdv A outer s H E p hc hr =>
      ss_cons (ss_set 2 sc__law_alike.nd (se_lst (sa_cons (se_tup (sa_cons (se_var 0) (sa_cons (se_var 1) (sa_nil)))) (sa_nil))))
      (ss_cons (ss_while 100000 (passes_of rfl) (st_cmp (op_ne2 (unitsH hr)) ok_ne (se_var 2) (se_lst (sa_nil))) (ss_cons (ss_setX 3 sc__law_alike.nd (sx_pop 2))
      (ss_one (ss_if (st_val (se_isi (ty := "str") (by unfold TyOk; decide) (hB _ (by decide)) (hB _ (by decide)) (by decide +kernel) (se_ix ix_3 ok_ix (se_var 3) (se_int) (fun _ _ => rfl)) rfl)) (ss_one (ss_if (PW.pt (sw_or (st_not (st_val (se_isi (ty := "str") (by unfold TyOk; decide) (hB _ (by decide)) (hB _ (by decide)) (by decide +kernel) (se_ix ix_3 ok_ix (se_var 3) (se_int) (fun _ _ => rfl)) rfl))) (sw_or1 (st_cmp (op_ne2 (unitsH hr)) ok_ne (se_ix ix_3 ok_ix (se_var 3) (se_int) (fun _ _ => rfl)) (se_ix ix_3 ok_ix (se_var 3) (se_int) (fun _ _ => rfl)))))) (ss_one (ss_ret (se_bool))) (ss_nil))) (ss_one (ss_if (st_val (se_isi (ty := "tuple") (by unfold TyOk; decide) (hB _ (by decide)) (hB _ (by decide)) (by decide +kernel) (se_ix ix_3 ok_ix (se_var 3) (se_int) (fun _ _ => rfl)) rfl)) (ss_cons (ss_if (PW.pt (sw_or (st_not (st_val (se_isi (ty := "tuple") (by unfold TyOk; decide) (hB _ (by decide)) (hB _ (by decide)) (by decide +kernel) (se_ix ix_3 ok_ix (se_var 3) (se_int) (fun _ _ => rfl)) rfl))) (sw_or1 (st_cmp (op_ne2 (unitsH hr)) ok_ne (se_callB call_len2 ok_len (hB _ (by decide)) (by decide +kernel) (sa_cons (se_ix ix_3 ok_ix (se_var 3) (se_int) (fun _ _ => rfl)) (sa_nil))) (se_callB call_len2 ok_len (hB _ (by decide)) (by decide +kernel) (sa_cons (se_ix ix_3 ok_ix (se_var 3) (se_int) (fun _ _ => rfl)) (sa_nil))))))) (ss_one (ss_ret (se_bool))) (ss_nil))
      (ss_one (ss_set 2 sc__law_alike.nd (se_bin op_add3 ok_add (se_var 2) (se_listZipH hc (hB _ (by decide)) (hB _ (by decide)) (sa_cons (se_ix ix_3 ok_ix (se_var 3) (se_int) (fun _ _ => rfl)) (sa_cons (se_ix ix_3 ok_ix (se_var 3) (se_int) (fun _ _ => rfl)) (sa_nil)))))))) (ss_one (ss_if (PW.pt (sw_or (st_not (st_val (se_isi (ty := "int") (by unfold TyOk; decide) (hB _ (by decide)) (hB _ (by decide)) (by decide +kernel) (se_ix ix_3 ok_ix (se_var 3) (se_int) (fun _ _ => rfl)) rfl))) (sw_or (st_val (se_isi (ty := "bool") (by unfold TyOk; decide) (hB _ (by decide)) (hB _ (by decide)) (by decide +kernel) (se_ix ix_3 ok_ix (se_var 3) (se_int) (fun _ _ => rfl)) rfl)) (sw_or1 (st_cmp (op_ne2 (unitsH hr)) ok_ne (se_ix ix_3 ok_ix (se_var 3) (se_int) (fun _ _ => rfl)) (se_ix ix_3 ok_ix (se_var 3) (se_int) (fun _ _ => rfl))))))) (ss_one (ss_ret (se_bool))) (ss_nil)))))))))
      (ss_one (ss_ret (se_bool))))
theorem fnH__law_rows (hB : BltIn mg) (h__law_alike : CalH P w K mg base T "_law_alike" 2 1 m__law_alike) {f : Addr} {fd : FuncData} (F : Fun K "_law_rows" "_law_rows" s__law_rows f fd) : L2H.FnH P w K mg base (L2.CX P w) 2 f fd ["_law_found", "_law_due"] (spM { K := K, T := T, mg := mg, ios := [] } 2 m__law_rows) :=
    fn_okH (C := { K := K, T := T, mg := mg, ios := [] }) (k := 1) F sc__law_rows (by decide) fun cdv A outer s H E p hc hr =>
      ss_cons (ss_if (PW.pt (sw_or (st_not (st_val (se_isi (ty := "list") (by unfold TyOk; decide) (hB _ (by decide)) (hB _ (by decide)) (by decide +kernel) (se_var 0) rfl))) (sw_or1 (st_cmp (op_ne2 (unitsH hr)) ok_ne (se_callB call_len2 ok_len (hB _ (by decide)) (by decide +kernel) (sa_cons (se_var 0) (sa_nil))) (se_callB call_len2 ok_len (hB _ (by decide)) (by decide +kernel) (sa_cons (se_var 1) (sa_nil))))))) (ss_one (ss_ret (se_bool))) (ss_nil))
      (ss_cons (ss_forH 2 (passes_of rfl) hc sc__law_rows.nd (si_range1H (hB _ (by decide)) (sa_cons (se_callB call_len2 ok_len (hB _ (by decide)) (by decide +kernel) (sa_cons (se_var 1) (sa_nil))) (sa_nil))) (ss_one (ss_if (st_not (st_val (se_callH h__law_alike hc hr (takes_of rfl rfl rfl rfl) (sa_cons (se_ix ix_3 ok_ix (se_var 0) (se_var 2) (fun _ _ => rfl)) (sa_cons (se_ix ix_3 ok_ix (se_var 1) (se_var 2) (fun _ _ => rfl)) (sa_nil))) (.cons (.cons (.nil)))))) (ss_one (ss_ret (se_bool))) (ss_nil))))
      (ss_one (ss_ret (se_bool))))
theorem fnH__law_refused_by_any (hB : BltIn mg) (X_ReadError : Clause K mg "ReadError" errN sub_ReadError) (al__law_alone : CalA P w K mg base "_law_alone" 1 errN) (h_added : CalH P w K mg base T "added" 2 4 m_added) {f : Addr} {fd : FuncData} (F : Fun K "_law_refused_by_any" "_law_refused_by_any" s__law_refused_by_any f fd) : L2H.FnH P w K mg base (L2.CX P w) 5 f fd ["_law_table", "_law_telling"] (spM { K := K, T := T, mg := mg, ios := [] } 2 m__law_refused_by_any) :=
    fn_okH (C := { K := K, T := T, mg := mg, ios := [] }) (k := 4) F sc__law_refused_by_any (by decide) fun cdv A outer s H E p hc hr =>
      ss_cons (ss_tryAloneH errN sub_ReadError X_ReadError al__law_alone hc hr (takes_of rfl rfl rfl rfl) sc__law_refused_by_any.nd (fun W pn xe hc tk hp => ss_one (ss_expr (se_callH h_added hc hr tk (sa_cons (se_var 0) (sa_cons (se_var 1) (sa_nil))) (.cons (.cons (.nil)))))))
      (ss_one (ss_ret (se_bool)))
end
section
variable {l : PySem.W.OpenLaw} {w : World} {K : PySem.W.Frag} {h : Heap} {mg : Str → Option Value} {fa : Addr}
theorem all_mk (X : K.In h) (G : h.Ns mainGlobals mg) (hfa : mg "law" = some (.ref fa)) (own : ∀ nm ∈ (["is_word"] : List Str), ∀ f, mg nm = some (.ref f) → LamX.OwnTab K f h)
    {f_0 : Addr} {od_0 an_0 : Option Addr} {sl_0 : Array (Option Value)} {oc_0 kV_0 dc_0 pm_0 ct_0 : Value} {cd_0 : Value}
    (a_0 : PySem.W.nsIn K mainGlobals "is_inner" = some (some (.ref f_0)))
    (l_0 : K.lookup f_0 = some ⟨oc_0, od_0, .func (PySem.W.fnOf "is_inner" "is_inner" (defArgs s_is_inner) (defBody s_is_inner) (defScope s_is_inner) .none kV_0 dc_0 pm_0 an_0 cd_0 ct_0), sl_0⟩) (c_0 : PySem.W.codeIn K cd_0 "is_inner" = true) (k_0 : PySem.W.keepIn K (.ref f_0) = true)
    {f_1 : Addr} {od_1 an_1 : Option Addr} {sl_1 : Array (Option Value)} {oc_1 kV_1 dc_1 pm_1 ct_1 : Value} {cc_1 pt_1 : Addr}
    (a_1 : PySem.W.nsIn K mainGlobals "is_word" = some (some (.ref f_1)))
    (l_1 : K.lookup f_1 = some ⟨oc_1, od_1, .func (PySem.W.fnOf "is_word" "is_word" (defArgs s_is_word) (defBody s_is_word) (defScope s_is_word) .none kV_1 dc_1 pm_1 an_1 (.ref cc_1) ct_1), sl_1⟩) (c_1 : PySem.W.codeIn K (.ref cc_1) "is_word" = true) (k_1 : PySem.W.keepIn K (.ref f_1) = true)
    {dd_1 : Option Addr} {vs_1 : Array Value} {sk_1 : Array (Option Value)} (u_1 : K.lookup cc_1 = some ⟨.type "code", dd_1, .fields vs_1, sk_1⟩) (h_1 : vs_1[11]? = some (.ref pt_1)) (r_1 : cfOk vs_1 = true) (v_1 : (cc_1 != pt_1) = true) (n_1 : K.lookup pt_1 = none)
    {f_2 : Addr} {od_2 an_2 : Option Addr} {sl_2 : Array (Option Value)} {oc_2 kV_2 dc_2 pm_2 ct_2 : Value} {cd_2 : Value}
    (a_2 : PySem.W.nsIn K mainGlobals "is_strength" = some (some (.ref f_2)))
    (l_2 : K.lookup f_2 = some ⟨oc_2, od_2, .func (PySem.W.fnOf "is_strength" "is_strength" (defArgs s_is_strength) (defBody s_is_strength) (defScope s_is_strength) .none kV_2 dc_2 pm_2 an_2 cd_2 ct_2), sl_2⟩) (c_2 : PySem.W.codeIn K cd_2 "is_strength" = true) (k_2 : PySem.W.keepIn K (.ref f_2) = true)
    {f_3 : Addr} {od_3 an_3 : Option Addr} {sl_3 : Array (Option Value)} {oc_3 kV_3 dc_3 pm_3 ct_3 : Value} {cd_3 : Value}
    (a_3 : PySem.W.nsIn K mainGlobals "is_telling" = some (some (.ref f_3)))
    (l_3 : K.lookup f_3 = some ⟨oc_3, od_3, .func (PySem.W.fnOf "is_telling" "is_telling" (defArgs s_is_telling) (defBody s_is_telling) (defScope s_is_telling) .none kV_3 dc_3 pm_3 an_3 cd_3 ct_3), sl_3⟩) (c_3 : PySem.W.codeIn K cd_3 "is_telling" = true) (k_3 : PySem.W.keepIn K (.ref f_3) = true)
    {f_4 : Addr} {od_4 an_4 : Option Addr} {sl_4 : Array (Option Value)} {oc_4 kV_4 dc_4 pm_4 ct_4 : Value} {cd_4 : Value}
    (a_4 : PySem.W.nsIn K mainGlobals "has_other_kind" = some (some (.ref f_4)))
    (l_4 : K.lookup f_4 = some ⟨oc_4, od_4, .func (PySem.W.fnOf "has_other_kind" "has_other_kind" (defArgs s_has_other_kind) (defBody s_has_other_kind) (defScope s_has_other_kind) .none kV_4 dc_4 pm_4 an_4 cd_4 ct_4), sl_4⟩) (c_4 : PySem.W.codeIn K cd_4 "has_other_kind" = true) (k_4 : PySem.W.keepIn K (.ref f_4) = true)
    {f_5 : Addr} {od_5 an_5 : Option Addr} {sl_5 : Array (Option Value)} {oc_5 kV_5 dc_5 pm_5 ct_5 : Value} {cd_5 : Value}
    (a_5 : PySem.W.nsIn K mainGlobals "is_ahead" = some (some (.ref f_5)))
    (l_5 : K.lookup f_5 = some ⟨oc_5, od_5, .func (PySem.W.fnOf "is_ahead" "is_ahead" (defArgs s_is_ahead) (defBody s_is_ahead) (defScope s_is_ahead) .none kV_5 dc_5 pm_5 an_5 cd_5 ct_5), sl_5⟩) (c_5 : PySem.W.codeIn K cd_5 "is_ahead" = true) (k_5 : PySem.W.keepIn K (.ref f_5) = true)
    {f_6 : Addr} {od_6 an_6 : Option Addr} {sl_6 : Array (Option Value)} {oc_6 kV_6 dc_6 pm_6 ct_6 : Value} {cd_6 : Value}
    (a_6 : PySem.W.nsIn K mainGlobals "role" = some (some (.ref f_6)))
    (l_6 : K.lookup f_6 = some ⟨oc_6, od_6, .func (PySem.W.fnOf "role" "role" (defArgs s_role) (defBody s_role) (defScope s_role) .none kV_6 dc_6 pm_6 an_6 cd_6 ct_6), sl_6⟩) (c_6 : PySem.W.codeIn K cd_6 "role" = true) (k_6 : PySem.W.keepIn K (.ref f_6) = true)
    {f_7 : Addr} {od_7 an_7 : Option Addr} {sl_7 : Array (Option Value)} {oc_7 kV_7 dc_7 pm_7 ct_7 : Value} {cd_7 : Value}
    (a_7 : PySem.W.nsIn K mainGlobals "added" = some (some (.ref f_7)))
    (l_7 : K.lookup f_7 = some ⟨oc_7, od_7, .func (PySem.W.fnOf "added" "added" (defArgs s_added) (defBody s_added) (defScope s_added) .none kV_7 dc_7 pm_7 an_7 cd_7 ct_7), sl_7⟩) (c_7 : PySem.W.codeIn K cd_7 "added" = true) (k_7 : PySem.W.keepIn K (.ref f_7) = true)
    {f_8 : Addr} {od_8 an_8 : Option Addr} {sl_8 : Array (Option Value)} {oc_8 kV_8 dc_8 pm_8 ct_8 : Value} {cd_8 : Value}
    (a_8 : PySem.W.nsIn K mainGlobals "_law_mixed" = some (some (.ref f_8)))
    (l_8 : K.lookup f_8 = some ⟨oc_8, od_8, .func (PySem.W.fnOf "_law_mixed" "_law_mixed" (defArgs s__law_mixed) (defBody s__law_mixed) (defScope s__law_mixed) .none kV_8 dc_8 pm_8 an_8 cd_8 ct_8), sl_8⟩) (c_8 : PySem.W.codeIn K cd_8 "_law_mixed" = true) (k_8 : PySem.W.keepIn K (.ref f_8) = true)
    {f_9 : Addr} {od_9 an_9 : Option Addr} {sl_9 : Array (Option Value)} {oc_9 kV_9 dc_9 pm_9 ct_9 : Value} {cd_9 : Value}
    (a_9 : PySem.W.nsIn K mainGlobals "_law_cell_at" = some (some (.ref f_9)))
    (l_9 : K.lookup f_9 = some ⟨oc_9, od_9, .func (PySem.W.fnOf "_law_cell_at" "_law_cell_at" (defArgs s__law_cell_at) (defBody s__law_cell_at) (defScope s__law_cell_at) .none kV_9 dc_9 pm_9 an_9 cd_9 ct_9), sl_9⟩) (c_9 : PySem.W.codeIn K cd_9 "_law_cell_at" = true) (k_9 : PySem.W.keepIn K (.ref f_9) = true)
    {f_10 : Addr} {od_10 an_10 : Option Addr} {sl_10 : Array (Option Value)} {oc_10 kV_10 dc_10 pm_10 ct_10 : Value} {cd_10 : Value}
    (a_10 : PySem.W.nsIn K mainGlobals "_law_cells" = some (some (.ref f_10)))
    (l_10 : K.lookup f_10 = some ⟨oc_10, od_10, .func (PySem.W.fnOf "_law_cells" "_law_cells" (defArgs s__law_cells) (defBody s__law_cells) (defScope s__law_cells) .none kV_10 dc_10 pm_10 an_10 cd_10 ct_10), sl_10⟩) (c_10 : PySem.W.codeIn K cd_10 "_law_cells" = true) (k_10 : PySem.W.keepIn K (.ref f_10) = true)
    {f_11 : Addr} {od_11 an_11 : Option Addr} {sl_11 : Array (Option Value)} {oc_11 kV_11 dc_11 pm_11 ct_11 : Value} {cd_11 : Value}
    (a_11 : PySem.W.nsIn K mainGlobals "_law_sign_by" = some (some (.ref f_11)))
    (l_11 : K.lookup f_11 = some ⟨oc_11, od_11, .func (PySem.W.fnOf "_law_sign_by" "_law_sign_by" (defArgs s__law_sign_by) (defBody s__law_sign_by) (defScope s__law_sign_by) .none kV_11 dc_11 pm_11 an_11 cd_11 ct_11), sl_11⟩) (c_11 : PySem.W.codeIn K cd_11 "_law_sign_by" = true) (k_11 : PySem.W.keepIn K (.ref f_11) = true)
    {f_12 : Addr} {od_12 an_12 : Option Addr} {sl_12 : Array (Option Value)} {oc_12 kV_12 dc_12 pm_12 ct_12 : Value} {cd_12 : Value}
    (a_12 : PySem.W.nsIn K mainGlobals "_law_word_by" = some (some (.ref f_12)))
    (l_12 : K.lookup f_12 = some ⟨oc_12, od_12, .func (PySem.W.fnOf "_law_word_by" "_law_word_by" (defArgs s__law_word_by) (defBody s__law_word_by) (defScope s__law_word_by) .none kV_12 dc_12 pm_12 an_12 cd_12 ct_12), sl_12⟩) (c_12 : PySem.W.codeIn K cd_12 "_law_word_by" = true) (k_12 : PySem.W.keepIn K (.ref f_12) = true)
    {f_13 : Addr} {od_13 an_13 : Option Addr} {sl_13 : Array (Option Value)} {oc_13 kV_13 dc_13 pm_13 ct_13 : Value} {cd_13 : Value}
    (a_13 : PySem.W.nsIn K mainGlobals "_law_words_by" = some (some (.ref f_13)))
    (l_13 : K.lookup f_13 = some ⟨oc_13, od_13, .func (PySem.W.fnOf "_law_words_by" "_law_words_by" (defArgs s__law_words_by) (defBody s__law_words_by) (defScope s__law_words_by) .none kV_13 dc_13 pm_13 an_13 cd_13 ct_13), sl_13⟩) (c_13 : PySem.W.codeIn K cd_13 "_law_words_by" = true) (k_13 : PySem.W.keepIn K (.ref f_13) = true)
    {f_14 : Addr} {od_14 an_14 : Option Addr} {sl_14 : Array (Option Value)} {oc_14 kV_14 dc_14 pm_14 ct_14 : Value} {cd_14 : Value}
    (a_14 : PySem.W.nsIn K mainGlobals "_law_role" = some (some (.ref f_14)))
    (l_14 : K.lookup f_14 = some ⟨oc_14, od_14, .func (PySem.W.fnOf "_law_role" "_law_role" (defArgs s__law_role) (defBody s__law_role) (defScope s__law_role) .none kV_14 dc_14 pm_14 an_14 cd_14 ct_14), sl_14⟩) (c_14 : PySem.W.codeIn K cd_14 "_law_role" = true) (k_14 : PySem.W.keepIn K (.ref f_14) = true)
    {f_15 : Addr} {od_15 an_15 : Option Addr} {sl_15 : Array (Option Value)} {oc_15 kV_15 dc_15 pm_15 ct_15 : Value} {cd_15 : Value}
    (a_15 : PySem.W.nsIn K mainGlobals "_law_clash" = some (some (.ref f_15)))
    (l_15 : K.lookup f_15 = some ⟨oc_15, od_15, .func (PySem.W.fnOf "_law_clash" "_law_clash" (defArgs s__law_clash) (defBody s__law_clash) (defScope s__law_clash) .none kV_15 dc_15 pm_15 an_15 cd_15 ct_15), sl_15⟩) (c_15 : PySem.W.codeIn K cd_15 "_law_clash" = true) (k_15 : PySem.W.keepIn K (.ref f_15) = true)
    {f_16 : Addr} {od_16 an_16 : Option Addr} {sl_16 : Array (Option Value)} {oc_16 kV_16 dc_16 pm_16 ct_16 : Value} {cd_16 : Value}
    (a_16 : PySem.W.nsIn K mainGlobals "_law_telling_by" = some (some (.ref f_16)))
    (l_16 : K.lookup f_16 = some ⟨oc_16, od_16, .func (PySem.W.fnOf "_law_telling_by" "_law_telling_by" (defArgs s__law_telling_by) (defBody s__law_telling_by) (defScope s__law_telling_by) .none kV_16 dc_16 pm_16 an_16 cd_16 ct_16), sl_16⟩) (c_16 : PySem.W.codeIn K cd_16 "_law_telling_by" = true) (k_16 : PySem.W.keepIn K (.ref f_16) = true)
    {f_17 : Addr} {od_17 an_17 : Option Addr} {sl_17 : Array (Option Value)} {oc_17 kV_17 dc_17 pm_17 ct_17 : Value} {cd_17 : Value}
    (a_17 : PySem.W.nsIn K mainGlobals "_law_table_by" = some (some (.ref f_17)))
    (l_17 : K.lookup f_17 = some ⟨oc_17, od_17, .func (PySem.W.fnOf "_law_table_by" "_law_table_by" (defArgs s__law_table_by) (defBody s__law_table_by) (defScope s__law_table_by) .none kV_17 dc_17 pm_17 an_17 cd_17 ct_17), sl_17⟩) (c_17 : PySem.W.codeIn K cd_17 "_law_table_by" = true) (k_17 : PySem.W.keepIn K (.ref f_17) = true)
    {f_18 : Addr} {od_18 an_18 : Option Addr} {sl_18 : Array (Option Value)} {oc_18 kV_18 dc_18 pm_18 ct_18 : Value} {cd_18 : Value}
    (a_18 : PySem.W.nsIn K mainGlobals "_law_wide_by" = some (some (.ref f_18)))
    (l_18 : K.lookup f_18 = some ⟨oc_18, od_18, .func (PySem.W.fnOf "_law_wide_by" "_law_wide_by" (defArgs s__law_wide_by) (defBody s__law_wide_by) (defScope s__law_wide_by) .none kV_18 dc_18 pm_18 an_18 cd_18 ct_18), sl_18⟩) (c_18 : PySem.W.codeIn K cd_18 "_law_wide_by" = true) (k_18 : PySem.W.keepIn K (.ref f_18) = true)
    {f_19 : Addr} {od_19 an_19 : Option Addr} {sl_19 : Array (Option Value)} {oc_19 kV_19 dc_19 pm_19 ct_19 : Value} {cd_19 : Value}
    (a_19 : PySem.W.nsIn K mainGlobals "_law_alike" = some (some (.ref f_19)))
    (l_19 : K.lookup f_19 = some ⟨oc_19, od_19, .func (PySem.W.fnOf "_law_alike" "_law_alike" (defArgs s__law_alike) (defBody s__law_alike) (defScope s__law_alike) .none kV_19 dc_19 pm_19 an_19 cd_19 ct_19), sl_19⟩) (c_19 : PySem.W.codeIn K cd_19 "_law_alike" = true) (k_19 : PySem.W.keepIn K (.ref f_19) = true)
    {f_20 : Addr} {od_20 an_20 : Option Addr} {sl_20 : Array (Option Value)} {oc_20 kV_20 dc_20 pm_20 ct_20 : Value} {cd_20 : Value}
    (a_20 : PySem.W.nsIn K mainGlobals "_law_rows" = some (some (.ref f_20)))
    (l_20 : K.lookup f_20 = some ⟨oc_20, od_20, .func (PySem.W.fnOf "_law_rows" "_law_rows" (defArgs s__law_rows) (defBody s__law_rows) (defScope s__law_rows) .none kV_20 dc_20 pm_20 an_20 cd_20 ct_20), sl_20⟩) (c_20 : PySem.W.codeIn K cd_20 "_law_rows" = true) (k_20 : PySem.W.keepIn K (.ref f_20) = true)
    {f_21 : Addr} {od_21 an_21 : Option Addr} {sl_21 : Array (Option Value)} {oc_21 kV_21 dc_21 pm_21 ct_21 : Value} {cd_21 : Value}
    (a_21 : PySem.W.nsIn K mainGlobals "_law_spoiled" = some (some (.ref f_21)))
    (l_21 : K.lookup f_21 = some ⟨oc_21, od_21, .func (PySem.W.fnOf "_law_spoiled" "_law_spoiled" (defArgs s__law_spoiled) (defBody s__law_spoiled) (defScope s__law_spoiled) .none kV_21 dc_21 pm_21 an_21 cd_21 ct_21), sl_21⟩) (c_21 : PySem.W.codeIn K cd_21 "_law_spoiled" = true) (k_21 : PySem.W.keepIn K (.ref f_21) = true)
    {f_22 : Addr} {od_22 an_22 : Option Addr} {sl_22 : Array (Option Value)} {oc_22 kV_22 dc_22 pm_22 ct_22 : Value} {cd_22 : Value}
    (a_22 : PySem.W.nsIn K mainGlobals "_law_refused_by_any" = some (some (.ref f_22)))
    (l_22 : K.lookup f_22 = some ⟨oc_22, od_22, .func (PySem.W.fnOf "_law_refused_by_any" "_law_refused_by_any" (defArgs s__law_refused_by_any) (defBody s__law_refused_by_any) (defScope s__law_refused_by_any) .none kV_22 dc_22 pm_22 an_22 cd_22 ct_22), sl_22⟩) (c_22 : PySem.W.codeIn K cd_22 "_law_refused_by_any" = true) (k_22 : PySem.W.keepIn K (.ref f_22) = true)
    {f_23 : Addr} {od_23 an_23 : Option Addr} {sl_23 : Array (Option Value)} {oc_23 kV_23 dc_23 pm_23 ct_23 : Value} {cd_23 : Value}
    (a_23 : PySem.W.nsIn K mainGlobals "law" = some (some (.ref f_23)))
    (l_23 : K.lookup f_23 = some ⟨oc_23, od_23, .func (PySem.W.fnOf "law" "law" (defArgs s_law) (defBody s_law) (defScope s_law) .none kV_23 dc_23 pm_23 an_23 cd_23 ct_23), sl_23⟩) (c_23 : PySem.W.codeIn K cd_23 "law" = true) (k_23 : PySem.W.keepIn K (.ref f_23) = true)
    {f_24 : Addr} {od_24 an_24 : Option Addr} {sl_24 : Array (Option Value)} {oc_24 kV_24 dc_24 pm_24 ct_24 : Value} {cd_24 : Value}
    (a_24 : PySem.W.nsIn K mainGlobals "_law_alone" = some (some (.ref f_24)))
    (l_24 : K.lookup f_24 = some ⟨oc_24, od_24, .func (PySem.W.fnOf "_law_alone" "_law_alone" (defArgs s__law_alone) (defBody s__law_alone) (defScope s__law_alone) .none kV_24 dc_24 pm_24 an_24 cd_24 ct_24), sl_24⟩) (c_24 : PySem.W.codeIn K cd_24 "_law_alone" = true) (k_24 : PySem.W.keepIn K (.ref f_24) = true)
    (z_0 : PySem.W.nsIn K mainGlobals "ValueError" = some none)
    (z_1 : PySem.W.nsIn K mainGlobals "all" = some none)
    (z_2 : PySem.W.nsIn K mainGlobals "bool" = some none)
    (z_3 : PySem.W.nsIn K mainGlobals "int" = some none)
    (z_4 : PySem.W.nsIn K mainGlobals "isinstance" = some none)
    (z_5 : PySem.W.nsIn K mainGlobals "len" = some none)
    (z_6 : PySem.W.nsIn K mainGlobals "list" = some none)
    (z_7 : PySem.W.nsIn K mainGlobals "min" = some none)
    (z_8 : PySem.W.nsIn K mainGlobals "range" = some none)
    (z_9 : PySem.W.nsIn K mainGlobals "str" = some none)
    (z_10 : PySem.W.nsIn K mainGlobals "tuple" = some none)
    (z_11 : PySem.W.nsIn K mainGlobals "zip" = some none)
    {ca_ReadError : Addr} (en_ReadError : PySem.W.nsIn K mainGlobals "ReadError" = some (some (.ref ca_ReadError)))
    (eb_ReadError : PySem.W.subIn K (.ref ca_ReadError) (.type "BaseException") = some true) (et_ReadError : PySem.W.typeIn K (.ref ca_ReadError) = some (.type "type")) (xd_ReadError : PySem.W.hasDictIn K ca_ReadError = true)
    {ca_NoWord : Addr} (en_NoWord : PySem.W.nsIn K mainGlobals "NoWord" = some (some (.ref ca_NoWord)))
    (eb_NoWord : PySem.W.subIn K (.ref ca_NoWord) (.type "BaseException") = some true) (et_NoWord : PySem.W.typeIn K (.ref ca_NoWord) = some (.type "type")) (xd_NoWord : PySem.W.hasDictIn K ca_NoWord = true)
    {ca_NoTelling : Addr} (en_NoTelling : PySem.W.nsIn K mainGlobals "NoTelling" = some (some (.ref ca_NoTelling)))
    (eb_NoTelling : PySem.W.subIn K (.ref ca_NoTelling) (.type "BaseException") = some true) (et_NoTelling : PySem.W.typeIn K (.ref ca_NoTelling) = some (.type "type")) (xd_NoTelling : PySem.W.hasDictIn K ca_NoTelling = true)
    {ca_Clash : Addr} (en_Clash : PySem.W.nsIn K mainGlobals "Clash" = some (some (.ref ca_Clash)))
    (eb_Clash : PySem.W.subIn K (.ref ca_Clash) (.type "BaseException") = some true) (et_Clash : PySem.W.typeIn K (.ref ca_Clash) = some (.type "type")) (xd_Clash : PySem.W.hasDictIn K ca_Clash = true)
    {ca_NoPart : Addr} (en_NoPart : PySem.W.nsIn K mainGlobals "NoPart" = some (some (.ref ca_NoPart)))
    (eb_NoPart : PySem.W.subIn K (.ref ca_NoPart) (.type "BaseException") = some true) (et_NoPart : PySem.W.typeIn K (.ref ca_NoPart) = some (.type "type")) (xd_NoPart : PySem.W.hasDictIn K ca_NoPart = true)
    {ca_NoTree : Addr} (en_NoTree : PySem.W.nsIn K mainGlobals "NoTree" = some (some (.ref ca_NoTree)))
    (eb_NoTree : PySem.W.subIn K (.ref ca_NoTree) (.type "BaseException") = some true) (et_NoTree : PySem.W.typeIn K (.ref ca_NoTree) = some (.type "type")) (xd_NoTree : PySem.W.hasDictIn K ca_NoTree = true)
    {ca_TooMuch : Addr} (en_TooMuch : PySem.W.nsIn K mainGlobals "TooMuch" = some (some (.ref ca_TooMuch)))
    (eb_TooMuch : PySem.W.subIn K (.ref ca_TooMuch) (.type "BaseException") = some true) (et_TooMuch : PySem.W.typeIn K (.ref ca_TooMuch) = some (.type "type")) (xd_TooMuch : PySem.W.hasDictIn K ca_TooMuch = true)
    (ek_NoTelling : PySem.W.keepIn K (.ref ca_NoTelling) = true) (ex_NoTelling : PySem.W.excIn K ca_NoTelling [.type "ValueError", .type "Exception", .type "BaseException", .type "object"] "ValueError.__new__" = true)
    (ek_Clash : PySem.W.keepIn K (.ref ca_Clash) = true) (ex_Clash : PySem.W.excIn K ca_Clash [.type "ValueError", .type "Exception", .type "BaseException", .type "object"] "ValueError.__new__" = true)
    (eq_NoTelling_ReadError : PySem.W.subIn K (.ref ca_NoTelling) (.ref ca_ReadError) = some true)
    (eq_Clash_ReadError : PySem.W.subIn K (.ref ca_Clash) (.ref ca_ReadError) = some true)
    (eq_NoTelling_NoTelling : PySem.W.subIn K (.ref ca_NoTelling) (.ref ca_NoTelling) = some true)
    (eq_Clash_NoTelling : PySem.W.subIn K (.ref ca_Clash) (.ref ca_NoTelling) = some false)
    (eq_NoTelling_Clash : PySem.W.subIn K (.ref ca_NoTelling) (.ref ca_Clash) = some false)
    (eq_Clash_Clash : PySem.W.subIn K (.ref ca_Clash) (.ref ca_Clash) = some true)
    (eq_NoTelling_NoWord : PySem.W.subIn K (.ref ca_NoTelling) (.ref ca_NoWord) = some false)
    (eq_Clash_NoWord : PySem.W.subIn K (.ref ca_Clash) (.ref ca_NoWord) = some false)
    (eq_NoTelling_NoPart : PySem.W.subIn K (.ref ca_NoTelling) (.ref ca_NoPart) = some false)
    (eq_Clash_NoPart : PySem.W.subIn K (.ref ca_Clash) (.ref ca_NoPart) = some false)
    (eq_NoTelling_NoTree : PySem.W.subIn K (.ref ca_NoTelling) (.ref ca_NoTree) = some false)
    (eq_Clash_NoTree : PySem.W.subIn K (.ref ca_Clash) (.ref ca_NoTree) = some false)
    (eq_NoTelling_TooMuch : PySem.W.subIn K (.ref ca_NoTelling) (.ref ca_TooMuch) = some false)
    (eq_Clash_TooMuch : PySem.W.subIn K (.ref ca_Clash) (.ref ca_TooMuch) = some false)
    (xg_NoTelling : PySem.W.findIn K (.ref ca_NoTelling) "__getattribute__" = some (some (.builtin "BaseException.__getattribute__")))
    (xk_NoTelling : PySem.W.findIn K (.ref ca_NoTelling) "__getattr__" = some none)
    (xa_NoTelling : PySem.W.findIn K (.ref ca_NoTelling) "__class__" = some (some (.builtin "object.__class__")))
    (xm_NoTelling : PySem.W.mroIn K ca_NoTelling (.type "object") = some true)
    (xv_NoTelling : PySem.W.subIn K (.ref ca_NoTelling) (.type "ValueError") = some true)
    (xi_NoTelling_NoWord : (ca_NoTelling == ca_NoWord) = false)
    (xi_NoTelling_Clash : (ca_NoTelling == ca_Clash) = false)
    (xi_NoTelling_NoPart : (ca_NoTelling == ca_NoPart) = false)
    (xi_NoTelling_NoTree : (ca_NoTelling == ca_NoTree) = false)
    (xi_NoTelling_TooMuch : (ca_NoTelling == ca_TooMuch) = false)
    (xg_Clash : PySem.W.findIn K (.ref ca_Clash) "__getattribute__" = some (some (.builtin "BaseException.__getattribute__")))
    (xk_Clash : PySem.W.findIn K (.ref ca_Clash) "__getattr__" = some none)
    (xa_Clash : PySem.W.findIn K (.ref ca_Clash) "__class__" = some (some (.builtin "object.__class__")))
    (xm_Clash : PySem.W.mroIn K ca_Clash (.type "object") = some true)
    (xv_Clash : PySem.W.subIn K (.ref ca_Clash) (.type "ValueError") = some true)
    (xi_Clash_NoWord : (ca_Clash == ca_NoWord) = false)
    (xi_Clash_NoTelling : (ca_Clash == ca_NoTelling) = false)
    (xi_Clash_NoPart : (ca_Clash == ca_NoPart) = false)
    (xi_Clash_NoTree : (ca_Clash == ca_NoTree) = false)
    (xi_Clash_TooMuch : (ca_Clash == ca_TooMuch) = false)
    (xn : PySem.W.specialIn K (.builtin "object.__class__") "__get__" = some (some (.builtin "getset_descriptor.__get__"))) (xt : PySem.W.takesIn K (.builtin "object.__class__") = some true)
    {t_0 : Tok} (y_0 : PySem.W.nsIn K mainGlobals "KIND" = some (some (.int 1 t_0)))
    {ya_1 : Addr} (y_1 : PySem.W.nsIn K mainGlobals "KINDS" = some (some (.ref ya_1)))
    {tt_1_0_0 : Tok}
    {tt_1_0_1 : Tok}
    {tt_1_0_2 : Tok}
    {tt_1_0_3 : Tok}
    {tt_1_0_4 : Tok}
    {dd_y1_0 : Option Addr} {its_1_0 : Array Value} {n_y1_0 : Nat} {sl_y1_0 : Array (Option Value)} (yl_1_0 : K.lookup ya_1 = some ⟨.type "tuple", dd_y1_0, .seq its_1_0 n_y1_0, sl_y1_0⟩) (ye_1_0 : its_1_0 = #[.str "left" tt_1_0_0, .str "right" tt_1_0_1, .str "none" tt_1_0_2, .str "before" tt_1_0_3, .str "behind" tt_1_0_4])
    {t_2 : Tok} (y_2 : PySem.W.nsIn K mainGlobals "LONGEST" = some (some (.int 8 t_2)))
    {t_3 : Tok} (y_3 : PySem.W.nsIn K mainGlobals "SINGLES" = some (some (.str "();" t_3)))
    {t_4 : Tok} (y_4 : PySem.W.nsIn K mainGlobals "STRENGTH" = some (some (.int 2 t_4)))
    {t_5 : Tok} (y_5 : PySem.W.nsIn K mainGlobals "STRONGEST" = some (some (.int 30 t_5)))
    {t_6 : Tok} (y_6 : PySem.W.nsIn K mainGlobals "WORD" = some (some (.int 3 t_6)))
    (hlaw : ∀ ns : List Int, ns.length ≤ 63 → (∀ z ∈ ns, Builtin.Int.intBits z ≤ 1048576) → ∀ m, m = .fz ∨ m = .cl → ∃ ρ, m_law [scrC ns m] = .ok ((.bool true, .cl), ρ)) : LamX.LawAtS l w K (L2N.CX l.prog w) 6 63 "_law_script" mg fa h := by
  have e := hfa.symm.trans (PySem.W.mg_of X G a_23)
  cases e
  have F_0 := fun_mk (st := s_is_inner) l_0 c_0 k_0
  have d_1 := codeHdIn_of u_1 h_1 r_1 v_1
  have F_1 := fun_mk (st := s_is_word) l_1 c_1 k_1
  have F_2 := fun_mk (st := s_is_strength) l_2 c_2 k_2
  have F_3 := fun_mk (st := s_is_telling) l_3 c_3 k_3
  have F_4 := fun_mk (st := s_has_other_kind) l_4 c_4 k_4
  have F_5 := fun_mk (st := s_is_ahead) l_5 c_5 k_5
  have F_6 := fun_mk (st := s_role) l_6 c_6 k_6
  have F_7 := fun_mk (st := s_added) l_7 c_7 k_7
  have F_8 := fun_mk (st := s__law_mixed) l_8 c_8 k_8
  have F_9 := fun_mk (st := s__law_cell_at) l_9 c_9 k_9
  have F_10 := fun_mk (st := s__law_cells) l_10 c_10 k_10
  have F_11 := fun_mk (st := s__law_sign_by) l_11 c_11 k_11
  have F_12 := fun_mk (st := s__law_word_by) l_12 c_12 k_12
  have F_13 := fun_mk (st := s__law_words_by) l_13 c_13 k_13
  have F_14 := fun_mk (st := s__law_role) l_14 c_14 k_14
  have F_15 := fun_mk (st := s__law_clash) l_15 c_15 k_15
  have F_16 := fun_mk (st := s__law_telling_by) l_16 c_16 k_16
  have F_17 := fun_mk (st := s__law_table_by) l_17 c_17 k_17
  have F_18 := fun_mk (st := s__law_wide_by) l_18 c_18 k_18
  have F_19 := fun_mk (st := s__law_alike) l_19 c_19 k_19
  have F_20 := fun_mk (st := s__law_rows) l_20 c_20 k_20
  have F_21 := fun_mk (st := s__law_spoiled) l_21 c_21 k_21
  have F_22 := fun_mk (st := s__law_refused_by_any) l_22 c_22 k_22
  have F_23 := fun_mk (st := s_law) l_23 c_23 k_23
  have F_24 := fun_mk (st := s__law_alone) l_24 c_24 k_24
  have hB : BltIn mg := fun x hx => by
    simp only [List.not_mem_nil, List.mem_cons, or_false] at hx
    rcases hx with rfl | rfl | rfl | rfl | rfl | rfl | rfl | rfl | rfl | rfl | rfl | rfl
    · exact PySem.W.mg_none_of X G z_0
    · exact PySem.W.mg_none_of X G z_1
    · exact PySem.W.mg_none_of X G z_2
    · exact PySem.W.mg_none_of X G z_3
    · exact PySem.W.mg_none_of X G z_4
    · exact PySem.W.mg_none_of X G z_5
    · exact PySem.W.mg_none_of X G z_6
    · exact PySem.W.mg_none_of X G z_7
    · exact PySem.W.mg_none_of X G z_8
    · exact PySem.W.mg_none_of X G z_9
    · exact PySem.W.mg_none_of X G z_10
    · exact PySem.W.mg_none_of X G z_11
  have g_KIND := Exists.intro (p := fun t => mg "KIND" = some (.int 1 t)) _ (PySem.W.mg_of X G y_0)
  have g_KINDS : GlobD K mg "KINDS" (.tuple [(.str "left"), (.str "right"), (.str "none"), (.str "before"), (.str "behind")]) := ⟨_, PySem.W.mg_of X G y_1, fun _ => kd_tup yl_1_0 (by rw [ye_1_0]; exact Nat.le_of_ble_eq_true rfl) (by rw [ye_1_0]; exact .cons (⟨_, rfl⟩) (.cons (⟨_, rfl⟩) (.cons (⟨_, rfl⟩) (.cons (⟨_, rfl⟩) (.cons (⟨_, rfl⟩) (.nil)))))) (.cons (.str _) (.cons (.str _) (.cons (.str _) (.cons (.str _) (.cons (.str _) (.nil))))))⟩
  have g_LONGEST := Exists.intro (p := fun t => mg "LONGEST" = some (.int 8 t)) _ (PySem.W.mg_of X G y_2)
  have g_SINGLES := Exists.intro (p := fun t => mg "SINGLES" = some (.str "();" t)) _ (PySem.W.mg_of X G y_3)
  have g_STRENGTH := Exists.intro (p := fun t => mg "STRENGTH" = some (.int 2 t)) _ (PySem.W.mg_of X G y_4)
  have g_STRONGEST := Exists.intro (p := fun t => mg "STRONGEST" = some (.int 30 t)) _ (PySem.W.mg_of X G y_5)
  have g_WORD := Exists.intro (p := fun t => mg "WORD" = some (.int 3 t)) _ (PySem.W.mg_of X G y_6)
  have E_NoTelling : Err K mg "NoTelling" := ⟨_, PySem.W.mg_of X G en_NoTelling, ek_NoTelling, ex_NoTelling, eb_NoTelling, et_NoTelling⟩
  have E_Clash : Err K mg "Clash" := ⟨_, PySem.W.mg_of X G en_Clash, ek_Clash, ex_Clash, eb_Clash, et_Clash⟩
  have X_ReadError : Clause K mg "ReadError" errN sub_ReadError := ⟨_, PySem.W.mg_of X G en_ReadError, fun c A hc hm => by
    simp only [errN, List.not_mem_nil, List.mem_cons, or_false] at hc
    rcases hc with rfl | rfl
    · cases hm.symm.trans (PySem.W.mg_of X G en_NoTelling)
      exact PySem.W.exm_ref eb_ReadError xd_ReadError et_ReadError eq_NoTelling_ReadError
    · cases hm.symm.trans (PySem.W.mg_of X G en_Clash)
      exact PySem.W.exm_ref eb_ReadError xd_ReadError et_ReadError eq_Clash_ReadError⟩
  have X_NoTelling : Clause K mg "NoTelling" errN sub_NoTelling := ⟨_, PySem.W.mg_of X G en_NoTelling, fun c A hc hm => by
    simp only [errN, List.not_mem_nil, List.mem_cons, or_false] at hc
    rcases hc with rfl | rfl
    · cases hm.symm.trans (PySem.W.mg_of X G en_NoTelling)
      exact PySem.W.exm_ref eb_NoTelling xd_NoTelling et_NoTelling eq_NoTelling_NoTelling
    · cases hm.symm.trans (PySem.W.mg_of X G en_Clash)
      exact PySem.W.exm_ref eb_NoTelling xd_NoTelling et_NoTelling eq_Clash_NoTelling⟩
  have X_Clash : Clause K mg "Clash" errN sub_Clash := ⟨_, PySem.W.mg_of X G en_Clash, fun c A hc hm => by
    simp only [errN, List.not_mem_nil, List.mem_cons, or_false] at hc
    rcases hc with rfl | rfl
    · cases hm.symm.trans (PySem.W.mg_of X G en_NoTelling)
      exact PySem.W.exm_ref eb_Clash xd_Clash et_Clash eq_NoTelling_Clash
    · cases hm.symm.trans (PySem.W.mg_of X G en_Clash)
      exact PySem.W.exm_ref eb_Clash xd_Clash et_Clash eq_Clash_Clash⟩
  have L_NoTelling : Lone K mg "NoTelling" := ⟨_, PySem.W.mg_of X G en_NoTelling, ⟨xg_NoTelling, xk_NoTelling, eb_NoTelling, xd_NoTelling, xa_NoTelling, xn, xt, xm_NoTelling⟩, kit_VE xv_NoTelling, ⟨_, PySem.W.mg_of X G en_NoWord, kit_ne xi_NoTelling_NoWord xd_NoWord et_NoWord eq_NoTelling_NoWord⟩, ⟨_, PySem.W.mg_of X G en_NoTelling, kit_eq⟩, ⟨_, PySem.W.mg_of X G en_Clash, kit_ne xi_NoTelling_Clash xd_Clash et_Clash eq_NoTelling_Clash⟩, ⟨_, PySem.W.mg_of X G en_NoPart, kit_ne xi_NoTelling_NoPart xd_NoPart et_NoPart eq_NoTelling_NoPart⟩, ⟨_, PySem.W.mg_of X G en_NoTree, kit_ne xi_NoTelling_NoTree xd_NoTree et_NoTree eq_NoTelling_NoTree⟩, ⟨_, PySem.W.mg_of X G en_TooMuch, kit_ne xi_NoTelling_TooMuch xd_TooMuch et_TooMuch eq_NoTelling_TooMuch⟩⟩
  have L_Clash : Lone K mg "Clash" := ⟨_, PySem.W.mg_of X G en_Clash, ⟨xg_Clash, xk_Clash, eb_Clash, xd_Clash, xa_Clash, xn, xt, xm_Clash⟩, kit_VE xv_Clash, ⟨_, PySem.W.mg_of X G en_NoWord, kit_ne xi_Clash_NoWord xd_NoWord et_NoWord eq_Clash_NoWord⟩, ⟨_, PySem.W.mg_of X G en_NoTelling, kit_ne xi_Clash_NoTelling xd_NoTelling et_NoTelling eq_Clash_NoTelling⟩, ⟨_, PySem.W.mg_of X G en_Clash, kit_eq⟩, ⟨_, PySem.W.mg_of X G en_NoPart, kit_ne xi_Clash_NoPart xd_NoPart et_NoPart eq_Clash_NoPart⟩, ⟨_, PySem.W.mg_of X G en_NoTree, kit_ne xi_Clash_NoTree xd_NoTree et_NoTree eq_Clash_NoTree⟩, ⟨_, PySem.W.mg_of X G en_TooMuch, kit_ne xi_Clash_TooMuch xd_TooMuch et_TooMuch eq_Clash_TooMuch⟩⟩
  refine ⟨PySem.W.fnOf "law" "law" (defArgs s_law) (defBody s_law) (defScope s_law) .none kV_23 dc_23 pm_23 an_23 cd_23 ct_23, [(cc_1, pt_1)], spM { K := K, T := [pt_1], mg := mg, ios := [] } 1 m_law, ?_, ?_, ?_, fun s v => .of_eq rfl, fun H a ns h1 h2 hH hS => law_entry (fun p hp => ?_) hS (hlaw ns h1 h2), fun base kb nb tb => ?_⟩
  · exact fun p hp => by
      simp only [List.not_mem_nil, List.mem_cons, or_false] at hp
      rcases hp with rfl
      · exact own_tab (own _ (by simp) _ (PySem.W.mg_of X G a_1)) l_1 rfl rfl d_1
  · exact fun p hp => by
      simp only [List.not_mem_nil, List.mem_cons, or_false] at hp
      rcases hp with rfl
      · exact n_1
  · exact fun p hp => by
      simp only [List.not_mem_nil, List.mem_cons, or_false] at hp
      rcases hp with rfl
      · exact PySem.W.codeHd_of_K X d_1
  · simp only [List.not_mem_nil, List.mem_cons, or_false] at hp
    rcases hp with hp
    · rw [hp]; exact hH (cc_1, pt_1) (by simp)
  have al__law_alone : CalA l.prog w K mg base "_law_alone" 1 errN := ⟨_, _, _, PySem.W.mg_of X G a_24, F_24.kp, F_24.binds (ps := ["_law_e"]) (fun _ _ _ _ _ _ us hl => match us, hl with | [_], _ => rfl), fun c hc => by
    simp only [errN, List.not_mem_nil, List.mem_cons, or_false] at hc
    rcases hc with rfl | rfl
    · exact fa__law_alone hB F_24 (by decide) L_NoTelling
    · exact fa__law_alone hB F_24 (by decide) L_Clash⟩
  have c_is_inner : Cal l.prog w K mg base [pt_1] "is_inner" 1 1 m_is_inner := .of rfl F_0 (PySem.W.mg_of X G a_0) (F_0.binds (ps := ["sign"]) fun _ _ _ _ _ _ us hl => match us, hl with | [_], _ => rfl) (fn_is_inner (P := l.prog) (w := w) (base := base) (T := [pt_1]) hB g_SINGLES F_0)
  have e_is_inner : EltF l.prog w K mg base "is_inner" "sign" (inB "();") := eltF_of F_0 sc_is_inner (F_0.binds (ps := ["sign"]) fun _ _ _ _ _ _ us hl => match us, hl with | [_], _ => rfl) (PySem.W.mg_of X G a_0) (body_inner rfl rfl rfl g_SINGLES rfl (by decide)) rfl
  have c_is_word : Cal l.prog w K mg base [pt_1] "is_word" 1 2 m_is_word := .of rfl F_1 (PySem.W.mg_of X G a_1) (F_1.binds (ps := ["thing"]) fun _ _ _ _ _ _ us hl => match us, hl with | [_], _ => rfl) (fn_is_word (P := l.prog) (w := w) (base := base) (T := [pt_1]) hB g_LONGEST F_1 (c := cc_1) (Pt := pt_1) (by simp) (tabB_of (tb (cc_1, pt_1) (by simp))) rfl e_is_inner)
  have h_is_word : CalH l.prog w K mg base [pt_1] "is_word" 1 2 m_is_word := .of rfl F_1 (PySem.W.mg_of X G a_1) (F_1.binds (ps := ["thing"]) fun _ _ _ _ _ _ us hl => match us, hl with | [_], _ => rfl) (fnH_is_word (P := l.prog) (w := w) (base := base) (T := [pt_1]) hB g_LONGEST F_1 (c := cc_1) (Pt := pt_1) (by simp) (tabB_of (tb (cc_1, pt_1) (by simp))) rfl e_is_inner)
  have c_is_strength : Cal l.prog w K mg base [pt_1] "is_strength" 1 1 m_is_strength := .of rfl F_2 (PySem.W.mg_of X G a_2) (F_2.binds (ps := ["thing"]) fun _ _ _ _ _ _ us hl => match us, hl with | [_], _ => rfl) (fn_is_strength (P := l.prog) (w := w) (base := base) (T := [pt_1]) hB g_STRONGEST F_2)
  have h_is_strength : CalH l.prog w K mg base [pt_1] "is_strength" 1 1 m_is_strength := .of rfl F_2 (PySem.W.mg_of X G a_2) (F_2.binds (ps := ["thing"]) fun _ _ _ _ _ _ us hl => match us, hl with | [_], _ => rfl) (fnH_is_strength (P := l.prog) (w := w) (base := base) (T := [pt_1]) hB g_STRONGEST F_2)
  have c_is_telling : Cal l.prog w K mg base [pt_1] "is_telling" 1 3 m_is_telling := .of rfl F_3 (PySem.W.mg_of X G a_3) (F_3.binds (ps := ["thing"]) fun _ _ _ _ _ _ us hl => match us, hl with | [_], _ => rfl) (fn_is_telling (P := l.prog) (w := w) (base := base) (T := [pt_1]) hB g_KINDS c_is_strength c_is_word F_3)
  have h_is_telling : CalH l.prog w K mg base [pt_1] "is_telling" 1 3 m_is_telling := .of rfl F_3 (PySem.W.mg_of X G a_3) (F_3.binds (ps := ["thing"]) fun _ _ _ _ _ _ us hl => match us, hl with | [_], _ => rfl) (fnH_is_telling (P := l.prog) (w := w) (base := base) (T := [pt_1]) hB g_KINDS h_is_strength h_is_word F_3)
  have c_has_other_kind : Cal l.prog w K mg base [pt_1] "has_other_kind" 2 1 m_has_other_kind := .of rfl F_4 (PySem.W.mg_of X G a_4) (F_4.binds (ps := ["table", "telling"]) fun _ _ _ _ _ _ us hl => match us, hl with | [_, _], _ => rfl) (fn_has_other_kind (P := l.prog) (w := w) (base := base) (T := [pt_1]) hB g_STRENGTH g_KIND F_4)
  have h_has_other_kind : CalH l.prog w K mg base [pt_1] "has_other_kind" 2 1 m_has_other_kind := .of rfl F_4 (PySem.W.mg_of X G a_4) (F_4.binds (ps := ["table", "telling"]) fun _ _ _ _ _ _ us hl => match us, hl with | [_, _], _ => rfl) (fnH_has_other_kind (P := l.prog) (w := w) (base := base) (T := [pt_1]) hB g_STRENGTH g_KIND F_4)
  have c_is_ahead : Cal l.prog w K mg base [pt_1] "is_ahead" 1 1 m_is_ahead := .of rfl F_5 (PySem.W.mg_of X G a_5) (F_5.binds (ps := ["telling"]) fun _ _ _ _ _ _ us hl => match us, hl with | [_], _ => rfl) (fn_is_ahead (P := l.prog) (w := w) (base := base) (T := [pt_1]) hB g_KIND F_5)
  have h_is_ahead : CalH l.prog w K mg base [pt_1] "is_ahead" 1 1 m_is_ahead := .of rfl F_5 (PySem.W.mg_of X G a_5) (F_5.binds (ps := ["telling"]) fun _ _ _ _ _ _ us hl => match us, hl with | [_], _ => rfl) (fnH_is_ahead (P := l.prog) (w := w) (base := base) (T := [pt_1]) hB g_KIND F_5)
  have c_role : Cal l.prog w K mg base [pt_1] "role" 3 2 m_role := .of rfl F_6 (PySem.W.mg_of X G a_6) (F_6.binds (ps := ["table", "word", "ahead"]) fun _ _ _ _ _ _ us hl => match us, hl with | [_, _, _], _ => rfl) (fn_role (P := l.prog) (w := w) (base := base) (T := [pt_1]) hB g_WORD c_is_ahead F_6)
  have h_role : CalH l.prog w K mg base [pt_1] "role" 3 2 m_role := .of rfl F_6 (PySem.W.mg_of X G a_6) (F_6.binds (ps := ["table", "word", "ahead"]) fun _ _ _ _ _ _ us hl => match us, hl with | [_, _, _], _ => rfl) (fnH_role (P := l.prog) (w := w) (base := base) (T := [pt_1]) hB g_WORD h_is_ahead F_6)
  have c_added : Cal l.prog w K mg base [pt_1] "added" 2 4 m_added := .of rfl F_7 (PySem.W.mg_of X G a_7) (F_7.binds (ps := ["table", "telling"]) fun _ _ _ _ _ _ us hl => match us, hl with | [_, _], _ => rfl) (fn_added (P := l.prog) (w := w) (base := base) (T := [pt_1]) hB g_STRENGTH g_WORD E_NoTelling E_Clash c_is_telling c_has_other_kind c_role c_is_ahead F_7)
  have h_added : CalH l.prog w K mg base [pt_1] "added" 2 4 m_added := .of rfl F_7 (PySem.W.mg_of X G a_7) (F_7.binds (ps := ["table", "telling"]) fun _ _ _ _ _ _ us hl => match us, hl with | [_, _], _ => rfl) (fnH_added (P := l.prog) (w := w) (base := base) (T := [pt_1]) hB g_STRENGTH g_WORD E_NoTelling E_Clash h_is_telling h_has_other_kind h_role h_is_ahead F_7)
  have c__law_mixed : Cal l.prog w K mg base [pt_1] "_law_mixed" 2 1 m__law_mixed := .of rfl F_8 (PySem.W.mg_of X G a_8) (F_8.binds (ps := ["_law_cell", "_law_k"]) fun _ _ _ _ _ _ us hl => match us, hl with | [_, _], _ => rfl) (fn__law_mixed (P := l.prog) (w := w) (base := base) (T := [pt_1]) hB F_8)
  have c__law_cell_at : Cal l.prog w K mg base [pt_1] "_law_cell_at" 2 2 m__law_cell_at := .of rfl F_9 (PySem.W.mg_of X G a_9) (F_9.binds (ps := ["_law_script", "_law_k"]) fun _ _ _ _ _ _ us hl => match us, hl with | [_, _], _ => rfl) (fn__law_cell_at (P := l.prog) (w := w) (base := base) (T := [pt_1]) hB c__law_mixed F_9)
  have c__law_cells : Cal l.prog w K mg base [pt_1] "_law_cells" 3 2 m__law_cells := .of rfl F_10 (PySem.W.mg_of X G a_10) (F_10.binds (ps := ["_law_script", "_law_at", "_law_end"]) fun _ _ _ _ _ _ us hl => match us, hl with | [_, _, _], _ => rfl) (fn__law_cells (P := l.prog) (w := w) (base := base) (T := [pt_1]) hB c__law_mixed F_10)
  have c__law_sign_by : Cal l.prog w K mg base [pt_1] "_law_sign_by" 1 1 m__law_sign_by := .of rfl F_11 (PySem.W.mg_of X G a_11) (F_11.binds (ps := ["_law_cell"]) fun _ _ _ _ _ _ us hl => match us, hl with | [_], _ => rfl) (fn__law_sign_by (P := l.prog) (w := w) (base := base) (T := [pt_1]) hB F_11)
  have c__law_word_by : Cal l.prog w K mg base [pt_1] "_law_word_by" 2 2 m__law_word_by := .of rfl F_12 (PySem.W.mg_of X G a_12) (F_12.binds (ps := ["_law_cell", "_law_k"]) fun _ _ _ _ _ _ us hl => match us, hl with | [_, _], _ => rfl) (fn__law_word_by (P := l.prog) (w := w) (base := base) (T := [pt_1]) hB c__law_sign_by F_12)
  have c__law_words_by : Cal l.prog w K mg base [pt_1] "_law_words_by" 1 3 m__law_words_by := .of rfl F_13 (PySem.W.mg_of X G a_13) (F_13.binds (ps := ["_law_cell"]) fun _ _ _ _ _ _ us hl => match us, hl with | [_], _ => rfl) (fn__law_words_by (P := l.prog) (w := w) (base := base) (T := [pt_1]) hB c__law_word_by F_13)
  have c__law_role : Cal l.prog w K mg base [pt_1] "_law_role" 3 1 m__law_role := .of rfl F_14 (PySem.W.mg_of X G a_14) (F_14.binds (ps := ["_law_table", "_law_word", "_law_ahead"]) fun _ _ _ _ _ _ us hl => match us, hl with | [_, _, _], _ => rfl) (fn__law_role (P := l.prog) (w := w) (base := base) (T := [pt_1]) hB F_14)
  have c__law_clash : Cal l.prog w K mg base [pt_1] "_law_clash" 2 2 m__law_clash := .of rfl F_15 (PySem.W.mg_of X G a_15) (F_15.binds (ps := ["_law_table", "_law_telling"]) fun _ _ _ _ _ _ us hl => match us, hl with | [_, _], _ => rfl) (fn__law_clash (P := l.prog) (w := w) (base := base) (T := [pt_1]) hB c__law_role F_15)
  have c__law_telling_by : Cal l.prog w K mg base [pt_1] "_law_telling_by" 2 1 m__law_telling_by := .of rfl F_16 (PySem.W.mg_of X G a_16) (F_16.binds (ps := ["_law_cell", "_law_words"]) fun _ _ _ _ _ _ us hl => match us, hl with | [_, _], _ => rfl) (fn__law_telling_by (P := l.prog) (w := w) (base := base) (T := [pt_1]) hB F_16)
  have c__law_table_by : Cal l.prog w K mg base [pt_1] "_law_table_by" 2 3 m__law_table_by := .of rfl F_17 (PySem.W.mg_of X G a_17) (F_17.binds (ps := ["_law_cells_here", "_law_words"]) fun _ _ _ _ _ _ us hl => match us, hl with | [_, _], _ => rfl) (fn__law_table_by (P := l.prog) (w := w) (base := base) (T := [pt_1]) hB c__law_telling_by c__law_clash F_17)
  have c__law_wide_by : Cal l.prog w K mg base [pt_1] "_law_wide_by" 3 3 m__law_wide_by := .of rfl F_18 (PySem.W.mg_of X G a_18) (F_18.binds (ps := ["_law_table", "_law_cell", "_law_words"]) fun _ _ _ _ _ _ us hl => match us, hl with | [_, _, _], _ => rfl) (fn__law_wide_by (P := l.prog) (w := w) (base := base) (T := [pt_1]) hB c__law_clash F_18)
  have c__law_alike : Cal l.prog w K mg base [pt_1] "_law_alike" 2 1 m__law_alike := .of rfl F_19 (PySem.W.mg_of X G a_19) (F_19.binds (ps := ["_law_found", "_law_due"]) fun _ _ _ _ _ _ us hl => match us, hl with | [_, _], _ => rfl) (fn__law_alike (P := l.prog) (w := w) (base := base) (T := [pt_1]) hB F_19)
  have h__law_alike : CalH l.prog w K mg base [pt_1] "_law_alike" 2 1 m__law_alike := .of rfl F_19 (PySem.W.mg_of X G a_19) (F_19.binds (ps := ["_law_found", "_law_due"]) fun _ _ _ _ _ _ us hl => match us, hl with | [_, _], _ => rfl) (fnH__law_alike (P := l.prog) (w := w) (base := base) (T := [pt_1]) hB F_19)
  have c__law_rows : Cal l.prog w K mg base [pt_1] "_law_rows" 2 2 m__law_rows := .of rfl F_20 (PySem.W.mg_of X G a_20) (F_20.binds (ps := ["_law_found", "_law_due"]) fun _ _ _ _ _ _ us hl => match us, hl with | [_, _], _ => rfl) (fn__law_rows (P := l.prog) (w := w) (base := base) (T := [pt_1]) hB c__law_alike F_20)
  have h__law_rows : CalH l.prog w K mg base [pt_1] "_law_rows" 2 2 m__law_rows := .of rfl F_20 (PySem.W.mg_of X G a_20) (F_20.binds (ps := ["_law_found", "_law_due"]) fun _ _ _ _ _ _ us hl => match us, hl with | [_, _], _ => rfl) (fnH__law_rows (P := l.prog) (w := w) (base := base) (T := [pt_1]) hB h__law_alike F_20)
  have c__law_spoiled : Cal l.prog w K mg base [pt_1] "_law_spoiled" 2 1 m__law_spoiled := .of rfl F_21 (PySem.W.mg_of X G a_21) (F_21.binds (ps := ["_law_telling", "_law_cell"]) fun _ _ _ _ _ _ us hl => match us, hl with | [_, _], _ => rfl) (fn__law_spoiled (P := l.prog) (w := w) (base := base) (T := [pt_1]) hB F_21)
  have c__law_refused_by_any : Cal l.prog w K mg base [pt_1] "_law_refused_by_any" 2 5 m__law_refused_by_any := .of rfl F_22 (PySem.W.mg_of X G a_22) (F_22.binds (ps := ["_law_table", "_law_telling"]) fun _ _ _ _ _ _ us hl => match us, hl with | [_, _], _ => rfl) (fn__law_refused_by_any (P := l.prog) (w := w) (base := base) (T := [pt_1]) hB X_ReadError al__law_alone c_added F_22)
  have h__law_refused_by_any : CalH l.prog w K mg base [pt_1] "_law_refused_by_any" 2 5 m__law_refused_by_any := .of rfl F_22 (PySem.W.mg_of X G a_22) (F_22.binds (ps := ["_law_table", "_law_telling"]) fun _ _ _ _ _ _ us hl => match us, hl with | [_, _], _ => rfl) (fnH__law_refused_by_any (P := l.prog) (w := w) (base := base) (T := [pt_1]) hB X_ReadError al__law_alone h_added F_22)
  exact fn_law (P := l.prog) (w := w) (base := base) (T := [pt_1]) hB X_NoTelling X_Clash c__law_words_by c__law_cell_at c__law_table_by c__law_cells c__law_wide_by c__law_telling_by c__law_spoiled c_added c__law_clash c__law_rows c__law_refused_by_any h__law_refused_by_any h__law_rows F_23
end
end V_k03

set_option Elab.async false
set_option linter.all false
set_option maxRecDepth 100000
set_option maxHeartbeats 1234567
namespace V_k03
open PySem PySem.Spec
open PyProof.Rows L2 Eng
def mixI (a k : Int) : Int := let l := (a + 7919 * k) * 48271 % 2147483647; l * l % 2147483629
theorem mixed_ok (a k : Int) : retR (m__law_mixed [.val (.int a), .val (.int k)]) = .ok (.int (mixI a k), .cl) := by
  have h1 : mulOk 7919 k = true := by simp [runB, fin, sSeq, oSeq, sSet, setK, sIf, sRet, sRetOwn, sRetN, sNx, mBin, mVar, mK, mCmp, mVal, mChain, mBool, mAnd, mOr, mNot, mAndV, mOrV, mIf, mNil, mCons, mCallB, mUn, mIsi, mTup, mLst, mStrM, mSl, mNoP, mPart, mCall_eq, callR_ok, retR_ok, retR_er, retR_no, toCell, callMd, clA, ofO, Rs.bind, hAdd, hSub, hMul, hMod, hIx, hLt, hLe, hGt, hGe, hLen, hInt, hStr, itMode, isCl, itCl, okEl, shr, sFor, forL, mulOk]
  have h2 : mulOk (a + 7919 * k) 48271 = true := by simp [runB, fin, sSeq, oSeq, sSet, setK, sIf, sRet, sRetOwn, sRetN, sNx, mBin, mVar, mK, mCmp, mVal, mChain, mBool, mAnd, mOr, mNot, mAndV, mOrV, mIf, mNil, mCons, mCallB, mUn, mIsi, mTup, mLst, mStrM, mSl, mNoP, mPart, mCall_eq, callR_ok, retR_ok, retR_er, retR_no, toCell, callMd, clA, ofO, Rs.bind, hAdd, hSub, hMul, hMod, hIx, hLt, hLe, hGt, hGe, hLen, hInt, hStr, itMode, isCl, itCl, okEl, shr, sFor, forL, mulOk]
  have h3 : mulOk ((a + 7919 * k) * 48271 % 2147483647) ((a + 7919 * k) * 48271 % 2147483647) = true := by
    have p1 := Int.emod_nonneg ((a + 7919 * k) * 48271) (show (2147483647 : Int) ≠ 0 by decide)
    have p2 := Int.emod_lt_of_pos ((a + 7919 * k) * 48271) (show (0 : Int) < 2147483647 by decide)
    unfold mulOk
    simp only [Bool.or_eq_true, Bool.and_eq_true, decide_eq_true_eq]
    left; constructor <;> omega
  simp [runB, fin, sSeq, oSeq, sSet, setK, sIf, sRet, sRetOwn, sRetN, sNx, mBin, mVar, mK, mCmp, mVal, mChain, mBool, mAnd, mOr, mNot, mAndV, mOrV, mIf, mNil, mCons, mCallB, mUn, mIsi, mTup, mLst, mStrM, mSl, mNoP, mPart, mCall_eq, callR_ok, retR_ok, retR_er, retR_no, toCell, callMd, clA, ofO, Rs.bind, hAdd, hSub, hMul, hMod, hIx, hLt, hLe, hGt, hGe, hLen, hInt, hStr, itMode, isCl, itCl, okEl, shr, sFor, forL, m__law_mixed, b__law_mixed, b__law_mixed_1, b__law_mixed_2, h1, h2, h3, mixI]
theorem mixI_nn (a k : Int) : 0 ≤ mixI a k := Int.emod_nonneg _ (by decide)
def cellI (ns : List Int) (k : Nat) : Int := match ns[k]? with
  | some a => mixI a k
  | none => 0
theorem cellI_nn (ns : List Int) (k : Nat) : 0 ≤ cellI ns k := by
  unfold cellI
  split
  · exact mixI_nn _ _
  · exact Int.le_refl 0
theorem cell_at_ok {ns : List Int} {m : Md} (hm : m = .fz ∨ m = .cl) (k : Nat) : retR (m__law_cell_at [scrC ns m, .val (.int k)]) = .ok (.int (cellI ns k), .cl) := by
  have key : retR (m__law_cell_at [scrC ns m, .val (.int k)]) = if (k : Int) < (ns.length : Int) then (match atI (ns.map PyData.int) (k : Int) with | some (.int a) => .ok (.int (mixI a k), .cl) | _ => .no) else .ok (.int 0, .cl) := by
    by_cases h : (k : Int) < (ns.length : Int)
    · rw [if_pos h]
      have hk : k < ns.length := by omega
      have e : atI (ns.map PyData.int) (k : Int) = some (.int ns[k]) := atI_nat (by rw [List.getElem?_map, List.getElem?_eq_getElem hk]; rfl)
      rw [e]
      have mx := mixed_ok ns[k] k
      rcases hm with rfl | rfl <;> simp [runB, fin, sSeq, oSeq, sSet, setK, sIf, sRet, sRetOwn, sRetN, sNx, mBin, mVar, mK, mCmp, mVal, mChain, mBool, mAnd, mOr, mNot, mAndV, mOrV, mIf, mNil, mCons, mCallB, mUn, mIsi, mTup, mLst, mStrM, mSl, mNoP, mPart, mCall_eq, callR_ok, retR_ok, retR_er, retR_no, toCell, callMd, clA, ofO, Rs.bind, hAdd, hSub, hMul, hMod, hIx, hLt, hLe, hGt, hGe, hLen, hInt, hStr, itMode, isCl, itCl, okEl, shr, sFor, forL, m__law_cell_at, b__law_cell_at, b__law_cell_at_1, b__law_cell_at_1_1, b__law_cell_at_2, scrC, h, e, lf, mx]
    · rw [if_neg h]
      rcases hm with rfl | rfl <;> simp [runB, fin, sSeq, oSeq, sSet, setK, sIf, sRet, sRetOwn, sRetN, sNx, mBin, mVar, mK, mCmp, mVal, mChain, mBool, mAnd, mOr, mNot, mAndV, mOrV, mIf, mNil, mCons, mCallB, mUn, mIsi, mTup, mLst, mStrM, mSl, mNoP, mPart, mCall_eq, callR_ok, retR_ok, retR_er, retR_no, toCell, callMd, clA, ofO, Rs.bind, hAdd, hSub, hMul, hMod, hIx, hLt, hLe, hGt, hGe, hLen, hInt, hStr, itMode, isCl, itCl, okEl, shr, sFor, forL, m__law_cell_at, b__law_cell_at, b__law_cell_at_1, b__law_cell_at_1_1, b__law_cell_at_2, scrC, h]
  rw [key]
  by_cases h : (k : Int) < (ns.length : Int)
  · rw [if_pos h]
    have hk : k < ns.length := by omega
    have e : atI (ns.map PyData.int) (k : Int) = some (.int ns[k]) := atI_nat (by rw [List.getElem?_map, List.getElem?_eq_getElem hk]; rfl)
    rw [e]
    unfold cellI
    rw [List.getElem?_eq_getElem hk]
  · rw [if_neg h]
    unfold cellI
    rw [List.getElem?_eq_none (show _ by omega)]
/-! signs -/
def legal : List Nat := ("!\"#$&'*+,-./0123456789:<=>?@ABCDEFGHIJKLMNOPQRSTUVWXYZ[\\]^_`" ++ "abcdefghijklmnopqrstuvwxyz{|}~" : Str).cps.toList
theorem legal_len : legal.length = 90 := by decide +kernel
theorem legal_in : legal.all (inB "();") = true := by decide +kernel
def signN (c : Int) : Nat := legal.getD (c % 90).toNat 33
theorem signN_in (c : Int) : inB "();" (signN c) = true := by
  have p1 := Int.emod_nonneg c (show (90 : Int) ≠ 0 by decide)
  have p2 := Int.emod_lt_of_pos c (show (0 : Int) < 90 by decide)
  have h : (c % 90).toNat < legal.length := by rw [legal_len]; omega
  unfold signN
  rw [List.getD_eq_getElem?_getD, List.getElem?_eq_getElem h]
  exact List.all_eq_true.mp legal_in _ (List.getElem_mem h)
theorem sign_ok (c : Int) : retR (m__law_sign_by [.val (.int c)]) = .ok (.str (tS0 [signN c]), .cl) := by
  have p1 := Int.emod_nonneg c (show (90 : Int) ≠ 0 by decide)
  have p2 := Int.emod_lt_of_pos c (show (0 : Int) < 90 by decide)
  have h : (c % 90).toNat < legal.length := by rw [legal_len]; omega
  have e : atI legal (c % 90) = some (signN c) := by
    have e1 : c % 90 = (((c % 90).toNat : Nat) : Int) := by omega
    rw [e1]
    refine atI_nat ?_
    unfold signN
    rw [List.getD_eq_getElem?_getD, List.getElem?_eq_getElem h]
    rfl
  have z1 : ("!\"#$&'*+,-./0123456789:<=>?@ABCDEFGHIJKLMNOPQRSTUVWXYZ[\\]^_`" : Str).length + ("abcdefghijklmnopqrstuvwxyz{|}~" : Str).length ≤ sizeLine := by decide +kernel
  have z2 : ("!\"#$&'*+,-./0123456789:<=>?@ABCDEFGHIJKLMNOPQRSTUVWXYZ[\\]^_`" ++ "abcdefghijklmnopqrstuvwxyz{|}~" : Str).length ≤ sizeLine := by decide +kernel
  have e' : atI ("!\"#$&'*+,-./0123456789:<=>?@ABCDEFGHIJKLMNOPQRSTUVWXYZ[\\]^_`" ++ "abcdefghijklmnopqrstuvwxyz{|}~" : Str).cps.toList (c % 90) = some (signN c) := e
  simp [runB, fin, sSeq, oSeq, sSet, setK, sIf, sRet, sRetOwn, sRetN, sNx, mBin, mVar, mK, mCmp, mVal, mChain, mBool, mAnd, mOr, mNot, mAndV, mOrV, mIf, mNil, mCons, mCallB, mUn, mIsi, mTup, mLst, mStrM, mSl, mNoP, mPart, mCall_eq, callR_ok, retR_ok, retR_er, retR_no, toCell, callMd, clA, ofO, Rs.bind, hAdd, hSub, hMul, hMod, hIx, hLt, hLe, hGt, hGe, hLen, hInt, hStr, itMode, isCl, itCl, okEl, shr, sFor, forL, m__law_sign_by, b__law_sign_by, b__law_sign_by_1, b__law_sign_by_2, b__law_sign_by_3, z1, z2, e']
  rfl
/-! slices of texts -/
theorem cut_take (l : List Nat) (n : Nat) : cutS (tS0 l) none (some (n : Int)) = tS0 (l.take n) := by
  unfold cutS
  rw [HT.sIx_none, HT.sIx_nat, tS0_l]
  show tS0 _ = tS0 _
  rw [tS0_len, List.drop_zero, Nat.sub_zero]
  congr 1
  by_cases h : n ≤ l.length
  · rw [Nat.min_eq_left h]
  · (rw [Nat.min_eq_right (by omega), List.take_of_length_le (Nat.le_refl _), List.take_of_length_le (by omega)])
theorem cut_drop (l : List Nat) (n : Nat) : cutS (tS0 l) (some (n : Int)) none = tS0 (l.drop n) := by
  unfold cutS
  rw [HT.sIx_none, HT.sIx_nat, tS0_l]
  show tS0 _ = tS0 _
  rw [tS0_len]
  congr 1
  by_cases h : n ≤ l.length
  · rw [Nat.min_eq_left h, List.take_of_length_le (by rw [List.length_drop]; omega)]
  · rw [Nat.min_eq_right (by omega), List.drop_of_length_le (Nat.le_refl _), List.drop_of_length_le (by omega), List.take_nil]
theorem cut_mid (l : List Nat) (n k : Nat) : ∃ r : List Nat, cutS (tS0 l) (some (n : Int)) (some (k : Int)) = tS0 r ∧ r.length ≤ k - n ∧ r.length ≤ l.length - n ∧ (∀ x ∈ r, x ∈ l) ∧ (n ≤ l.length → k ≤ l.length → r.length = k - n) := by
  refine ⟨(l.drop (min n l.length)).take (min k l.length - min n l.length), ?_, ?_, ?_, ?_, ?_⟩
  · unfold cutS
    rw [HT.sIx_nat, HT.sIx_nat, tS0_l, tS0_len]
    rfl
  · rw [List.length_take, List.length_drop]; omega
  · rw [List.length_take, List.length_drop]; omega
  · intro x hx
    exact List.mem_of_mem_drop (List.mem_of_mem_take hx)
  · intro h1 h2
    rw [List.length_take, List.length_drop]; omega
/-! a word -/
def wordOk (l : List Nat) : Prop := 1 ≤ l.length ∧ l.length ≤ 8 ∧ l.all (inB "();") = true ∧ tS0 l ≠ "tell"
theorem hSl_to {l r : List Nat} {lo hi : Option Int} (h : l.length ≤ 1000) (e : cutS (tS0 l) lo hi = tS0 r) : hSl (.str (tS0 l), .cl) lo hi = some (.str (tS0 r), .cl) := by
  unfold hSl
  dsimp only
  rw [if_pos (le_line (by rw [tS0_len]; exact h)), e]
theorem hAdd_str {a b : List Nat} (h : a.length + b.length ≤ 1000) : hAdd (.str (tS0 a), .cl) (.str (tS0 b), .cl) = some (.str (tS0 (a ++ b)), .cl) := by
  unfold hAdd
  dsimp only
  rw [if_pos (le_line (by rw [tS0_len, tS0_len]; exact h)), tS0_append]
theorem hEq_str (a b : Str) (m m2 : Md) : hEq (.str a, m) (.str b, m2) = some (decide (a = b)) := rfl
theorem hEq_int (a b : Int) (m m2 : Md) : hEq (.int a, m) (.int b, m2) = some (decide (a = b)) := rfl
/-- a word's base: eight signs -/
def baseN (c : Int) (j : Nat) : Nat := signN ((c / 12960 + (j : Int) * 977) * 48271 % 7919)
def baseL (c : Int) : List Nat := (List.range 8).map (baseN c)
theorem flat_ones (f : Nat → Nat) : ∀ l : List Nat, (l.map fun k => [f k]).flatten = l.map f
  | [] => rfl
  | _ :: r => by
    have := flat_ones f r
    simp only [List.map_cons, List.flatten_cons, List.singleton_append, this]
theorem sum_ones (f : Nat → Nat) : ∀ l : List Nat, ((l.map fun k => [f k]).map (·.length)).sum = l.length
  | [] => rfl
  | _ :: r => by
    have := sum_ones f r
    simp only [List.map_cons, List.sum_cons, List.length_cons, List.length_nil] at this ⊢
    omega
theorem W1 {c k : Int} {x d e f g h : Cell} : b__law_word_by_1 [.val (.int c), .val (.int k), x, d, e, f, g, h] = .nx [.val (.int c), .val (.int k), .val (.str (tS0 (baseL c))), d, e, f, g, h] := by
  have hr : mRange1 (mCons (mK (.int 8)) mNil) [.val (.int c), .val (.int k), x, d, e, f, g, h] = .ok (rangeD 0 8) := mRange1_ok (m := .cl) rfl (by omega)
  have hl := mLc_ok (i := 7) (el := mCall m__law_sign_by (mCons (mBin hMod (mBin hMul (mBin hAdd (mBin hDiv (mVar 0) (mK (.int 12960))) (mBin hMul (mVar 7) (mK (.int 977)))) (mK (.int 48271))) (mK (.int 7919))) (mNil)))
    (g := fun d => match d with | .int i => .str (tS0 [baseN c i.toNat]) | _ => .none) hr (by rw [rangeD_len]; omega) (fun x hx => by
      obtain ⟨j, hj, rfl⟩ := mem_range0 hx
      have sg := sign_ok ((c / 12960 + (j : Int) * 977) * 48271 % 7919)
      refine ⟨.cl, ?_, rfl⟩
      have ea : mCons (mBin hMod (mBin hMul (mBin hAdd (mBin hDiv (mVar 0) (mK (.int 12960))) (mBin hMul (mVar 7) (mK (.int 977)))) (mK (.int 48271))) (mK (.int 7919))) mNil (([Cell.val (.int c), .val (.int k), x, d, e, f, g, h].set 7 .un).set 7 (.val (.int (j : Int)))) = .ok [(.int ((c / 12960 + (j : Int) * 977) * 48271 % 7919), .cl)] :=
        mCons_ok (mBin_ok (mBin_ok (mBin_ok (mBin_ok (x := (.int c, .cl)) rfl mK_ok (hDiv_big (by omega))) (mBin_ok (x := (.int (j : Int), .cl)) rfl mK_ok (hMul_int (mulOk_r (by omega)))) hAdd_int) mK_ok (hMul_int (mulOk_r (by omega)))) mK_ok (hMod_ok (by omega))) mNil_ok
      exact (mCall_ok ea sg).trans rfl)
  have ej : ((rangeD 0 8).map fun d => match d with | .int i => PyData.str (tS0 [baseN c i.toNat]) | _ => .none) = ((List.range 8).map fun k => [baseN c k]).map fun y => PyData.str (tS0 y) := by
    rw [range0_map, List.map_map]
    exact List.map_congr_left fun k _ => rfl
  have es : (((List.range 8).map fun k => [baseN c k]).map (·.length)).sum ≤ 1000 := by
    rw [sum_ones, List.length_range]
    omega
  have hj := hJoin_ok (m := .fr) es
  rw [← ej, flat_ones] at hj
  unfold b__law_word_by_1
  have h2 := mUn_ok (h := hJoin "") hl hj
  refine (sSet_ok (x := (.str (tS0 (baseL c)), .cl)) ?_).trans rfl
  refine (mStrM_ok (a := "") (m := .cl) rfl).trans ?_
  exact h2
theorem tell_eq : ("tell" : Str) = tS0 [116, 101, 108, 108] := by decide +kernel
theorem baseN_in (c : Int) (j : Nat) : inB "();" (baseN c j) = true := signN_in _
theorem W2 {c k : Int} {d e f g h : Cell} : ∃ l1 : List Nat, l1.length = 8 ∧ l1.all (inB "();") = true ∧ tS0 (l1.take 4) ≠ "tell" ∧
    b__law_word_by_2 [.val (.int c), .val (.int k), .val (.str (tS0 (baseL c))), d, e, f, g, h] = .nx [.val (.int c), .val (.int k), .val (.str (tS0 l1)), d, e, f, g, h] := by
  have e0 : baseL c = [baseN c 0, baseN c 1, baseN c 2, baseN c 3, baseN c 4, baseN c 5, baseN c 6, baseN c 7] := rfl
  have al : (baseL c).all (inB "();") = true := by
    rw [e0]
    simp only [List.all_cons, List.all_nil, baseN_in, Bool.and_self]
  have t0 : mCmp hEq (mSl (mVar 2) (mNoP) (mPart (mK (.int 4)))) (mK (.str "tell")) [.val (.int c), .val (.int k), .val (.str (tS0 (baseL c))), d, e, f, g, h] = .ok (decide (tS0 ((baseL c).take 4) = "tell")) :=
    mCmp_ok (mSl_ok (x := (.str (tS0 (baseL c)), .cl)) rfl mNoP_ok (mPart_ok mK_ok) (hSl_to (by rw [e0]; simp [runB, fin, sSeq, oSeq, sSet, setK, sIf, sRet, sRetOwn, sRetN, sNx, mBin, mVar, mK, mCmp, mVal, mChain, mBool, mAnd, mOr, mNot, mAndV, mOrV, mIf, mNil, mCons, mCallB, mUn, mIsi, mTup, mLst, mStrM, mSl, mNoP, mPart, mCall_eq, callR_ok, retR_ok, retR_er, retR_no, toCell, callMd, clA, ofO, Rs.bind, hAdd, hSub, hMul, hMod, hIx, hLt, hLe, hGt, hGe, hLen, hInt, hStr, itMode, isCl, itCl, okEl, shr, sFor, forL]) (cut_take _ 4))) mK_ok (hEq_str _ _ _ _)
  by_cases h4 : tS0 ((baseL c).take 4) = "tell"
  · refine ⟨(baseL c).take 3 ++ [109] ++ (baseL c).drop 4, by rw [e0]; rfl, ?_, ?_, ?_⟩
    · rw [e0]
      simp only [List.take_succ_cons, List.take_zero, List.drop_succ_cons, List.drop_zero, List.cons_append, List.nil_append, List.all_cons, List.all_nil, baseN_in, Bool.and_self, Bool.true_and]
      decide +kernel
    · rw [e0, tell_eq, Ne, tS0_eq]
      intro z
      simp [runB, fin, sSeq, oSeq, sSet, setK, sIf, sRet, sRetOwn, sRetN, sNx, mBin, mVar, mK, mCmp, mVal, mChain, mBool, mAnd, mOr, mNot, mAndV, mOrV, mIf, mNil, mCons, mCallB, mUn, mIsi, mTup, mLst, mStrM, mSl, mNoP, mPart, mCall_eq, callR_ok, retR_ok, retR_er, retR_no, toCell, callMd, clA, ofO, Rs.bind, hAdd, hSub, hMul, hMod, hIx, hLt, hLe, hGt, hGe, hLen, hInt, hStr, itMode, isCl, itCl, okEl, shr, sFor, forL] at z
    · have b1 : b__law_word_by_2_1 [.val (.int c), .val (.int k), .val (.str (tS0 (baseL c))), d, e, f, g, h] = .nx [.val (.int c), .val (.int k), .val (.str (tS0 ((baseL c).take 3 ++ [109] ++ (baseL c).drop 4))), d, e, f, g, h] := by
        unfold b__law_word_by_2_1
        have em : ("m" : Str) = tS0 [109] := by decide +kernel
        rw [em]
        refine (sSet_ok (x := (.str (tS0 ((baseL c).take 3 ++ [109] ++ (baseL c).drop 4)), .cl)) (mBin_ok (mBin_ok (mSl_ok (x := (.str (tS0 (baseL c)), .cl)) rfl mNoP_ok (mPart_ok mK_ok) (hSl_to (by rw [e0]; simp [runB, fin, sSeq, oSeq, sSet, setK, sIf, sRet, sRetOwn, sRetN, sNx, mBin, mVar, mK, mCmp, mVal, mChain, mBool, mAnd, mOr, mNot, mAndV, mOrV, mIf, mNil, mCons, mCallB, mUn, mIsi, mTup, mLst, mStrM, mSl, mNoP, mPart, mCall_eq, callR_ok, retR_ok, retR_er, retR_no, toCell, callMd, clA, ofO, Rs.bind, hAdd, hSub, hMul, hMod, hIx, hLt, hLe, hGt, hGe, hLen, hInt, hStr, itMode, isCl, itCl, okEl, shr, sFor, forL]) (cut_take _ 3))) mK_ok (hAdd_str (by rw [e0]; simp [runB, fin, sSeq, oSeq, sSet, setK, sIf, sRet, sRetOwn, sRetN, sNx, mBin, mVar, mK, mCmp, mVal, mChain, mBool, mAnd, mOr, mNot, mAndV, mOrV, mIf, mNil, mCons, mCallB, mUn, mIsi, mTup, mLst, mStrM, mSl, mNoP, mPart, mCall_eq, callR_ok, retR_ok, retR_er, retR_no, toCell, callMd, clA, ofO, Rs.bind, hAdd, hSub, hMul, hMod, hIx, hLt, hLe, hGt, hGe, hLen, hInt, hStr, itMode, isCl, itCl, okEl, shr, sFor, forL]))) (mSl_ok (x := (.str (tS0 (baseL c)), .cl)) rfl (mPart_ok mK_ok) mNoP_ok (hSl_to (by rw [e0]; simp [runB, fin, sSeq, oSeq, sSet, setK, sIf, sRet, sRetOwn, sRetN, sNx, mBin, mVar, mK, mCmp, mVal, mChain, mBool, mAnd, mOr, mNot, mAndV, mOrV, mIf, mNil, mCons, mCallB, mUn, mIsi, mTup, mLst, mStrM, mSl, mNoP, mPart, mCall_eq, callR_ok, retR_ok, retR_er, retR_no, toCell, callMd, clA, ofO, Rs.bind, hAdd, hSub, hMul, hMod, hIx, hLt, hLe, hGt, hGe, hLen, hInt, hStr, itMode, isCl, itCl, okEl, shr, sFor, forL]) (cut_drop _ 4))) (hAdd_str (by rw [e0]; simp [runB, fin, sSeq, oSeq, sSet, setK, sIf, sRet, sRetOwn, sRetN, sNx, mBin, mVar, mK, mCmp, mVal, mChain, mBool, mAnd, mOr, mNot, mAndV, mOrV, mIf, mNil, mCons, mCallB, mUn, mIsi, mTup, mLst, mStrM, mSl, mNoP, mPart, mCall_eq, callR_ok, retR_ok, retR_er, retR_no, toCell, callMd, clA, ofO, Rs.bind, hAdd, hSub, hMul, hMod, hIx, hLt, hLe, hGt, hGe, hLen, hInt, hStr, itMode, isCl, itCl, okEl, shr, sFor, forL])))).trans rfl
      unfold b__law_word_by_2
      rw [sIf_ok t0, if_pos (by simpa using h4), b1]
  · refine ⟨baseL c, by rw [e0]; rfl, al, h4, ?_⟩
    unfold b__law_word_by_2
    rw [sIf_ok t0, if_neg (by simpa using h4)]
    rfl
/-- a word's size -/
def zN (c : Int) : Nat := [1, 1, 2, 3, 5, 8].getD (c / 90 % 6).toNat 1
theorem W3 {c k : Int} {b d e f g h : Cell} : ∃ z : Nat, zN c = z ∧ 1 ≤ z ∧ z ≤ 8 ∧ b__law_word_by_3 [.val (.int c), .val (.int k), b, d, e, f, g, h] = .nx [.val (.int c), .val (.int k), b, .val (.int (z : Int)), e, f, g, h] := by
  have p1 := Int.emod_nonneg (c / 90) (show (6 : Int) ≠ 0 by decide)
  have p2 := Int.emod_lt_of_pos (c / 90) (show (0 : Int) < 6 by decide)
  have go : ∀ (z : Nat), zN c = z → hIx (.list [.int 1, .int 1, .int 2, .int 3, .int 5, .int 8], .fr) (.int (c / 90 % 6), .cl) = some (.int (z : Int), .cl) → 1 ≤ z → z ≤ 8 → ∃ z : Nat, zN c = z ∧ 1 ≤ z ∧ z ≤ 8 ∧ b__law_word_by_3 [.val (.int c), .val (.int k), b, d, e, f, g, h] = .nx [.val (.int c), .val (.int k), b, .val (.int (z : Int)), e, f, g, h] := fun z hn hz z1 z2 => by
    refine ⟨z, hn, z1, z2, ?_⟩
    unfold b__law_word_by_3
    exact (sSet_ok (x := (.int (z : Int), .cl)) (mBin_ok (x := (.list [.int 1, .int 1, .int 2, .int 3, .int 5, .int 8], .fr)) rfl (mBin_ok (mBin_ok (x := (.int c, .cl)) rfl mK_ok (hDiv_big (by omega))) mK_ok (hMod_ok (by omega))) hz)).trans rfl
  have hc : c / 90 % 6 = 0 ∨ c / 90 % 6 = 1 ∨ c / 90 % 6 = 2 ∨ c / 90 % 6 = 3 ∨ c / 90 % 6 = 4 ∨ c / 90 % 6 = 5 := by omega
  rcases hc with hc | hc | hc | hc | hc | hc
  · exact go 1 (by unfold zN; rw [hc]; rfl) (by rw [hc]; rfl) (by omega) (by omega)
  · exact go 1 (by unfold zN; rw [hc]; rfl) (by rw [hc]; rfl) (by omega) (by omega)
  · exact go 2 (by unfold zN; rw [hc]; rfl) (by rw [hc]; rfl) (by omega) (by omega)
  · exact go 3 (by unfold zN; rw [hc]; rfl) (by rw [hc]; rfl) (by omega) (by omega)
  · exact go 5 (by unfold zN; rw [hc]; rfl) (by rw [hc]; rfl) (by omega) (by omega)
  · exact go 8 (by unfold zN; rw [hc]; rfl) (by rw [hc]; rfl) (by omega) (by omega)
theorem W45 {c k : Int} {b e f g h : Cell} {z : Nat} (z1 : 1 ≤ z) : ∃ a y : Nat, a = (c / 1620 % (z : Int)).toNat ∧ (y : Int) = c / 540 % 3 ∧ a < z ∧ y < 3 ∧ b__law_word_by_4 [.val (.int c), .val (.int k), b, .val (.int (z : Int)), e, f, g, h] = .nx [.val (.int c), .val (.int k), b, .val (.int (z : Int)), .val (.int (a : Int)), f, g, h] ∧
    b__law_word_by_5 [.val (.int c), .val (.int k), b, .val (.int (z : Int)), .val (.int (a : Int)), f, g, h] = .nx [.val (.int c), .val (.int k), b, .val (.int (z : Int)), .val (.int (a : Int)), .val (.int (y : Int)), g, h] := by
  have p1 := Int.emod_nonneg (c / 1620) (show (z : Int) ≠ 0 by omega)
  have p2 := Int.emod_lt_of_pos (c / 1620) (show (0 : Int) < z by omega)
  have q1 := Int.emod_nonneg (c / 540) (show (3 : Int) ≠ 0 by decide)
  have q2 := Int.emod_lt_of_pos (c / 540) (show (0 : Int) < 3 by decide)
  refine ⟨(c / 1620 % z).toNat, (c / 540 % 3).toNat, rfl, Int.toNat_of_nonneg q1, by omega, by omega, ?_, ?_⟩
  · rw [Int.toNat_of_nonneg p1]
    unfold b__law_word_by_4
    exact (sSet_ok (x := (.int (c / 1620 % z), .cl)) (mBin_ok (mBin_ok (x := (.int c, .cl)) rfl mK_ok (hDiv_big (by omega))) (y := (.int (z : Int), .cl)) rfl (hMod_ok (by omega)))).trans rfl
  · rw [Int.toNat_of_nonneg p1, Int.toNat_of_nonneg q1]
    unfold b__law_word_by_5
    exact (sSet_ok (x := (.int (c / 540 % 3), .cl)) (mBin_ok (mBin_ok (x := (.int c, .cl)) rfl mK_ok (hDiv_big (by omega))) mK_ok (hMod_ok (by omega)))).trans rfl
theorem legal_inj : ∀ i < 90, ∀ j < 90, legal.getD i 33 = legal.getD j 33 → i = j := by decide +kernel
theorem sign_ne {c k : Int} (h0 : 0 ≤ k) (h1 : k < 8) : signN (c + 8) ≠ signN (c + k) := by
  intro z
  have p1 := Int.emod_nonneg (c + 8) (show (90 : Int) ≠ 0 by decide)
  have p2 := Int.emod_lt_of_pos (c + 8) (show (0 : Int) < 90 by decide)
  have p3 := Int.emod_nonneg (c + k) (show (90 : Int) ≠ 0 by decide)
  have p4 := Int.emod_lt_of_pos (c + k) (show (0 : Int) < 90 by decide)
  have := legal_inj _ (show ((c + 8) % 90).toNat < 90 by omega) _ (show ((c + k) % 90).toNat < 90 by omega) z
  omega
theorem all_take {l : List Nat} {n : Nat} (h : l.all (inB "();") = true) : (l.take n).all (inB "();") = true := by
  rw [List.all_eq_true] at h ⊢
  exact fun x hx => h x (List.mem_of_mem_take hx)
/-- what tells the eight words apart -/
def Tag (c : Int) (k : Nat) (l : List Nat) : Prop :=
  (c / 540 % 3 = 0 ∧ l.length = k + 1) ∨
  (c / 540 % 3 = 1 ∧ ∃ e : Nat, l[(c / 1620 % (zN c : Int)).toNat]? = some (signN (c + e)) ∧ (e = k ∨ (e = 8 ∧ [116, 101, 108, 108][(c / 1620 % (zN c : Int)).toNat]? = some (signN (c + k))))) ∨
  (c / 540 % 3 = 2 ∧ l[0]? = some (signN (c + k)))
theorem sign_inj {c : Int} {i j : Nat} (hi : i ≤ 8) (hj : j ≤ 8) (z : signN (c + i) = signN (c + j)) : i = j := by
  have p1 := Int.emod_nonneg (c + i) (show (90 : Int) ≠ 0 by decide)
  have p2 := Int.emod_lt_of_pos (c + i) (show (0 : Int) < 90 by decide)
  have p3 := Int.emod_nonneg (c + j) (show (90 : Int) ≠ 0 by decide)
  have p4 := Int.emod_lt_of_pos (c + j) (show (0 : Int) < 90 by decide)
  have := legal_inj _ (show ((c + i) % 90).toNat < 90 by omega) _ (show ((c + j) % 90).toNat < 90 by omega) z
  omega
theorem tag_inj {c : Int} {i j : Nat} {l : List Nat} (hi : i < 8) (hj : j < 8) (h1 : Tag c i l) (h2 : Tag c j l) : i = j := by
  rcases h1 with ⟨a1, b1⟩ | ⟨a1, e1, b1, c1⟩ | ⟨a1, b1⟩ <;> rcases h2 with ⟨a2, b2⟩ | ⟨a2, e2, b2, c2⟩ | ⟨a2, b2⟩
  all_goals try omega
  · rw [b1] at b2
    have e12 : signN (c + e1) = signN (c + e2) := Option.some.inj b2
    rcases c1 with c1 | ⟨c1, d1⟩ <;> rcases c2 with c2 | ⟨c2, d2⟩
    · have := sign_inj (by omega) (by omega) e12
      omega
    · have := sign_inj (by omega) (by omega) e12
      omega
    · have := sign_inj (by omega) (by omega) e12
      omega
    · rw [d1] at d2
      exact sign_inj (by omega) (by omega) (Option.some.inj d2)
  · rw [b1] at b2
    exact sign_inj (by omega) (by omega) (Option.some.inj b2)
theorem get_mid {l r : List Nat} {a x : Nat} (h : a ≤ l.length) : (l.take a ++ [x] ++ r)[a]? = some x := by
  have hl : (l.take a).length = a := by rw [List.length_take, Nat.min_eq_left h]
  rw [List.append_assoc, List.getElem?_append_right (by omega), hl, Nat.sub_self]
  rfl
theorem word_ok2 (c : Int) (k : Nat) (hk : k < 8) : ∃ l : List Nat, wordOk l ∧ Tag c k l ∧ retR (m__law_word_by [.val (.int c), .val (.int (k : Int))]) = .ok (.str (tS0 l), .cl) := by
  have run : ∀ {l : List Nat} {ρ : CV}, b__law_word_by [.val (.int c), .val (.int (k : Int)), .un, .un, .un, .un, .un, .un] = .rt (.str (tS0 l)) .cl ρ → retR (m__law_word_by [.val (.int c), .val (.int (k : Int))]) = .ok (.str (tS0 l), .cl) := fun {l ρ} e => by
    unfold m__law_word_by runB
    have e' : b__law_word_by ([Cell.val (.int c), .val (.int (k : Int))] ++ List.replicate (8 - [Cell.val (.int c), .val (.int (k : Int))].length) Cell.un) = .rt (.str (tS0 l)) .cl ρ := e
    rw [e']
    rfl
  obtain ⟨l1, n1, g1, t1, e2⟩ := W2 (c := c) (k := k) (d := .un) (e := .un) (f := .un) (g := .un) (h := .un)
  obtain ⟨z, hz, z1, z2, e3⟩ := W3 (c := c) (k := k) (b := .val (.str (tS0 l1))) (d := .un) (e := .un) (f := .un) (g := .un) (h := .un)
  obtain ⟨a, y, ea0, ey0, ha, hy, e4, e5⟩ := W45 (c := c) (k := k) (b := .val (.str (tS0 l1))) (e := .un) (f := .un) (g := .un) (h := .un) (z := z) z1
  have start : b__law_word_by [.val (.int c), .val (.int (k : Int)), .un, .un, .un, .un, .un, .un] = sSeq b__law_word_by_6 (sSeq b__law_word_by_7 (sSeq b__law_word_by_8 (sSeq b__law_word_by_9 b__law_word_by_10))) [.val (.int c), .val (.int (k : Int)), .val (.str (tS0 l1)), .val (.int (z : Int)), .val (.int (a : Int)), .val (.int (y : Int)), .un, .un] := by
    unfold b__law_word_by
    rw [sSeq_nx W1, sSeq_nx e2, sSeq_nx e3, sSeq_nx e4, sSeq_nx e5]
  generalize hρ : [Cell.val (.int c), .val (.int (k : Int)), .val (.str (tS0 l1)), .val (.int (z : Int)), .val (.int (a : Int)), .val (.int (y : Int)), .un, .un] = ρ at start
  have v0 : mVar 0 ρ = .ok (.int c, .cl) := by rw [← hρ]; rfl
  have v1 : mVar 1 ρ = .ok (.int (k : Int), .cl) := by rw [← hρ]; rfl
  have v2 : mVar 2 ρ = .ok (.str (tS0 l1), .cl) := by rw [← hρ]; rfl
  have v3 : mVar 3 ρ = .ok (.int (z : Int), .cl) := by rw [← hρ]; rfl
  have v4 : mVar 4 ρ = .ok (.int (a : Int), .cl) := by rw [← hρ]; rfl
  have v5 : mVar 5 ρ = .ok (.int (y : Int), .cl) := by rw [← hρ]; rfl
  have sgn : ∀ i : Int, retR (m__law_sign_by ([(PyData.int i, Md.cl)].map toCell)) = .ok (.str (tS0 [signN i]), .cl) := fun i => sign_ok i
  have l1000 : l1.length ≤ 1000 := by omega
  have c6 : mCmp hEq (mVar 5) (mK (.int 0)) ρ = .ok (decide ((y : Int) = 0)) := mCmp_ok v5 mK_ok (hEq_int _ _ _ _)
  have c1 : mCmp hEq (mVar 5) (mK (.int 1)) ρ = .ok (decide ((y : Int) = 1)) := mCmp_ok v5 mK_ok (hEq_int _ _ _ _)
  by_cases y0 : y = 0
  · refine ⟨l1.take (k + 1), ⟨by rw [List.length_take]; omega, by rw [List.length_take]; omega, all_take g1, fun ht => ?_⟩, .inl ⟨by rw [← ey0, y0]; rfl, by rw [List.length_take]; omega⟩, run (ρ := ρ) ?_⟩
    · have hl : (l1.take (k + 1)).length = 4 := by
        rw [tell_eq, tS0_eq] at ht
        rw [ht]
        rfl
      rw [List.length_take] at hl
      have : k + 1 = 4 := by omega
      rw [this] at ht
      exact t1 ht
    · rw [start]
      refine sSeq_rt ?_
      unfold b__law_word_by_6
      rw [sIf_ok c6, if_pos (by simp [runB, fin, sSeq, oSeq, sSet, setK, sIf, sRet, sRetOwn, sRetN, sNx, mBin, mVar, mK, mCmp, mVal, mChain, mBool, mAnd, mOr, mNot, mAndV, mOrV, mIf, mNil, mCons, mCallB, mUn, mIsi, mTup, mLst, mStrM, mSl, mNoP, mPart, mCall_eq, callR_ok, retR_ok, retR_er, retR_no, toCell, callMd, clA, ofO, Rs.bind, hAdd, hSub, hMul, hMod, hIx, hLt, hLe, hGt, hGe, hLen, hInt, hStr, itMode, isCl, itCl, okEl, shr, sFor, forL, y0])]
      unfold b__law_word_by_6_1
      refine sRet_ok (mSl_ok v2 mNoP_ok (mPart_ok (mBin_ok v1 mK_ok hAdd_int)) (hSl_to l1000 ?_)) (by simp [runB, fin, sSeq, oSeq, sSet, setK, sIf, sRet, sRetOwn, sRetN, sNx, mBin, mVar, mK, mCmp, mVal, mChain, mBool, mAnd, mOr, mNot, mAndV, mOrV, mIf, mNil, mCons, mCallB, mUn, mIsi, mTup, mLst, mStrM, mSl, mNoP, mPart, mCall_eq, callR_ok, retR_ok, retR_er, retR_no, toCell, callMd, clA, ofO, Rs.bind, hAdd, hSub, hMul, hMod, hIx, hLt, hLe, hGt, hGe, hLen, hInt, hStr, itMode, isCl, itCl, okEl, shr, sFor, forL])
      exact cut_take l1 (k + 1)
  · have s6 : b__law_word_by_6 ρ = .nx ρ := by
      unfold b__law_word_by_6
      rw [sIf_ok c6, if_neg (by simp [runB, fin, sSeq, oSeq, sSet, setK, sIf, sRet, sRetOwn, sRetN, sNx, mBin, mVar, mK, mCmp, mVal, mChain, mBool, mAnd, mOr, mNot, mAndV, mOrV, mIf, mNil, mCons, mCallB, mUn, mIsi, mTup, mLst, mStrM, mSl, mNoP, mPart, mCall_eq, callR_ok, retR_ok, retR_er, retR_no, toCell, callMd, clA, ofO, Rs.bind, hAdd, hSub, hMul, hMod, hIx, hLt, hLe, hGt, hGe, hLen, hInt, hStr, itMode, isCl, itCl, okEl, shr, sFor, forL]; omega)]
      rfl
    rw [sSeq_nx s6] at start
    obtain ⟨r, er, r1, r2, r3, r4⟩ := cut_mid l1 (a + 1) z
    have rl := r4 (by omega) (by omega)
    have rall : r.all (inB "();") = true := by
      rw [List.all_eq_true] at g1 ⊢
      exact fun x hx => g1 x (r3 x hx)
    have mk1 : ∀ (i : Int) (fi : CV → Rs (D × Md)), fi ρ = .ok (.int i, .cl) → mBin hAdd (mBin hAdd (mSl (mVar 2) (mNoP) (mPart (mVar 4))) (mCall m__law_sign_by (mCons fi (mNil)))) (mSl (mVar 2) (mPart (mBin hAdd (mVar 4) (mK (.int 1)))) (mPart (mVar 3))) ρ = .ok (.str (tS0 (l1.take a ++ [signN i] ++ r)), .cl) := fun i fi hi =>
      mBin_ok (mBin_ok (mSl_ok v2 mNoP_ok (mPart_ok v4) (hSl_to l1000 (cut_take l1 a))) ((mCall_ok (mCons_ok hi mNil_ok) (sgn i)).trans rfl) (hAdd_str (by rw [List.length_take, List.length_singleton]; omega))) (mSl_ok v2 (mPart_ok (mBin_ok v4 mK_ok hAdd_int)) (mPart_ok v3) (hSl_to l1000 er)) (hAdd_str (by rw [List.length_append, List.length_take, List.length_singleton]; omega))
    have okw : ∀ i : Int, tS0 (l1.take a ++ [signN i] ++ r) ≠ "tell" → wordOk (l1.take a ++ [signN i] ++ r) := fun i ht => by
      have hlen : (l1.take a ++ [signN i] ++ r).length = min a l1.length + 1 + r.length := by rw [List.length_append, List.length_append, List.length_take, List.length_singleton]
      refine ⟨by omega, by omega, ?_, ht⟩
      rw [List.all_append, List.all_append, all_take g1, rall]
      simp only [List.all_cons, List.all_nil, signN_in, Bool.and_self]
    by_cases y1 : y = 1
    · by_cases ht : tS0 (l1.take a ++ [signN (c + k)] ++ r) = "tell"
      · refine ⟨l1.take a ++ [signN (c + 8)] ++ r, okw _ fun z8 => ?_, .inr (.inl ⟨by rw [← ey0, y1]; rfl, 8, by rw [hz, ← ea0]; exact get_mid (by omega), .inr ⟨rfl, ?_⟩⟩), run (ρ := ρ) ?_⟩
        · have := z8.trans ht.symm
          rw [tS0_eq] at this
          have h3 := List.append_cancel_right this
          have h4 := List.append_cancel_left h3
          exact sign_ne (c := c) (k := (k : Int)) (by omega) (by omega) (List.cons.inj h4).1
        · rw [tell_eq, tS0_eq] at ht
          rw [hz, ← ea0, ← ht]
          exact get_mid (by omega)
        · rw [start]
          refine sSeq_rt ?_
          unfold b__law_word_by_7
          rw [sIf_ok (mAnd_ok c1 fun _ => mCmp_ok (mk1 (c + k) _ (mBin_ok v0 v1 hAdd_int)) mK_ok (hEq_str _ _ _ _)), if_pos (by rw [Bool.and_eq_true]; exact ⟨decide_eq_true (by omega), decide_eq_true ht⟩)]
          unfold b__law_word_by_7_1
          exact sRet_ok (mk1 (c + 8) _ (mBin_ok v0 mK_ok hAdd_int)) (by simp [runB, fin, sSeq, oSeq, sSet, setK, sIf, sRet, sRetOwn, sRetN, sNx, mBin, mVar, mK, mCmp, mVal, mChain, mBool, mAnd, mOr, mNot, mAndV, mOrV, mIf, mNil, mCons, mCallB, mUn, mIsi, mTup, mLst, mStrM, mSl, mNoP, mPart, mCall_eq, callR_ok, retR_ok, retR_er, retR_no, toCell, callMd, clA, ofO, Rs.bind, hAdd, hSub, hMul, hMod, hIx, hLt, hLe, hGt, hGe, hLen, hInt, hStr, itMode, isCl, itCl, okEl, shr, sFor, forL])
      · refine ⟨l1.take a ++ [signN (c + k)] ++ r, okw _ ht, .inr (.inl ⟨by rw [← ey0, y1]; rfl, k, by rw [hz, ← ea0]; exact get_mid (by omega), .inl rfl⟩), run (ρ := ρ) ?_⟩
        have s7 : b__law_word_by_7 ρ = .nx ρ := by
          unfold b__law_word_by_7
          rw [sIf_ok (mAnd_ok c1 fun _ => mCmp_ok (mk1 (c + k) _ (mBin_ok v0 v1 hAdd_int)) mK_ok (hEq_str _ _ _ _)), if_neg (by simp only [Bool.and_eq_true, decide_eq_true_eq]; exact fun z => ht z.2)]
          rfl
        rw [start, sSeq_nx s7]
        refine sSeq_rt ?_
        unfold b__law_word_by_8
        rw [sIf_ok c1, if_pos (by simp [runB, fin, sSeq, oSeq, sSet, setK, sIf, sRet, sRetOwn, sRetN, sNx, mBin, mVar, mK, mCmp, mVal, mChain, mBool, mAnd, mOr, mNot, mAndV, mOrV, mIf, mNil, mCons, mCallB, mUn, mIsi, mTup, mLst, mStrM, mSl, mNoP, mPart, mCall_eq, callR_ok, retR_ok, retR_er, retR_no, toCell, callMd, clA, ofO, Rs.bind, hAdd, hSub, hMul, hMod, hIx, hLt, hLe, hGt, hGe, hLen, hInt, hStr, itMode, isCl, itCl, okEl, shr, sFor, forL, y1])]
        unfold b__law_word_by_8_1
        exact sRet_ok (mk1 (c + k) _ (mBin_ok v0 v1 hAdd_int)) (by simp [runB, fin, sSeq, oSeq, sSet, setK, sIf, sRet, sRetOwn, sRetN, sNx, mBin, mVar, mK, mCmp, mVal, mChain, mBool, mAnd, mOr, mNot, mAndV, mOrV, mIf, mNil, mCons, mCallB, mUn, mIsi, mTup, mLst, mStrM, mSl, mNoP, mPart, mCall_eq, callR_ok, retR_ok, retR_er, retR_no, toCell, callMd, clA, ofO, Rs.bind, hAdd, hSub, hMul, hMod, hIx, hLt, hLe, hGt, hGe, hLen, hInt, hStr, itMode, isCl, itCl, okEl, shr, sFor, forL])
    · have s7 : b__law_word_by_7 ρ = .nx ρ := by
        unfold b__law_word_by_7
        rw [sIf_ok (mAnd_ok (b := false) c1 fun z => absurd (of_decide_eq_true z) (by omega)), Bool.and_false, if_neg Bool.false_ne_true]
        rfl
      have s8 : b__law_word_by_8 ρ = .nx ρ := by
        unfold b__law_word_by_8
        rw [sIf_ok c1, if_neg (fun z => absurd (of_decide_eq_true z) (by omega))]
        rfl
      rw [sSeq_nx s7, sSeq_nx s8] at start
      obtain ⟨q, eq, q1, q2, q3, _⟩ := cut_mid l1 k (k + (z + k) % 8)
      have ek : ((k + (z + k) % 8 : Nat) : Int) = (k : Int) + ((z : Int) + (k : Int)) % 8 := by omega
      rw [ek] at eq
      have qall : q.all (inB "();") = true := by
        rw [List.all_eq_true] at g1 ⊢
        exact fun x hx => g1 x (q3 x hx)
      have s9 : b__law_word_by_9 ρ = .nx (ρ.set 6 (.val (.str (tS0 ([signN (c + k)] ++ q))))) := by
        unfold b__law_word_by_9
        exact (sSet_ok (mBin_ok ((mCall_ok (mCons_ok (mBin_ok v0 v1 hAdd_int) mNil_ok) (sgn _)).trans rfl) (mSl_ok v2 (mPart_ok v1) (mPart_ok (mBin_ok v1 (mBin_ok (mBin_ok v3 v1 hAdd_int) mK_ok (hMod_ok (by omega))) hAdd_int)) (hSl_to l1000 eq)) (hAdd_str (by rw [List.length_singleton]; omega)))).trans rfl
      rw [sSeq_nx s9] at start
      have ln : ρ.length = 8 := by rw [← hρ]; rfl
      generalize hw : [signN (c + k)] ++ q = w at start
      have g6 : (ρ.set 6 (.val (.str (tS0 w))))[6]? = some (.val (.str (tS0 w))) := List.getElem?_set_self (by omega)
      have v6 := mVar_val g6
      have ix : mBin hIx (mLst (mCons (mVar 6) (mCons (mK (.str "t")) (mNil)))) (mCallB hInt (mCons (mVal (mCmp hEq (mVar 6) (mK (.str "tell")))) (mNil))) (ρ.set 6 (.val (.str (tS0 w)))) = .ok (if tS0 w = "tell" then .str "t" else .str (tS0 w), .cl) := by
        refine mBin_ok (mLst_ok (mCons_ok v6 (mCons_ok mK_ok mNil_ok)) ⟨rfl, by show 2 ≤ 1000; omega⟩) (mCallB_ok (mCons_ok (mVal_ok (mCmp_ok v6 mK_ok (hEq_str _ _ _ _))) mNil_ok) (y := (.int (if decide (tS0 w = "tell") then 1 else 0), .cl)) rfl) ?_
        by_cases ht : tS0 w = "tell"
        · rw [if_pos ht, decide_eq_true ht]
          rfl
        · rw [if_neg ht, decide_eq_false ht]
          rfl
      have fin10 : b__law_word_by_10 (ρ.set 6 (.val (.str (tS0 w)))) = .rt (if tS0 w = "tell" then .str "t" else .str (tS0 w)) .cl (ρ.set 6 (.val (.str (tS0 w)))) := by
        unfold b__law_word_by_10
        unfold sShr
        rw [shr_val g6]
        exact sRet_ok ix (by decide)
      by_cases ht : tS0 w = "tell"
      · refine ⟨[116], ⟨by decide, by decide, by decide +kernel, by rw [tell_eq, Ne, tS0_eq]; decide⟩, .inr (.inr ⟨by rw [← ey0]; omega, ?_⟩), run (ρ := ρ.set 6 (.val (.str (tS0 w)))) ?_⟩
        · rw [tell_eq, tS0_eq] at ht
          rw [ht] at hw
          show some 116 = _
          rw [(List.cons.inj hw).1]
        rw [start, fin10, if_pos ht]
        have : ("t" : Str) = tS0 [116] := by decide +kernel
        rw [this]
      · refine ⟨w, ⟨?_, ?_, ?_, ht⟩, .inr (.inr ⟨by rw [← ey0]; omega, by rw [← hw]; rfl⟩), run (ρ := ρ.set 6 (.val (.str (tS0 w)))) ?_⟩
        · rw [← hw, List.length_append, List.length_singleton]; omega
        · rw [← hw, List.length_append, List.length_singleton]; omega
        · rw [← hw, List.all_append, qall]
          simp only [List.all_cons, List.all_nil, signN_in, Bool.and_self]
        · rw [start, fin10, if_neg ht]
theorem word_ok (c : Int) (k : Nat) (hk : k < 8) : ∃ l : List Nat, wordOk l ∧ retR (m__law_word_by [.val (.int c), .val (.int (k : Int))]) = .ok (.str (tS0 l), .cl) :=
  let ⟨l, h1, _, h2⟩ := word_ok2 c k hk
  ⟨l, h1, h2⟩
/-! eight words -/
abbrev strsD (ws : List (List Nat)) : List D := ws.map fun w => PyData.str (tS0 w)
theorem strs_fl (ws : List (List Nat)) : (strsD ws).all flD = true := by
  rw [List.all_map, List.all_eq_true]
  intro w _
  rfl
theorem strs_lfs : ∀ ws : List (List Nat), lfs (strsD ws) = true
  | [] => rfl
  | w :: r => by
    have := strs_lfs r
    show lfs (PyData.str (tS0 w) :: strsD r) = true
    simpa [lfs, lf] using this
theorem hNotIn_strs {w : Str} {ws : List (List Nat)} {m m2 : Md} : ∃ b, hNotIn (.str w, m) (.list (strsD ws), m2) = some b := by
  unfold hNotIn hIn
  dsimp only
  rw [if_pos ⟨rfl, strs_fl ws⟩]
  exact ⟨_, rfl⟩
def specials : List (List Nat) := [[108, 101, 102, 116], [114, 105, 103, 104, 116], [110, 111, 110, 101], [98, 101, 102, 111, 114, 101], [98, 101, 104, 105, 110, 100], [116, 101, 108, 108, 115], [54], [76, 101, 102, 116]]
theorem specials_eq : ([.str "left", .str "right", .str "none", .str "before", .str "behind", .str "tells", .str "6", .str "Left"] : List D) = strsD specials := by
  have e1 : ("left" : Str) = tS0 [108, 101, 102, 116] := by decide +kernel
  have e2 : ("right" : Str) = tS0 [114, 105, 103, 104, 116] := by decide +kernel
  have e3 : ("none" : Str) = tS0 [110, 111, 110, 101] := by decide +kernel
  have e4 : ("before" : Str) = tS0 [98, 101, 102, 111, 114, 101] := by decide +kernel
  have e5 : ("behind" : Str) = tS0 [98, 101, 104, 105, 110, 100] := by decide +kernel
  have e6 : ("tells" : Str) = tS0 [116, 101, 108, 108, 115] := by decide +kernel
  have e7 : ("6" : Str) = tS0 [54] := by decide +kernel
  have e8 : ("Left" : Str) = tS0 [76, 101, 102, 116] := by decide +kernel
  rw [e1, e2, e3, e4, e5, e6, e7, e8]
  rfl
theorem specials_ok : ∀ w ∈ specials, wordOk w := by
  have h : ∀ w ∈ specials, (1 ≤ w.length ∧ w.length ≤ 8 ∧ w.all (inB "();") = true) ∧ w ≠ [116, 101, 108, 108] := by decide +kernel
  intro w hw
  obtain ⟨⟨h1, h2, h3⟩, h4⟩ := h w hw
  exact ⟨h1, h2, h3, by rw [tell_eq, Ne, tS0_eq]; exact h4⟩
theorem hIx_strs {ws : List (List Nat)} {m m2 : Md} {k : Nat} {w : List Nat} (hm : itCl m = true) (e : ws[k]? = some w) : hIx (.list (strsD ws), m) (.int (k : Int), m2) = some (.str (tS0 w), .cl) := by
  have ea : atI (strsD ws) (k : Int) = some (.str (tS0 w)) := atI_nat (by rw [List.getElem?_map, e]; rfl)
  unfold hIx
  dsimp only
  rw [ea]
  unfold itMode
  simp only [Option.map_some]
  rw [if_pos hm]
theorem nodup_set {α : Type} : ∀ {l : List α} {i : Nat} {x : α}, l.Nodup → x ∉ l → (l.set i x).Nodup
  | [], _, _, h, _ => h
  | y :: l, 0, x, h, hx => List.nodup_cons.mpr ⟨fun z => hx (List.mem_cons_of_mem _ z), (List.nodup_cons.mp h).2⟩
  | y :: l, i + 1, x, h, hx => by
    have ⟨h1, h2⟩ := List.nodup_cons.mp h
    refine List.nodup_cons.mpr ⟨fun z => ?_, nodup_set h2 fun z => hx (List.mem_cons_of_mem _ z)⟩
    rcases List.mem_or_eq_of_mem_set z with w | w
    · exact h1 w
    · exact hx (by rw [w]; exact List.mem_cons_self)
theorem notIn_strs {w : List Nat} {ws : List (List Nat)} {m m2 : Md} (h : hNotIn (.str (tS0 w), m) (.list (strsD ws), m2) = some true) : w ∉ ws := by
  intro hw
  unfold hNotIn hIn at h
  dsimp only at h
  rw [if_pos ⟨rfl, strs_fl ws⟩] at h
  have h2 : inF (PyData.str (tS0 w)) (strsD ws) = false := by simpa using h
  have h3 : ∀ l : List (List Nat), w ∈ l → inF (PyData.str (tS0 w)) (strsD l) = true := by
    intro l
    induction l with
    | nil => intro z; simp [runB, fin, sSeq, oSeq, sSet, setK, sIf, sRet, sRetOwn, sRetN, sNx, mBin, mVar, mK, mCmp, mVal, mChain, mBool, mAnd, mOr, mNot, mAndV, mOrV, mIf, mNil, mCons, mCallB, mUn, mIsi, mTup, mLst, mStrM, mSl, mNoP, mPart, mCall_eq, callR_ok, retR_ok, retR_er, retR_no, toCell, callMd, clA, ofO, Rs.bind, hAdd, hSub, hMul, hMod, hIx, hLt, hLe, hGt, hGe, hLen, hInt, hStr, itMode, isCl, itCl, okEl, shr, sFor, forL] at z
    | cons x l ih =>
      intro z
      show (_ || _) = true
      rcases List.mem_cons.mp z with (z | z)
      · rw [z, Bool.or_eq_true]
        left
        show eqF (PyData.str (tS0 x)) (PyData.str (tS0 x)) = true
        unfold eqF
        first | rfl | exact beq_self_eq_true _ | simp [runB, fin, sSeq, oSeq, sSet, setK, sIf, sRet, sRetOwn, sRetN, sNx, mBin, mVar, mK, mCmp, mVal, mChain, mBool, mAnd, mOr, mNot, mAndV, mOrV, mIf, mNil, mCons, mCallB, mUn, mIsi, mTup, mLst, mStrM, mSl, mNoP, mPart, mCall_eq, callR_ok, retR_ok, retR_er, retR_no, toCell, callMd, clA, ofO, Rs.bind, hAdd, hSub, hMul, hMod, hIx, hLt, hLe, hGt, hGe, hLen, hInt, hStr, itMode, isCl, itCl, okEl, shr, sFor, forL, eqS] | simp [runB, fin, sSeq, oSeq, sSet, setK, sIf, sRet, sRetOwn, sRetN, sNx, mBin, mVar, mK, mCmp, mVal, mChain, mBool, mAnd, mOr, mNot, mAndV, mOrV, mIf, mNil, mCons, mCallB, mUn, mIsi, mTup, mLst, mStrM, mSl, mNoP, mPart, mCall_eq, callR_ok, retR_ok, retR_er, retR_no, toCell, callMd, clA, ofO, Rs.bind, hAdd, hSub, hMul, hMod, hIx, hLt, hLe, hGt, hGe, hLen, hInt, hStr, itMode, isCl, itCl, okEl, shr, sFor, forL]
      · rw [Bool.or_eq_true]
        right
        exact ih z
  rw [h3 ws hw] at h2
  cases h2
def WordsOk (ws : List (List Nat)) : Prop := ws.length = 8 ∧ ∀ w ∈ ws, wordOk w
theorem words_ok2 (c : Int) : ∃ ws, WordsOk ws ∧ ws.Nodup ∧ retR (m__law_words_by [.val (.int c)]) = .ok (.list (strsD ws), .ow) := by
  -- the eight
  have hw : ∀ k : Nat, ∃ l : List Nat, k < 8 → (wordOk l ∧ Tag c k l) ∧ retR (m__law_word_by [.val (.int c), .val (.int (k : Int))]) = .ok (.str (tS0 l), .cl) := fun k => by
    by_cases h : k < 8
    · obtain ⟨l, h1, h3, h2⟩ := word_ok2 c k h
      exact ⟨l, fun _ => ⟨⟨h1, h3⟩, h2⟩⟩
    · exact ⟨[], fun z => absurd z h⟩
  obtain ⟨W, hW⟩ := Classical.axiomOfChoice hw
  have s1 : b__law_words_by_1 [.val (.int c), .un, .un, .un, .un] = .nx [.val (.int c), .own (strsD ((List.range 8).map W)), .un, .un, .un] := by
    have hr : mRange1 (mCons (mK (.int 8)) mNil) [.val (.int c), .un, .un, .un, .un] = .ok (rangeD 0 8) := mRange1_ok (m := .cl) rfl (by omega)
    have hl := mLc_ok (i := 3) (el := mCall m__law_word_by (mCons (mVar 0) (mCons (mVar 3) mNil))) (g := fun d => match d with | .int i => .str (tS0 (W i.toNat)) | _ => .none) hr (by rw [rangeD_len]; omega) (fun x hx => by
      obtain ⟨j, hj, rfl⟩ := mem_range0 hx
      refine ⟨.cl, ?_, rfl⟩
      have ea : mCons (mVar 0) (mCons (mVar 3) mNil) (([Cell.val (.int c), .un, .un, .un, .un].set 3 .un).set 3 (.val (.int (j : Int)))) = .ok [(.int c, .cl), (.int (j : Int), .cl)] := mCons_ok rfl (mCons_ok rfl mNil_ok)
      exact (mCall_ok ea (hW j hj).2).trans rfl)
    unfold b__law_words_by_1
    refine (sSet_ok hl).trans ?_
    have ej : ((rangeD 0 8).map fun d => match d with | .int i => PyData.str (tS0 (W i.toNat)) | _ => .none) = strsD ((List.range 8).map W) := by
      rw [range0_map, show strsD ((List.range 8).map W) = ((List.range 8).map W).map (fun w => PyData.str (tS0 w)) from rfl, List.map_map]
      exact List.map_congr_left fun k _ => rfl
    rw [ej]
    rfl
  have s2 : b__law_words_by_2 [.val (.int c), .own (strsD ((List.range 8).map W)), .un, .un, .un] = .nx [.val (.int c), .own (strsD ((List.range 8).map W)), .own (strsD specials), .un, .un] := by
    rw [← specials_eq]
    rfl
  -- the loop
  let I : CV → Prop := fun ρ => ∃ ws x y, (WordsOk ws ∧ ws.Nodup) ∧ ρ = [.val (.int c), .own (strsD ws), .own (strsD specials), x, y]
  have body : ∀ d ∈ rangeD 0 2, ∀ ρ, I ρ → ∃ ρ', sSeq b__law_words_by_3_1 b__law_words_by_3_2 (ρ.set 3 (.val d)) = .nx ρ' ∧ I ρ' := by
    intro d hd ρ ⟨ws, x, y, ⟨hws, hnd⟩, hρ⟩
    obtain ⟨k, hk, rfl⟩ := mem_range0 hd
    subst hρ
    have p1 := Int.emod_nonneg (c / 28 + 3 * (k : Int)) (show (8 : Int) ≠ 0 by decide)
    have p2 := Int.emod_lt_of_pos (c / 28 + 3 * (k : Int)) (show (0 : Int) < 8 by decide)
    have p3 := Int.emod_nonneg (c / 224 + 5 * (k : Int)) (show (8 : Int) ≠ 0 by decide)
    have p4 := Int.emod_lt_of_pos (c / 224 + 5 * (k : Int)) (show (0 : Int) < 8 by decide)
    have i1 : ((c / 28 + 3 * (k : Int)) % 8).toNat < specials.length := by show _ < 8; omega
    have t1 : b__law_words_by_3_1 [.val (.int c), .own (strsD ws), .own (strsD specials), .val (.int (k : Int)), y] = .nx [.val (.int c), .own (strsD ws), .own (strsD specials), .val (.int (k : Int)), .val (.str (tS0 specials[((c / 28 + 3 * (k : Int)) % 8).toNat]))] := by
      unfold b__law_words_by_3_1
      have ix := hIx_strs (ws := specials) (m := .ow) (m2 := .cl) rfl (List.getElem?_eq_getElem i1)
      rw [Int.toNat_of_nonneg p1] at ix
      exact (sSet_ok (mBin_ok (x := (.list (strsD specials), .ow)) rfl (mBin_ok (mBin_ok (mBin_ok (x := (.int c, .cl)) rfl mK_ok (hDiv_big (by omega))) (mBin_ok mK_ok (y := (.int (k : Int), .cl)) rfl (hMul_int (mulOk_l (by omega)))) hAdd_int) mK_ok (hMod_ok (by omega))) ix)).trans rfl
    have hsp := specials_ok _ (List.getElem_mem i1)
    generalize specials[((c / 28 + 3 * (k : Int)) % 8).toNat] = w at t1 hsp
    obtain ⟨b, hb⟩ := hNotIn_strs (w := tS0 w) (ws := ws) (m := .cl) (m2 := .ow)
    have tb : mCmp hNotIn (mVar 4) (mVar 1) [.val (.int c), .own (strsD ws), .own (strsD specials), .val (.int (k : Int)), .val (.str (tS0 w))] = .ok b := mCmp_ok (x := (.str (tS0 w), .cl)) rfl (y := (.list (strsD ws), .ow)) rfl hb
    show ∃ ρ', sSeq b__law_words_by_3_1 b__law_words_by_3_2 [.val (.int c), .own (strsD ws), .own (strsD specials), .val (.int (k : Int)), y] = .nx ρ' ∧ I ρ'
    rw [sSeq_nx t1]
    unfold b__law_words_by_3_2
    rw [sIf_ok tb]
    cases b with
    | false => exact ⟨_, rfl, ws, _, _, ⟨hws, hnd⟩, rfl⟩
    | true =>
      have e3 : b__law_words_by_3_2_1 [.val (.int c), .own (strsD ws), .own (strsD specials), .val (.int (k : Int)), .val (.str (tS0 w))] = .nx [.val (.int c), .own (strsD (ws.set ((c / 224 + 5 * (k : Int)) % 8).toNat w)), .own (strsD specials), .val (.int (k : Int)), .val (.str (tS0 w))] := by
        unfold b__law_words_by_3_2_1
        unfold sShr
        rw [shr_val rfl]
        have ek : mBin hMod (mBin hAdd (mBin hDiv (mVar 0) (mK (.int 224))) (mBin hMul (mK (.int 5)) (mVar 3))) (mK (.int 8)) [.val (.int c), .own (strsD ws), .own (strsD specials), .val (.int (k : Int)), .val (.str (tS0 w))] = .ok (.int ((((c / 224 + 5 * (k : Int)) % 8).toNat : Nat) : Int), .cl) := by
          rw [Int.toNat_of_nonneg p3]
          exact mBin_ok (mBin_ok (mBin_ok (x := (.int c, .cl)) rfl mK_ok (hDiv_big (by omega))) (mBin_ok mK_ok (y := (.int (k : Int), .cl)) rfl (hMul_int (mulOk_l (by omega)))) hAdd_int) mK_ok (hMod_ok (by omega))
        refine (sSetIx_ok (x := (.str (tS0 w), .cl)) rfl rfl ek (ds := strsD ws) rfl (by rw [List.length_map, hws.1]; omega)).trans ?_
        rw [← List.map_set]
        rfl
      refine ⟨_, (if_pos rfl).trans e3, ws.set ((c / 224 + 5 * (k : Int)) % 8).toNat w, _, _, ⟨⟨by rw [List.length_set]; exact hws.1, fun v hv => ?_⟩, nodup_set hnd (notIn_strs hb)⟩, rfl⟩
      rcases List.mem_or_eq_of_mem_set hv with z | z
      · exact hws.2 v z
      · rw [z]; exact hsp
  have ws0 : WordsOk ((List.range 8).map W) := ⟨by simp only [List.length_map, List.length_range], fun w h => by
    obtain ⟨k, hk, rfl⟩ := List.mem_map.mp h
    exact (hW k (List.mem_range.mp hk)).1.1⟩
  have nd0 : ((List.range 8).map W).Nodup := List.pairwise_map.mpr ((List.nodup_range (n := 8)).imp_of_mem fun {i j} hi hj n z => n (tag_inj (List.mem_range.mp hi) (List.mem_range.mp hj) (hW i (List.mem_range.mp hi)).1.2 (by rw [z]; exact (hW j (List.mem_range.mp hj)).1.2)))
  -- how often
  have s3 : ∃ ρ', b__law_words_by_3 [.val (.int c), .own (strsD ((List.range 8).map W)), .own (strsD specials), .un, .un] = .nx ρ' ∧ I ρ' := by
    have hb : mCmp hEq (mBin hMod (mBin hDiv (mVar 0) (mK (.int 7))) (mK (.int 4))) (mK (.int 1)) [.val (.int c), .own (strsD ((List.range 8).map W)), .own (strsD specials), .un, .un] = .ok (decide (c / 7 % 4 = 1)) :=
      mCmp_ok (mBin_ok (mBin_ok (x := (.int c, .cl)) rfl mK_ok (hDiv_big (by omega))) mK_ok (hMod_ok (by omega))) mK_ok (hEq_int _ _ _ _)
    unfold b__law_words_by_3
    by_cases h : c / 7 % 4 = 1
    · rw [decide_eq_true h] at hb
      have hr := mRange1_ok (n := 2) (m := .cl) (mCons_ok (mBin_ok (f := mK (.int 2)) mK_ok (mCallB_ok (h := hInt) (mCons_ok (mVal_ok hb) mNil_ok) rfl) (hMul_int (mulOk_l (by omega)))) mNil_ok) (by omega)
      rw [sFor_ok hr]
      exact forL_inv body _ ⟨_, _, _, ⟨ws0, nd0⟩, rfl⟩
    · rw [decide_eq_false h] at hb
      have hr := mRange1_ok (n := 0) (m := .cl) (mCons_ok (mBin_ok (f := mK (.int 2)) mK_ok (mCallB_ok (h := hInt) (mCons_ok (mVal_ok hb) mNil_ok) rfl) (hMul_int (mulOk_l (by omega)))) mNil_ok) (by omega)
      rw [sFor_ok hr]
      exact ⟨_, rfl, _, _, _, ⟨ws0, nd0⟩, rfl⟩
  obtain ⟨ρ', e3, ws, x, y, ⟨hws, hnd⟩, rfl⟩ := s3
  refine ⟨ws, hws, hnd, ?_⟩
  have all : b__law_words_by [.val (.int c), .un, .un, .un, .un] = .rt (.list (strsD ws)) .ow [.val (.int c), .own (strsD ws), .own (strsD specials), x, y] := by
    unfold b__law_words_by
    rw [sSeq_nx s1, sSeq_nx s2, sSeq_nx e3]
    exact sRetOwn_own rfl
  unfold m__law_words_by runB
  have all' : b__law_words_by ([Cell.val (.int c)] ++ List.replicate (5 - [Cell.val (.int c)].length) Cell.un) = .rt (.list (strsD ws)) .ow [.val (.int c), .own (strsD ws), .own (strsD specials), x, y] := all
  rw [all']
  rfl
theorem words_ok (c : Int) : ∃ ws, WordsOk ws ∧ retR (m__law_words_by [.val (.int c)]) = .ok (.list (strsD ws), .ow) :=
  let ⟨ws, h1, _, h2⟩ := words_ok2 c
  ⟨ws, h1, h2⟩
/-! tellings and tables -/
structure R4 where
  k : Str
  p : Int
  w : List Nat
def rowD (r : R4) : D := .tuple [.str "tell", .str r.k, .int r.p, .str (tS0 r.w)]
def hits (w : Str) (ah : Bool) (r : R4) : Bool := decide (tS0 r.w = w) && decide (decide (r.k = "before") = ah)
def roleR (t : List R4) (w : Str) (ah : Bool) : Option R4 := t.find? (hits w ah)
def optD : Option R4 → D
  | some r => rowD r
  | none => .none
theorem ix_row (r : R4) {m m2 : Md} (hm : itCl m = true) : hIx (rowD r, m) (.int 0, m2) = some (.str "tell", .cl) ∧ hIx (rowD r, m) (.int 1, m2) = some (.str r.k, .cl) ∧ hIx (rowD r, m) (.int 2, m2) = some (.int r.p, .cl) ∧ hIx (rowD r, m) (.int 3, m2) = some (.str (tS0 r.w), .cl) := by
  have go : ∀ d : D, itMode m d = .cl := fun d => by unfold itMode; rw [if_pos hm]
  unfold hIx rowD
  refine ⟨?_, ?_, ?_, ?_⟩
  · exact congrArg some (congrArg (Prod.mk _) (go _))
  · exact congrArg some (congrArg (Prod.mk _) (go _))
  · exact congrArg some (congrArg (Prod.mk _) (go _))
  · exact congrArg some (congrArg (Prod.mk _) (go _))
theorem hEq_bool (a b : Bool) (m m2 : Md) : hEq (.bool a, m) (.bool b, m2) = some (decide (a = b)) := rfl
/-- a loop that gives back the first row that hits -/
theorem find_loop {u : CV → Out} {a b c : Cell} {hit : R4 → Bool} (hu : ∀ r, u [a, b, c, .val (rowD r)] = if hit r then .rt (rowD r) .cl [a, b, c, .val (rowD r)] else .nx [a, b, c, .val (rowD r)]) :
    ∀ (t : List R4) (x : Cell), ∃ y, forL 3 u (t.map rowD) [a, b, c, x] = match t.find? hit with
      | some r => .rt (rowD r) .cl [a, b, c, y]
      | none => .nx [a, b, c, y]
  | [], x => ⟨x, rfl⟩
  | r :: t, x => by
    have e : forL 3 u ((r :: t).map rowD) [a, b, c, x] = match u [a, b, c, .val (rowD r)] with
      | .nx ρ' => forL 3 u (t.map rowD) ρ'
      | .ct ρ' => forL 3 u (t.map rowD) ρ'
      | .bk ρ' => .nx ρ'
      | o => o := rfl
    rw [e, hu r]
    cases h : hit r with
    | true =>
      refine ⟨.val (rowD r), ?_⟩
      rw [List.find?_cons_of_pos h]
      rfl
    | false =>
      obtain ⟨y, ih⟩ := find_loop hu t (.val (rowD r))
      refine ⟨y, ?_⟩
      rw [List.find?_cons_of_neg (by rw [h]; exact Bool.false_ne_true)]
      exact ih
theorem law_role_ok (t : List R4) (w : Str) (ah : Bool) : retR (m__law_role [.val (.list (t.map rowD)), .val (.str w), .val (.bool ah)]) = .ok (optD (roleR t w ah), .cl) := by
  have hu : ∀ r : R4, b__law_role_1_1 [.val (.list (t.map rowD)), .val (.str w), .val (.bool ah), .val (rowD r)] = if hits w ah r then .rt (rowD r) .cl [.val (.list (t.map rowD)), .val (.str w), .val (.bool ah), .val (rowD r)] else .nx [.val (.list (t.map rowD)), .val (.str w), .val (.bool ah), .val (rowD r)] := fun r => by
    obtain ⟨_, i1, _, i3⟩ := ix_row r (m := .cl) (m2 := .cl) rfl
    unfold b__law_role_1_1
    rw [sIf_ok (mAnd_ok (mCmp_ok (mBin_ok (x := (rowD r, .cl)) rfl mK_ok i3) (y := (.str w, .cl)) rfl (hEq_str _ _ _ _)) fun _ => mCmp_ok (mVal_ok (mCmp_ok (mBin_ok (x := (rowD r, .cl)) rfl mK_ok i1) mK_ok (hEq_str _ _ _ _))) (y := (.bool ah, .cl)) rfl (hEq_bool _ _ _ _))]
    rfl
  obtain ⟨y, e⟩ := find_loop hu t .un
  have s1 : b__law_role_1 [.val (.list (t.map rowD)), .val (.str w), .val (.bool ah), .un] = forL 3 b__law_role_1_1 (t.map rowD) [.val (.list (t.map rowD)), .val (.str w), .val (.bool ah), .un] := by
    unfold b__law_role_1
    exact sFor_ok rfl
  have all : ∃ ρ, fin (b__law_role [.val (.list (t.map rowD)), .val (.str w), .val (.bool ah), .un]) = .ok ((optD (roleR t w ah), .cl), ρ) := by
    unfold b__law_role
    cases h : roleR t w ah with
    | some r =>
      have h' : t.find? (hits w ah) = some r := h
      rw [h'] at e
      rw [sSeq_rt (s1.trans e)]
      exact ⟨_, rfl⟩
    | none =>
      have h' : t.find? (hits w ah) = none := h
      rw [h'] at e
      rw [sSeq_nx (s1.trans e)]
      exact ⟨_, rfl⟩
  obtain ⟨ρ, all⟩ := all
  unfold m__law_role runB
  have all' : fin (b__law_role ([Cell.val (.list (t.map rowD)), .val (.str w), .val (.bool ah)] ++ List.replicate (4 - [Cell.val (.list (t.map rowD)), .val (.str w), .val (.bool ah)].length) Cell.un)) = .ok ((optD (roleR t w ah), .cl), ρ) := all
  rw [all']
  rfl
theorem is_ahead_ok (r : R4) : retR (m_is_ahead [.val (rowD r)]) = .ok (.bool (decide (r.k = "before")), .cl) := by
  obtain ⟨_, i1, _, _⟩ := ix_row r (m := .cl) (m2 := .cl) rfl
  have e : b_is_ahead [.val (rowD r)] = .rt (.bool (decide (r.k = "before"))) .cl [.val (rowD r)] := by
    unfold b_is_ahead b_is_ahead_1
    exact sRet_ok (mVal_ok (mCmp_ok (mBin_ok (x := (rowD r, .cl)) rfl mK_ok i1) mK_ok (hEq_str _ _ _ _))) (by decide)
  unfold m_is_ahead runB
  have e' : b_is_ahead ([Cell.val (rowD r)] ++ List.replicate (1 - [Cell.val (rowD r)].length) Cell.un) = .rt (.bool (decide (r.k = "before"))) .cl [.val (rowD r)] := e
  rw [e']
  rfl
theorem role_ok (t : List R4) (w : Str) (ah : Bool) : retR (m_role [.val (.list (t.map rowD)), .val (.str w), .val (.bool ah)]) = .ok (optD (roleR t w ah), .cl) := by
  have hu : ∀ r : R4, b_role_1_1 [.val (.list (t.map rowD)), .val (.str w), .val (.bool ah), .val (rowD r)] = if hits w ah r then .rt (rowD r) .cl [.val (.list (t.map rowD)), .val (.str w), .val (.bool ah), .val (rowD r)] else .nx [.val (.list (t.map rowD)), .val (.str w), .val (.bool ah), .val (rowD r)] := fun r => by
    obtain ⟨_, i1, _, i3⟩ := ix_row r (m := .cl) (m2 := .cl) rfl
    unfold b_role_1_1
    have ca : mCall m_is_ahead (mCons (mVar 3) mNil) [.val (.list (t.map rowD)), .val (.str w), .val (.bool ah), .val (rowD r)] = .ok (.bool (decide (r.k = "before")), .cl) := (mCall_ok (mCons_ok (x := (rowD r, .cl)) rfl mNil_ok) (is_ahead_ok r)).trans rfl
    rw [sIf_ok (mAnd_ok (mCmp_ok (mBin_ok (x := (rowD r, .cl)) rfl mK_ok i3) (y := (.str w, .cl)) rfl (hEq_str _ _ _ _)) fun _ => mCmp_ok ca (y := (.bool ah, .cl)) rfl (hEq_bool _ _ _ _))]
    rfl
  obtain ⟨y, e⟩ := find_loop hu t .un
  have s1 : b_role_1 [.val (.list (t.map rowD)), .val (.str w), .val (.bool ah), .un] = forL 3 b_role_1_1 (t.map rowD) [.val (.list (t.map rowD)), .val (.str w), .val (.bool ah), .un] := by
    unfold b_role_1
    exact sFor_ok rfl
  have all : ∃ ρ, fin (b_role [.val (.list (t.map rowD)), .val (.str w), .val (.bool ah), .un]) = .ok ((optD (roleR t w ah), .cl), ρ) := by
    unfold b_role
    cases h : roleR t w ah with
    | some r =>
      have h' : t.find? (hits w ah) = some r := h
      rw [h'] at e
      rw [sSeq_rt (s1.trans e)]
      exact ⟨_, rfl⟩
    | none =>
      have h' : t.find? (hits w ah) = none := h
      rw [h'] at e
      rw [sSeq_nx (s1.trans e)]
      exact ⟨_, rfl⟩
  obtain ⟨ρ, all⟩ := all
  unfold m_role runB
  have all' : fin (b_role ([Cell.val (.list (t.map rowD)), .val (.str w), .val (.bool ah)] ++ List.replicate (4 - [Cell.val (.list (t.map rowD)), .val (.str w), .val (.bool ah)].length) Cell.un)) = .ok ((optD (roleR t w ah), .cl), ρ) := all
  rw [all']
  rfl
/-! clashes, tellings -/
theorem hNe_str (a b : Str) (m m2 : Md) : hNe (.str a, m) (.str b, m2) = some (!decide (a = b)) := rfl
def clashH (r x : R4) : Bool := decide (x.p = r.p) && !decide (x.k = r.k)
def clashR (t : List R4) (r : R4) : Bool := t.any (clashH r) || (roleR t (tS0 r.w) (decide (r.k = "before"))).isSome
theorem any_loop {u : CV → Out} {a b : Cell} {hit : R4 → Bool} (hu : ∀ r, u [a, b, .val (rowD r)] = if hit r then .rt (.bool true) .cl [a, b, .val (rowD r)] else .nx [a, b, .val (rowD r)]) :
    ∀ (t : List R4) (x : Cell), ∃ y, forL 2 u (t.map rowD) [a, b, x] = if t.any hit then .rt (.bool true) .cl [a, b, y] else .nx [a, b, y]
  | [], x => ⟨x, rfl⟩
  | r :: t, x => by
    have e : forL 2 u ((r :: t).map rowD) [a, b, x] = match u [a, b, .val (rowD r)] with
      | .nx ρ' => forL 2 u (t.map rowD) ρ'
      | .ct ρ' => forL 2 u (t.map rowD) ρ'
      | .bk ρ' => .nx ρ'
      | o => o := rfl
    rw [e, hu r, List.any_cons]
    cases h : hit r with
    | true => exact ⟨.val (rowD r), rfl⟩
    | false =>
      obtain ⟨y, ih⟩ := any_loop hu t (.val (rowD r))
      exact ⟨y, ih⟩
theorem clash_ok (t : List R4) (r : R4) : retR (m__law_clash [.val (.list (t.map rowD)), .val (rowD r)]) = .ok (.bool (clashR t r), .cl) := by
  obtain ⟨_, r1, r2, r3⟩ := ix_row r (m := .cl) (m2 := .cl) rfl
  have hu : ∀ x : R4, b__law_clash_1_1 [.val (.list (t.map rowD)), .val (rowD r), .val (rowD x)] = if clashH r x then .rt (.bool true) .cl [.val (.list (t.map rowD)), .val (rowD r), .val (rowD x)] else .nx [.val (.list (t.map rowD)), .val (rowD r), .val (rowD x)] := fun x => by
    obtain ⟨_, i1, i2, _⟩ := ix_row x (m := .cl) (m2 := .cl) rfl
    unfold b__law_clash_1_1
    rw [sIf_ok (mAnd_ok (mCmp_ok (mBin_ok (x := (rowD x, .cl)) rfl mK_ok i2) (mBin_ok (x := (rowD r, .cl)) rfl mK_ok r2) (hEq_int _ _ _ _)) fun _ => mCmp_ok (mBin_ok (x := (rowD x, .cl)) rfl mK_ok i1) (mBin_ok (x := (rowD r, .cl)) rfl mK_ok r1) (hNe_str _ _ _ _))]
    rfl
  obtain ⟨y, e⟩ := any_loop hu t .un
  have s1 : b__law_clash_1 [.val (.list (t.map rowD)), .val (rowD r), .un] = forL 2 b__law_clash_1_1 (t.map rowD) [.val (.list (t.map rowD)), .val (rowD r), .un] := by
    unfold b__law_clash_1
    exact sFor_ok rfl
  have all : ∃ ρ, fin (b__law_clash [.val (.list (t.map rowD)), .val (rowD r), .un]) = .ok ((.bool (clashR t r), .cl), ρ) := by
    unfold b__law_clash clashR
    cases h : t.any (clashH r) with
    | true =>
      rw [h] at e
      rw [sSeq_rt (s1.trans (e.trans (if_pos rfl)))]
      exact ⟨_, rfl⟩
    | false =>
      rw [h] at e
      rw [sSeq_nx (s1.trans (e.trans (if_neg Bool.false_ne_true)))]
      have lr := law_role_ok t (tS0 r.w) (decide (r.k = "before"))
      have ca : mCall m__law_role (mCons (mVar 0) (mCons (mBin hIx (mVar 1) (mK (.int 3))) (mCons (mVal (mCmp hEq (mBin hIx (mVar 1) (mK (.int 1))) (mK (.str "before")))) (mNil)))) [.val (.list (t.map rowD)), .val (rowD r), y] = .ok (optD (roleR t (tS0 r.w) (decide (r.k = "before"))), .cl) := by
        refine (mCall_ok (mCons_ok (x := (.list (t.map rowD), .cl)) rfl (mCons_ok (mBin_ok (x := (rowD r, .cl)) rfl mK_ok r3) (mCons_ok (mVal_ok (mCmp_ok (mBin_ok (x := (rowD r, .cl)) rfl mK_ok r1) mK_ok (hEq_str _ _ _ _))) mNil_ok))) lr).trans ?_
        rfl
      have nn : ∀ o : Option R4, hNotN (optD o, .cl) (.none, .cl) = some o.isSome := fun o => by cases o <;> rfl
      have e2 : b__law_clash_2 [.val (.list (t.map rowD)), .val (rowD r), y] = .rt (.bool (roleR t (tS0 r.w) (decide (r.k = "before"))).isSome) .cl [.val (.list (t.map rowD)), .val (rowD r), y] := by
        unfold b__law_clash_2
        exact sRet_ok (mVal_ok (mCmp_ok ca mK_ok (nn _))) (by decide)
      rw [e2]
      exact ⟨_, rfl⟩
  obtain ⟨ρ, all⟩ := all
  unfold m__law_clash runB
  have all' : fin (b__law_clash ([Cell.val (.list (t.map rowD)), .val (rowD r)] ++ List.replicate (3 - [Cell.val (.list (t.map rowD)), .val (rowD r)].length) Cell.un)) = .ok ((.bool (clashR t r), .cl), ρ) := all
  rw [all']
  rfl
def kindsL : List Str := ["left", "right", "none", "before", "behind"]
def TellOk (r : R4) : Prop := r.k ∈ kindsL ∧ 1 ≤ r.p ∧ r.p ≤ 30 ∧ wordOk r.w
theorem hGt_int (a b : Int) (m m2 : Md) : hGt (.int a, m) (.int b, m2) = some (decide (b < a)) := rfl
theorem kind_at (i : Int) : ∃ kd ∈ kindsL, hIx (.list [.str "left", .str "right", .str "none", .str "before", .str "behind"], .fr) (.int (i % 5), .cl) = some (.str kd, .cl) := by
  have p1 := Int.emod_nonneg i (show (5 : Int) ≠ 0 by decide)
  have p2 := Int.emod_lt_of_pos i (show (0 : Int) < 5 by decide)
  have h : i % 5 = 0 ∨ i % 5 = 1 ∨ i % 5 = 2 ∨ i % 5 = 3 ∨ i % 5 = 4 := by omega
  rcases h with h | h | h | h | h
  · exact ⟨"left", by simp [runB, fin, sSeq, oSeq, sSet, setK, sIf, sRet, sRetOwn, sRetN, sNx, mBin, mVar, mK, mCmp, mVal, mChain, mBool, mAnd, mOr, mNot, mAndV, mOrV, mIf, mNil, mCons, mCallB, mUn, mIsi, mTup, mLst, mStrM, mSl, mNoP, mPart, mCall_eq, callR_ok, retR_ok, retR_er, retR_no, toCell, callMd, clA, ofO, Rs.bind, hAdd, hSub, hMul, hMod, hIx, hLt, hLe, hGt, hGe, hLen, hInt, hStr, itMode, isCl, itCl, okEl, shr, sFor, forL, kindsL], by rw [h]; rfl⟩
  · exact ⟨"right", by simp [runB, fin, sSeq, oSeq, sSet, setK, sIf, sRet, sRetOwn, sRetN, sNx, mBin, mVar, mK, mCmp, mVal, mChain, mBool, mAnd, mOr, mNot, mAndV, mOrV, mIf, mNil, mCons, mCallB, mUn, mIsi, mTup, mLst, mStrM, mSl, mNoP, mPart, mCall_eq, callR_ok, retR_ok, retR_er, retR_no, toCell, callMd, clA, ofO, Rs.bind, hAdd, hSub, hMul, hMod, hIx, hLt, hLe, hGt, hGe, hLen, hInt, hStr, itMode, isCl, itCl, okEl, shr, sFor, forL, kindsL], by rw [h]; rfl⟩
  · exact ⟨"none", by simp [runB, fin, sSeq, oSeq, sSet, setK, sIf, sRet, sRetOwn, sRetN, sNx, mBin, mVar, mK, mCmp, mVal, mChain, mBool, mAnd, mOr, mNot, mAndV, mOrV, mIf, mNil, mCons, mCallB, mUn, mIsi, mTup, mLst, mStrM, mSl, mNoP, mPart, mCall_eq, callR_ok, retR_ok, retR_er, retR_no, toCell, callMd, clA, ofO, Rs.bind, hAdd, hSub, hMul, hMod, hIx, hLt, hLe, hGt, hGe, hLen, hInt, hStr, itMode, isCl, itCl, okEl, shr, sFor, forL, kindsL], by rw [h]; rfl⟩
  · exact ⟨"before", by simp [runB, fin, sSeq, oSeq, sSet, setK, sIf, sRet, sRetOwn, sRetN, sNx, mBin, mVar, mK, mCmp, mVal, mChain, mBool, mAnd, mOr, mNot, mAndV, mOrV, mIf, mNil, mCons, mCallB, mUn, mIsi, mTup, mLst, mStrM, mSl, mNoP, mPart, mCall_eq, callR_ok, retR_ok, retR_er, retR_no, toCell, callMd, clA, ofO, Rs.bind, hAdd, hSub, hMul, hMod, hIx, hLt, hLe, hGt, hGe, hLen, hInt, hStr, itMode, isCl, itCl, okEl, shr, sFor, forL, kindsL], by rw [h]; rfl⟩
  · exact ⟨"behind", by simp [runB, fin, sSeq, oSeq, sSet, setK, sIf, sRet, sRetOwn, sRetN, sNx, mBin, mVar, mK, mCmp, mVal, mChain, mBool, mAnd, mOr, mNot, mAndV, mOrV, mIf, mNil, mCons, mCallB, mUn, mIsi, mTup, mLst, mStrM, mSl, mNoP, mPart, mCall_eq, callR_ok, retR_ok, retR_er, retR_no, toCell, callMd, clA, ofO, Rs.bind, hAdd, hSub, hMul, hMod, hIx, hLt, hLe, hGt, hGe, hLen, hInt, hStr, itMode, isCl, itCl, okEl, shr, sFor, forL, kindsL], by rw [h]; rfl⟩
/-! what `==` may compare -/
theorem strOk_of {l : List Nat} (h : ∀ c ∈ l, c < 128) : PyData.strOk (tS0 l) = true := by
  unfold PyData.strOk
  (rw [← Array.all_toList, List.all_eq_true])
  intro c hc
  exact decide_eq_true (Nat.lt_trans (h c hc) (by decide))
theorem in_lt {c : Nat} (h : inB "();" c = true) : c < 128 := by
  unfold inB at h
  rw [Bool.and_eq_true, Bool.and_eq_true] at h
  have h2 := h.2.1
  by_cases z : c < 128
  · exact z
  · exfalso
    have : decide ([126] < [c]) = true := decide_eq_true (List.Lex.rel (by omega))
    rw [this] at h2
    cases h2
theorem strOk_word {l : List Nat} (h : wordOk l) : PyData.strOk (tS0 l) = true := strOk_of fun c hc => in_lt (List.all_eq_true.mp h.2.2.1 c hc)
theorem strOk_kind {k : Str} (h : k ∈ kindsL) : PyData.strOk k = true := by
  have : ∀ k ∈ kindsL, PyData.strOk k = true := by decide +kernel
  exact this k h
theorem row_lay {r : R4} (h : TellOk r) : (rowD r).canLay0 = true := by
  have h1 : PyData.strOk ("tell" : Str) = true := by decide +kernel
  have h2 := strOk_kind h.1
  have h3 := strOk_word h.2.2.2
  simp only [rowD, PyData.canLay0, PyData.canLayAll0, h1, h2, h3, Bool.and_self]
theorem rows_lay : ∀ {t : List R4}, (∀ r ∈ t, TellOk r) → PyData.canLayAll0 (t.map rowD) = true
  | [], _ => by simp only [List.map_nil, PyData.canLayAll0]
  | r :: t, h => by
    simp only [List.map_cons, PyData.canLayAll0, row_lay (h r List.mem_cons_self), rows_lay fun x hx => h x (List.mem_cons_of_mem _ hx), Bool.and_self]
theorem row_depth (r : R4) : (rowD r).depth = 1 := by
  simp only [rowD, PyData.depth, PyData.depthAll, Nat.max_self]
theorem rows_depth : ∀ t : List R4, PyData.depthAll (t.map rowD) ≤ 1
  | [] => by simp only [List.map_nil, PyData.depthAll]; omega
  | r :: t => by
    have := rows_depth t
    simp only [List.map_cons, PyData.depthAll, row_depth]
    omega
theorem shaped_rows {t : List R4} (h : ∀ r ∈ t, TellOk r) : SeqAt.shaped (.list (t.map rowD)) = true := by
  unfold SeqAt.shaped
  rw [Bool.and_eq_true]
  refine ⟨by simp only [PyData.canLay0]; exact rows_lay h, decide_eq_true ?_⟩
  have := rows_depth t
  simp only [PyData.depth]
  omega
theorem hNe_nil {ds : List D} {m m2 : Md} (h : SeqAt.shaped (.list ds) = true) : hNe (.list ds, m) (.list [], m2) = some (!ds.isEmpty) := by
  have h0 : SeqAt.shaped (.list []) = true := by decide +kernel
  unfold hNe hEq
  dsimp only
  rw [if_neg (by simp [runB, fin, sSeq, oSeq, sSet, setK, sIf, sRet, sRetOwn, sRetN, sNx, mBin, mVar, mK, mCmp, mVal, mChain, mBool, mAnd, mOr, mNot, mAndV, mOrV, mIf, mNil, mCons, mCallB, mUn, mIsi, mTup, mLst, mStrM, mSl, mNoP, mPart, mCall_eq, callR_ok, retR_ok, retR_er, retR_no, toCell, callMd, clA, ofO, Rs.bind, hAdd, hSub, hMul, hMod, hIx, hLt, hLe, hGt, hGe, hLen, hInt, hStr, itMode, isCl, itCl, okEl, shr, sFor, forL, scD]), if_pos ⟨h, h0⟩]
  cases ds with
  | nil => simp [runB, fin, sSeq, oSeq, sSet, setK, sIf, sRet, sRetOwn, sRetN, sNx, mBin, mVar, mK, mCmp, mVal, mChain, mBool, mAnd, mOr, mNot, mAndV, mOrV, mIf, mNil, mCons, mCallB, mUn, mIsi, mTup, mLst, mStrM, mSl, mNoP, mPart, mCall_eq, callR_ok, retR_ok, retR_er, retR_no, toCell, callMd, clA, ofO, Rs.bind, hAdd, hSub, hMul, hMod, hIx, hLt, hLe, hGt, hGe, hLen, hInt, hStr, itMode, isCl, itCl, okEl, shr, sFor, forL, PyData.eqv, PyData.eqvAll]
  | cons d ds => simp [runB, fin, sSeq, oSeq, sSet, setK, sIf, sRet, sRetOwn, sRetN, sNx, mBin, mVar, mK, mCmp, mVal, mChain, mBool, mAnd, mOr, mNot, mAndV, mOrV, mIf, mNil, mCons, mCallB, mUn, mIsi, mTup, mLst, mStrM, mSl, mNoP, mPart, mCall_eq, callR_ok, retR_ok, retR_er, retR_no, toCell, callMd, clA, ofO, Rs.bind, hAdd, hSub, hMul, hMod, hIx, hLt, hLe, hGt, hGe, hLen, hInt, hStr, itMode, isCl, itCl, okEl, shr, sFor, forL, PyData.eqv, PyData.eqvAll]
theorem hNe_int (a b : Int) (m m2 : Md) : hNe (.int a, m) (.int b, m2) = some (!decide (a = b)) := rfl
abbrev pairD (d : D) : D := .tuple [d, d]
theorem ix_pair (d : D) : hIx (pairD d, .cl) (.int 0, .cl) = some (d, .cl) ∧ hIx (pairD d, .cl) (.int 1, .cl) = some (d, .cl) := ⟨rfl, rfl⟩
theorem pair_shaped {ds : List D} (h : ∀ d ∈ ds, d.canLay0 = true ∧ d.depth ≤ 10) : SeqAt.shaped (.list (ds.map pairD)) = true := by
  have go : ∀ ds : List D, (∀ d ∈ ds, d.canLay0 = true ∧ d.depth ≤ 10) → PyData.canLayAll0 (ds.map pairD) = true ∧ PyData.depthAll (ds.map pairD) ≤ 11 := by
    intro ds
    induction ds with
    | nil => intro _; exact ⟨by simp only [List.map_nil, PyData.canLayAll0], by simp only [List.map_nil, PyData.depthAll]; omega⟩
    | cons d ds ih =>
      intro h
      obtain ⟨i1, i2⟩ := ih fun x hx => h x (List.mem_cons_of_mem _ hx)
      obtain ⟨j1, j2⟩ := h d List.mem_cons_self
      refine ⟨by simp only [List.map_cons, PyData.canLayAll0, pairD, PyData.canLay0, i1, j1, Bool.and_self], ?_⟩
      simp only [List.map_cons, PyData.depthAll, pairD, PyData.depth]
      omega
  obtain ⟨g1, g2⟩ := go ds h
  unfold SeqAt.shaped
  rw [Bool.and_eq_true]
  refine ⟨by simp only [PyData.canLay0]; exact g1, decide_eq_true ?_⟩
  simp only [PyData.depth]
  omega
/-! alike -/
theorem alike_scalar {a b y : Cell} {rs : List D} {d : D} (hd : (∃ s, d = .str s) ∨ ∃ i, d = .int i) : sSeq b__law_alike_2_1 b__law_alike_2_2 [a, b, .own (rs ++ [pairD d]), y] = .nx [a, b, .own rs, .val (pairD d)] := by
  have t1 : b__law_alike_2_1 [a, b, .own (rs ++ [pairD d]), y] = .nx [a, b, .own rs, .val (pairD d)] := by
    unfold b__law_alike_2_1
    exact (sSetX_ok (mPop_ok (ds := rs) (d := pairD d) rfl)).trans rfl
  rw [sSeq_nx t1]
  obtain ⟨i0, i1⟩ := ix_pair d
  generalize hρ : [a, b, Cell.own rs, .val (pairD d)] = ρ
  have v3 : mVar 3 ρ = .ok (pairD d, .cl) := by rw [← hρ]; rfl
  have x0 := mBin_ok v3 (mK_ok (d := .int 0)) i0
  have x1 := mBin_ok v3 (mK_ok (d := .int 1)) i1
  unfold b__law_alike_2_2
  rcases hd with ⟨s, rfl⟩ | ⟨i, rfl⟩
  · rw [sIf_ok (mBool_ok (mIsi_ok x1)), if_pos (by exact rfl)]
    unfold b__law_alike_2_2_1
    rw [sIf_ok (mOr_ok (mNot_ok (mBool_ok (mIsi_ok x0))) fun _ => mCmp_ok x0 x1 (hNe_str s s _ _)), if_neg (by rw [decide_eq_true rfl]; exact Bool.false_ne_true)]
    rfl
  · rw [sIf_ok (mBool_ok (mIsi_ok x1)), if_neg (by exact Bool.false_ne_true)]
    unfold b__law_alike_2_2_e_1
    rw [sIf_ok (mBool_ok (mIsi_ok x1)), if_neg (by exact Bool.false_ne_true)]
    unfold b__law_alike_2_2_e_1_e_1
    rw [sIf_ok (mOr_ok (mNot_ok (mBool_ok (mIsi_ok x0))) fun _ => mOr_ok (mBool_ok (mIsi_ok x0)) fun _ => mCmp_ok x0 x1 (hNe_int i i _ _)), if_neg (by rw [decide_eq_true rfl]; exact Bool.false_ne_true)]
    rfl
theorem alike_tuple {a b y : Cell} {rs ds : List D} (h1 : rs.length + ds.length ≤ 1000) (h2 : lfs ds = true) : sSeq b__law_alike_2_1 b__law_alike_2_2 [a, b, .own (rs ++ [pairD (.tuple ds)]), y] = .nx [a, b, .own (rs ++ ds.map pairD), .val (pairD (.tuple ds))] := by
  have t1 : b__law_alike_2_1 [a, b, .own (rs ++ [pairD (.tuple ds)]), y] = .nx [a, b, .own rs, .val (pairD (.tuple ds))] := by
    unfold b__law_alike_2_1
    exact (sSetX_ok (mPop_ok (ds := rs) (d := pairD (.tuple ds)) rfl)).trans rfl
  rw [sSeq_nx t1]
  obtain ⟨i0, i1⟩ := ix_pair (.tuple ds)
  have v3 : mVar 3 [a, b, Cell.own rs, .val (pairD (.tuple ds))] = .ok (pairD (.tuple ds), .cl) := rfl
  have x0 := mBin_ok v3 (mK_ok (d := .int 0)) i0
  have x1 := mBin_ok v3 (mK_ok (d := .int 1)) i1
  have lz : hListZip [(.tuple ds, .cl), (.tuple ds, .cl)] = some (.list (ds.map pairD), .fr) := by
    unfold hListZip
    dsimp only
    rw [if_pos ⟨.inl rfl, .inl rfl, by omega⟩]
    have e : ∀ l : List D, (l.zip l).map (fun p => PyData.tuple [p.1, p.2]) = l.map pairD := fun l => by
      induction l with
      | nil => rfl
      | cons x l ih => simp only [List.zip_cons_cons, List.map_cons, ih]
    rw [e]
  have ad : hAdd (.list rs, .ow) (.list (ds.map pairD), .fr) = some (.list (rs ++ ds.map pairD), .fr) := by
    unfold hAdd
    dsimp only
    rw [if_pos ⟨by decide, by decide, le_line (by rw [List.length_map]; exact h1), .inl ⟨rfl, rfl⟩⟩]
  unfold b__law_alike_2_2
  rw [sIf_ok (mBool_ok (mIsi_ok x1)), if_neg (by exact Bool.false_ne_true)]
  unfold b__law_alike_2_2_e_1
  rw [sIf_ok (mBool_ok (mIsi_ok x1)), if_pos (by exact rfl)]
  have t2 : b__law_alike_2_2_e_1_1 [a, b, .own rs, .val (pairD (.tuple ds))] = .nx [a, b, .own rs, .val (pairD (.tuple ds))] := by
    unfold b__law_alike_2_2_e_1_1
    rw [sIf_ok (mOr_ok (mNot_ok (mBool_ok (mIsi_ok x0))) fun _ => mCmp_ok (mCallB_ok (mCons_ok x0 mNil_ok) (y := (.int ds.length, .cl)) rfl) (mCallB_ok (mCons_ok x1 mNil_ok) (y := (.int ds.length, .cl)) rfl) (hNe_int _ _ _ _)), if_neg (by rw [decide_eq_true rfl]; exact Bool.false_ne_true)]
    rfl
  rw [sSeq_nx t2]
  unfold b__law_alike_2_2_e_1_2
  exact (sSet_ok (mBin_ok (x := (.list rs, .ow)) rfl (mCallB_ok (mCons_ok x0 (mCons_ok x1 mNil_ok)) lz) ad)).trans rfl
theorem alike_test {a b y : Cell} {ds : List D} (h : SeqAt.shaped (.list ds) = true) : mCmp hNe (mVar 2) (mLst mNil) [a, b, .own ds, y] = .ok (!ds.isEmpty) :=
  mCmp_ok (x := (.list ds, .ow)) rfl (mLst_ok mNil_ok ⟨rfl, Nat.zero_le _⟩) (hNe_nil h)
theorem alike_ok {r : R4} (h : TellOk r) : retR (m__law_alike [.val (rowD r), .val (rowD r)]) = .ok (.bool true, .cl) := by
  have k1 : (PyData.str "tell").canLay0 = true := by decide +kernel
  have k2 : (PyData.str r.k).canLay0 = true := by simp only [PyData.canLay0]; exact strOk_kind h.1
  have k3 : (PyData.int r.p).canLay0 = true := by simp only [PyData.canLay0]
  have k4 : (PyData.str (tS0 r.w)).canLay0 = true := by simp only [PyData.canLay0]; exact strOk_word h.2.2.2
  have dS : ∀ s : Str, (PyData.str s).depth ≤ 10 := fun s => by simp only [PyData.depth]; omega
  have dI : (PyData.int r.p).depth ≤ 10 := by simp only [PyData.depth]; omega
  have sh : ∀ ds : List D, (∀ d ∈ ds, d ∈ [PyData.str "tell", .str r.k, .int r.p, .str (tS0 r.w)] ∨ d = rowD r) → SeqAt.shaped (.list (ds.map pairD)) = true := fun ds hds => pair_shaped fun d hd => by
    rcases hds d hd with z | rfl
    · simp only [List.mem_cons, List.not_mem_nil, or_false] at z
      rcases z with rfl | rfl | rfl | rfl
      · exact ⟨k1, dS _⟩
      · exact ⟨k2, dS _⟩
      · exact ⟨k3, dI⟩
      · exact ⟨k4, dS _⟩
    · exact ⟨row_lay h, by rw [row_depth]; omega⟩
  have s1 : b__law_alike_1 [.val (rowD r), .val (rowD r), .un, .un] = .nx [.val (rowD r), .val (rowD r), .own [pairD (rowD r)], .un] := rfl
  have s2 : ∃ y, b__law_alike_2 [.val (rowD r), .val (rowD r), .own [pairD (rowD r)], .un] = .nx [.val (rowD r), .val (rowD r), .own [], y] := by
    unfold b__law_alike_2
    rw [show (100000 : Nat) = 99994 + 6 from rfl]
    refine ⟨.val (pairD (.str "tell")), ?_⟩
    refine (whL_step (n := 99994 + 5) (alike_test (sh [rowD r] (by simp only [List.mem_singleton]; exact fun d hd => .inr hd))) (alike_tuple (rs := []) (ds := [.str "tell", .str r.k, .int r.p, .str (tS0 r.w)]) (by show 0 + 4 ≤ 1000; omega) rfl)).trans ?_
    refine (whL_step (n := 99994 + 4) (alike_test (sh [.str "tell", .str r.k, .int r.p, .str (tS0 r.w)] fun d hd => .inl hd)) (alike_scalar (rs := [pairD (.str "tell"), pairD (.str r.k), pairD (.int r.p)]) (.inl ⟨_, rfl⟩))).trans ?_
    refine (whL_step (n := 99994 + 3) (alike_test (sh [.str "tell", .str r.k, .int r.p] fun d hd => .inl (List.mem_of_mem_take (i := 3) hd))) (alike_scalar (rs := [pairD (.str "tell"), pairD (.str r.k)]) (.inr ⟨_, rfl⟩))).trans ?_
    refine (whL_step (n := 99994 + 2) (alike_test (sh [.str "tell", .str r.k] fun d hd => .inl (List.mem_of_mem_take (i := 2) hd))) (alike_scalar (rs := [pairD (.str "tell")]) (.inl ⟨_, rfl⟩))).trans ?_
    refine (whL_step (n := 99994 + 1) (alike_test (sh [.str "tell"] fun d hd => .inl (List.mem_of_mem_take (i := 1) hd))) (alike_scalar (rs := []) (.inl ⟨_, rfl⟩))).trans ?_
    exact whL_done (n := 99994) (alike_test (sh [] fun d hd => absurd hd List.not_mem_nil))
  obtain ⟨y, s2⟩ := s2
  have all : b__law_alike [.val (rowD r), .val (rowD r), .un, .un] = .rt (.bool true) .cl [.val (rowD r), .val (rowD r), .own [], y] := by
    unfold b__law_alike
    rw [sSeq_nx s1, sSeq_nx s2]
    rfl
  unfold m__law_alike runB
  have all' : b__law_alike ([Cell.val (rowD r), .val (rowD r)] ++ List.replicate (4 - [Cell.val (rowD r), .val (rowD r)].length) Cell.un) = .rt (.bool true) .cl [.val (rowD r), .val (rowD r), .own [], y] := all
  rw [all']
  rfl
/-! running a mirror -/
theorem toCell_cl {d : D} : toCell (d, .cl) = .val d := rfl
theorem toCell_fr {d : D} : toCell (d, .fr) = .val d := rfl
theorem toCell_ow {d : D} : toCell (d, .ow) = .val d := rfl
theorem toCell_vw {d : D} : toCell (d, .vw) = .val d := rfl
theorem toCell_fz {d : D} : toCell (d, .fz) = .fz d := rfl
section
variable {f g : CV → Rs (D × Md)} {ρ ρ' ρ'' : CV} {x y : D × Md} {t t2 : CV → Rs Bool} {u w : CV → Out} {i j : Nat} {d : D} {ds : List D} {m : Md} {o : Out} {M : CV → RF} {fa : CV → Rs (List (D × Md))} {as : List (D × Md)} {cs : CV} {b b2 : Bool}
theorem rCall (e : fa ρ = .ok as) (hc : as.map toCell = cs) (h : (as.all fun x => clA x.2) = true) (e2 : retR (M cs) = .ok (d, .cl)) : mCall M fa ρ = .ok (d, .cl) := by
  subst hc
  rw [mCall_ok e e2, h]
  rfl
theorem rCallF (e : fa ρ = .ok as) (hc : as.map toCell = cs) (h : (as.all fun x => clA x.2) = true) (e2 : retR (M cs) = .ok (.list ds, m)) (hm : m = .fr ∨ m = .ow) : mCall M fa ρ = .ok (.list ds, .fr) := by
  subst hc
  rw [mCall_ok e e2, h]
  rcases hm with rfl | rfl <;> rfl
/-- the arguments may reach lists that are owned: what comes back is a leaf -/
theorem rCallL (e : fa ρ = .ok as) (hc : as.map toCell = cs) (e2 : retR (M cs) = .ok (d, .cl)) (hl : lf d = true) : mCall M fa ρ = .ok (d, .cl) := by
  subst hc
  rw [mCall_ok e e2]
  unfold callMd
  dsimp only
  rw [if_pos (.inr hl)]
  rfl
theorem sSet_cl (h : f ρ = .ok (d, .cl)) (hs : ρ.set i (.val d) = ρ') : sSet i f ρ = .nx ρ' := by
  rw [sSet_ok h, ← hs]
  exact setK_cl
theorem sSet_fr (h : f ρ = .ok (.list ds, .fr)) (hs : ρ.set i (.own ds) = ρ') : sSet i f ρ = .nx ρ' := by
  rw [sSet_ok h, ← hs]
  rfl
theorem sSeq_go (h : u ρ = .nx ρ') (h2 : w ρ' = o) : sSeq u w ρ = o := (sSeq_nx h).trans h2
theorem sSeq_end (h : u ρ = .rt d m ρ') : sSeq u w ρ = .rt d m ρ' := sSeq_rt h
theorem sIf_t (h : t ρ = .ok true) (h2 : u ρ = o) : sIf t u w ρ = o := by rw [sIf_ok h]; exact h2
theorem sIf_f (h : t ρ = .ok false) (h2 : w ρ = o) : sIf t u w ρ = o := by rw [sIf_ok h]; exact h2
theorem sApp_go (h : ρ[i]? = some (.own ds)) (e : mLift f ρ = .ok (d, ρ)) (hl : ds.length ≤ 1000) (hs : ρ.set i (.own (ds ++ [d])) = ρ') : sApp i (mLift f) ρ = .nx ρ' := (sApp_ok h e hl).trans (by rw [hs])
theorem mLift_go (e : f ρ = .ok (d, m)) (ok : okEl (d, m) = true) : mLift f ρ = .ok (d, ρ) := mLift_ok e ok
theorem sSetX_go {fx : CV → Rs (D × CV)} (e : fx ρ = .ok (d, ρ')) (hs : ρ'.set i (.val d) = ρ'') : sSetX i fx ρ = .nx ρ'' := by
  rw [sSetX_ok e, hs]
theorem mPop_go (h : ρ[i]? = some (.own (ds ++ [d]))) (hs : ρ.set i (.own ds) = ρ') : mPop i ρ = .ok (d, ρ') := by
  rw [mPop_ok h, hs]
theorem sExprX_go {fx : CV → Rs (D × CV)} (e : fx ρ = .ok (d, ρ')) : sExprX fx ρ = .nx ρ' := by
  unfold sExprX
  rw [e]
theorem retR_rt {n : Nat} {bd : CV → Out} (h : bd (cs ++ List.replicate (n - cs.length) .un) = .rt d m ρ') : retR (runB n bd cs) = .ok (d, m) := by
  unfold runB
  rw [h]
  rfl
theorem retR_nx {n : Nat} {bd : CV → Out} (h : bd (cs ++ List.replicate (n - cs.length) .un) = .nx ρ') : retR (runB n bd cs) = .ok (.none, .cl) := by
  unfold runB
  rw [h]
  rfl
theorem run_rt {n : Nat} {bd : CV → Out} (h : bd (cs ++ List.replicate (n - cs.length) .un) = .rt d m ρ') : runB n bd cs = .ok ((d, m), ρ') := by
  unfold runB
  rw [h]
  rfl
theorem run_nx {n : Nat} {bd : CV → Out} (h : bd (cs ++ List.replicate (n - cs.length) .un) = .nx ρ') : runB n bd cs = .ok ((.none, .cl), ρ') := by
  unfold runB
  rw [h]
  rfl
theorem mMax2 {i j : Int} {m m2 : Md} : hMax2 [(.int i, m), (.int j, m2)] = some (.int (max i j), .cl) := by
  show some (PyData.int (if j > i then j else i), Md.cl) = _
  have : (if j > i then j else i) = max i j := by omega
  rw [this]
theorem mMin2 {i j : Int} {m m2 : Md} : hMin2 [(.int i, m), (.int j, m2)] = some (.int (min i j), .cl) := by
  show some (PyData.int (if j < i then j else i), Md.cl) = _
  have : (if j < i then j else i) = min i j := by omega
  rw [this]
theorem hLt_int (a b : Int) (m m2 : Md) : hLt (.int a, m) (.int b, m2) = some (decide (a < b)) := rfl
theorem hLe_int (a b : Int) (m m2 : Md) : hLe (.int a, m) (.int b, m2) = some (decide (a ≤ b)) := rfl
theorem hGe_int (a b : Int) (m m2 : Md) : hGe (.int a, m) (.int b, m2) = some (decide (b ≤ a)) := rfl
theorem hLen_list {m : Md} : hLen [(.list ds, m)] = some (.int ds.length, .cl) := rfl
theorem hLen_tuple {m : Md} : hLen [(.tuple ds, m)] = some (.int ds.length, .cl) := rfl
theorem hIsN_n (d : D) (m m2 : Md) : hIsN (d, m) (.none, m2) = some (isNoneD d) := rfl
theorem hNotN_n (d : D) (m m2 : Md) : hNotN (d, m) (.none, m2) = some (!isNoneD d) := rfl
end
theorem shr_succ {i : Nat} {c : Cell} {ρ : CV} : shr (i + 1) (c :: ρ) = c :: shr i ρ := by
  unfold shr
  rw [List.getElem?_cons_succ]
  cases ρ[i]? with
  | none => rfl
  | some c2 => cases c2 <;> rfl
theorem shr_v {d : D} {ρ : CV} : shr 0 (.val d :: ρ) = .val d :: ρ := rfl
theorem shr_o {ds : List D} {ρ : CV} : shr 0 (.own ds :: ρ) = .val (.list ds) :: ρ := rfl
theorem shr_u {ρ : CV} : shr 0 (.un :: ρ) = .un :: ρ := rfl
theorem shr_f {d : D} {ρ : CV} : shr 0 (.fz d :: ρ) = .fz d :: ρ := rfl
theorem forL_by {i : Nat} {u : CV → Out} {I : List D → CV → Prop} {R : Out → Prop} (h0 : ∀ ρ, I [] ρ → R (.nx ρ)) (h1 : ∀ d ds ρ, I (d :: ds) ρ → (∃ ρ', u (ρ.set i (.val d)) = .nx ρ' ∧ I ds ρ') ∨ (∃ x m ρ', u (ρ.set i (.val d)) = .rt x m ρ' ∧ R (.rt x m ρ')) ∨ ∃ c ρ', u (ρ.set i (.val d)) = .er c ρ' ∧ R (.er c ρ')) :
    ∀ ds ρ, I ds ρ → R (forL i u ds ρ)
  | [], ρ, h => h0 ρ h
  | d :: ds, ρ, h => by
    unfold forL
    rcases h1 d ds ρ h with ⟨ρ', e, h'⟩ | ⟨x, m, ρ', e, r⟩ | ⟨c, ρ', e, r⟩
    · rw [e]
      exact forL_by h0 h1 ds ρ' h'
    · rw [e]
      exact r
    · rw [e]
      exact r
/-- a loop, done: R of its outcome -/
theorem forL_to {i : Nat} {u : CV → Out} {I : List D → CV → Prop} {R : Out → Prop} {ds : List D} {ρ : CV} (h : I ds ρ) (h0 : ∀ ρ, I [] ρ → R (.nx ρ)) (h1 : ∀ d ds ρ, I (d :: ds) ρ → (∃ ρ', u (ρ.set i (.val d)) = .nx ρ' ∧ I ds ρ') ∨ (∃ x m ρ', u (ρ.set i (.val d)) = .rt x m ρ' ∧ R (.rt x m ρ')) ∨ ∃ c ρ', u (ρ.set i (.val d)) = .er c ρ' ∧ R (.er c ρ')) : R (forL i u ds ρ) := forL_by h0 h1 ds ρ h
theorem mLst_go {fa : CV → Rs (List (D × Md))} {ρ : CV} {ds : List (D × Md)} {es : List D} (e : fa ρ = .ok ds) (h : ds.all okEl = true ∧ ds.length ≤ 1000) (hs : ds.map (·.1) = es) : mLst fa ρ = .ok (.list es, .fr) := by
  rw [mLst_ok e h, hs]
theorem mTup_go {fa : CV → Rs (List (D × Md))} {ρ : CV} {ds : List (D × Md)} {d : D} (e : fa ρ = .ok ds) (h : ds.all okEl = true ∧ ds.length ≤ 1000) (hs : PyData.tuple (ds.map (·.1)) = d) : mTup fa ρ = .ok (d, .cl) := by
  rw [mTup_ok e h, hs]
theorem sShr_go {i : Nat} {u : CV → Out} {ρ ρ' : CV} {o : Out} (h : shr i ρ = ρ') (h2 : u ρ' = o) : sShr i u ρ = o := by
  subst h
  exact h2
theorem sApp_pop {i : Nat} {fx : CV → Rs (D × CV)} {ρ ρ' ρ'' : CV} {d : D} {ds ds0 : List D} (h : ρ[i]? = some (.own ds0)) (e : fx ρ = .ok (d, ρ')) (h2 : ρ'[i]? = some (.own ds)) (hl : ds.length ≤ 1000) (hs : ρ'.set i (.own (ds ++ [d])) = ρ'') : sApp i fx ρ = .nx ρ'' := by
  unfold sApp
  rw [h]
  simp only
  rw [e]
  simp only
  rw [h2]
  simp only
  rw [if_pos (by omega), hs]
theorem mConsX_go {fx : CV → Rs (D × CV)} {fxa : CV → Rs (List D × CV)} {ρ ρ1 ρ2 : CV} {d : D} {ds : List D} (e : fx ρ = .ok (d, ρ1)) (e2 : fxa ρ1 = .ok (ds, ρ2)) : mConsX fx fxa ρ = .ok (d :: ds, ρ2) := by
  unfold mConsX
  rw [e]
  simp only [Rs.bind]
  rw [e2]
theorem mNilX_go {ρ : CV} : mNilX ρ = .ok ([], ρ) := rfl
theorem mTupX_go {fxa : CV → Rs (List D × CV)} {ρ ρ1 : CV} {ds : List D} {d : D} (e : fxa ρ = .ok (ds, ρ1)) (hl : ds.length ≤ 1000) (hd : PyData.tuple ds = d) : mTupX fxa ρ = .ok (d, ρ1) := by
  unfold mTupX
  rw [e]
  simp only [Rs.bind]
  rw [if_pos hl, hd]
theorem whL_by {t : CV → Rs Bool} {u : CV → Out} {I : Nat → CV → Prop} {R : CV → Prop} (step : ∀ n ρ, I n ρ → (t ρ = .ok false ∧ R ρ) ∨ ∃ n' ρ', n' < n ∧ t ρ = .ok true ∧ u ρ = .nx ρ' ∧ I n' ρ') : ∀ (f n : Nat) (ρ : CV), I n ρ → n < f → ∃ ρ', whL t u f ρ = .nx ρ' ∧ R ρ'
  | 0, n, ρ, _, h => by omega
  | f + 1, n, ρ, hi, h => by
    rcases step n ρ hi with ⟨e, r⟩ | ⟨n', ρ', hn, e, e2, hi'⟩
    · exact ⟨ρ, whL_done e, r⟩
    · obtain ⟨ρ2, e3, r⟩ := whL_by step f n' ρ' hi' (by omega)
      exact ⟨ρ2, (whL_step e e2).trans e3, r⟩
theorem beq_swap (a k : Str) : (a == k) = decide (k = a) := by
  by_cases h : k = a
  · subst h
    rw [decide_eq_true rfl]
    exact beq_self_eq_true k
  · rw [decide_eq_false h]
    exact beq_eq_false_iff_ne.mpr fun z => h z.symm
theorem hIn2 (k a b : Str) (m m2 : Md) : hIn (.str k, m) (.list [.str a, .str b], m2) = some (decide (k = a) || decide (k = b)) := by
  unfold hIn
  dsimp only
  rw [if_pos ⟨rfl, rfl⟩]
  show some (((a == k) || ((b == k) || false))) = _
  rw [Bool.or_false, beq_swap, beq_swap]
theorem hIn3 (k a b c : Str) (m m2 : Md) : hIn (.str k, m) (.list [.str a, .str b, .str c], m2) = some (decide (k = a) || (decide (k = b) || decide (k = c))) := by
  unfold hIn
  dsimp only
  rw [if_pos ⟨rfl, rfl⟩]
  show some (((a == k) || ((b == k) || ((c == k) || false)))) = _
  rw [Bool.or_false, beq_swap, beq_swap, beq_swap]
theorem mCallIo_go {ios : List Nat} {M : CV → RF} {fa : CV → Rs (List Eng.Arg)} {ρ ρ2 ρ' cs : CV} {as : List Eng.Arg} {d : D} (e : fa ρ = .ok as) (h : as.all (clI ρ) = true ∧ (ioOf as 0).map (·.1) = ios ∧ nodupB ((ioOf as 0).map (·.2)) = true) (hc : as.map (cellOf ρ) = cs) (e2 : M cs = .ok ((d, .cl), ρ2)) (hs : ioSet (ioOf as 0) ρ ρ2 = ρ') : mCallIo ios M fa ρ = .ok (d, ρ') := by
  subst hc hs
  unfold mCallIo
  rw [e]
  dsimp only
  rw [if_pos h, e2]
  rfl
theorem ioSet_one {j i : Nat} {ρ ρ2 : CV} {c : Cell} (h : ρ2[j]? = some c) : ioSet [(j, i)] ρ ρ2 = ρ.set i c := by
  show ρ.set i (ρ2.getD j .un) = _
  rw [List.getD_eq_getElem?_getD, h]
  rfl
theorem mConsV_go {f : CV → Rs (D × Md)} {g : CV → Rs (List Eng.Arg)} {ρ : CV} {x : D × Md} {xs : List Eng.Arg} (e : f ρ = .ok x) (e2 : g ρ = .ok xs) : mConsV f g ρ = .ok (.v x :: xs) := by
  unfold mConsV
  rw [e]
  simp only [Rs.bind]
  rw [e2]
theorem mConsIo_go {i : Nat} {g : CV → Rs (List Eng.Arg)} {ρ : CV} {ds : List D} {xs : List Eng.Arg} (e : ρ[i]? = some (.own ds)) (e2 : g ρ = .ok xs) : mConsIo i g ρ = .ok (.io i :: xs) := by
  unfold mConsIo
  rw [e]
  simp only
  rw [e2]
  rfl
theorem mNilI_go {ρ : CV} : mNilI ρ = .ok [] := rfl
theorem ix_end (l : List D) (x : D) {m m2 : Md} (hm : itCl m = true) : hIx (.list (l ++ [x]), m) (.int (-1), m2) = some (x, .cl) := by
  have e : atI (l ++ [x]) (-1) = some x := atI_last l x
  unfold hIx
  dsimp only
  rw [e]
  unfold itMode
  simp only [Option.map_some]
  rw [if_pos hm]
theorem mIsi_go {ty : String} {f : CV → Rs (D × Md)} {ρ : CV} {d : D} {m : Md} (e : f ρ = .ok (d, m)) : mIsi ty f ρ = .ok (.bool (isD ty d), .cl) := mIsi_ok e
local macro_rules | `(tactic| walk_at "l") => `(tactic| ((try simp only [List.map_cons, List.map_nil, toCell_cl, toCell_fr, toCell_ow, toCell_vw, toCell_fz, List.set_cons_zero, List.set_cons_succ, shr_succ, shr_v, shr_o, shr_u, shr_f]); try exact rfl))
local macro_rules | `(tactic| walk_at "c") => `(tactic| with_reducible assumption)
local macro_rules | `(tactic| walk_at "o") => `(tactic| first
  | with_reducible exact hAdd_int
  | with_reducible exact hSub_int
  | with_reducible exact hMod_ok (by omega)
  | with_reducible exact hDiv_big (by omega)
  | with_reducible exact hMul_int (mulOk_r (by omega))
  | with_reducible exact hMul_int (mulOk_l (by omega))
  | with_reducible exact hEq_int _ _ _ _
  | with_reducible exact hEq_str _ _ _ _
  | with_reducible exact hEq_bool _ _ _ _
  | with_reducible exact hNe_int _ _ _ _
  | with_reducible exact hNe_str _ _ _ _
  | with_reducible exact hLt_int _ _ _ _
  | with_reducible exact hGt_int _ _ _ _
  | with_reducible exact hLe_int _ _ _ _
  | with_reducible exact hGe_int _ _ _ _
  | with_reducible exact hIsN_n _ _ _
  | with_reducible exact hNotN_n _ _ _
  | with_reducible exact mMax2
  | with_reducible exact hIn2 _ _ _ _ _
  | with_reducible exact hIn3 _ _ _ _ _ _
  | with_reducible exact mMin2
  | with_reducible exact hLen_list
  | with_reducible exact hLen_tuple
  | with_reducible exact (ix_row _ rfl).1
  | with_reducible exact (ix_row _ rfl).2.1
  | with_reducible exact (ix_row _ rfl).2.2.1
  | with_reducible exact (ix_row _ rfl).2.2.2
  | with_reducible assumption
  | exact rfl)
local macro_rules | `(tactic| walk_at "e") => `(tactic| first
  | with_reducible exact mK_ok
  | with_reducible exact mNilI_go
  | ((with_reducible refine' mConsV_go ?a ?b); (case a => walk_at "e"); (case b => walk_at "e"))
  | ((with_reducible refine' mConsIo_go ?a ?b); (case a => exact rfl); (case b => walk_at "e"))
  | with_reducible exact mNil_ok
  | with_reducible exact mNoP_ok
  | with_reducible assumption
  | exact (rfl : mVar _ _ = _)
  | ((with_reducible refine' mBin_ok ?a ?b ?c); (case a => walk_at "e"); (case b => walk_at "e"); (case c => walk_at "o"))
  | ((with_reducible refine' mVal_ok ?a); (case a => walk_at "e"))
  | ((with_reducible refine' mCmp_ok ?a ?b ?c); (case a => walk_at "e"); (case b => walk_at "e"); (case c => walk_at "o"))
  | ((with_reducible refine' mBool_ok ?a); (case a => walk_at "e"))
  | ((with_reducible refine' mNot_ok ?a); (case a => walk_at "e"))
  | ((with_reducible refine' mCons_ok ?a ?b); (case a => walk_at "e"); (case b => walk_at "e"))
  | ((with_reducible refine' mPart_ok ?a); (case a => walk_at "e"))
  | ((with_reducible refine' mUn_ok ?a ?b); (case a => walk_at "e"); (case b => walk_at "o"))
  | ((with_reducible refine' mIsi_go ?a); (case a => walk_at "e"))
  | ((with_reducible refine' mCallB_ok ?a ?b); (case a => walk_at "e"); (case b => walk_at "o"))
  | ((with_reducible refine' mLst_go ?a ?b ?c); (case a => walk_at "e"); (case b => exact ⟨rfl, Nat.le_of_ble_eq_true rfl⟩); (case c => walk_at "l"))
  | ((with_reducible refine' mTup_go ?a ?b ?c); (case a => walk_at "e"); (case b => exact ⟨rfl, Nat.le_of_ble_eq_true rfl⟩); (case c => walk_at "l"))
  | ((with_reducible refine' rCall ?a ?b ?c ?d); (case a => walk_at "e"); (case b => walk_at "l"); (case c => exact rfl); (case d => walk_at "c"))
  | ((with_reducible refine' rCallL ?a ?b ?c ?d); (case a => walk_at "e"); (case b => walk_at "l"); (case c => walk_at "c"); (case d => exact rfl))
  | ((with_reducible refine' rCallF ?a ?b ?c ?d ?e); (case a => walk_at "e"); (case b => walk_at "l"); (case c => exact rfl); (case d => walk_at "c"); (case e => first | exact .inl rfl | exact .inr rfl))
  | (simp only [shr_succ, shr_v, shr_o, shr_u, shr_f]; walk_at "e"))
local macro_rules | `(tactic| walk_at "s") => `(tactic| first
  | ((with_reducible refine' sSeq_go ?a ?b); (case a => walk_at "s"); (case b => walk_at "s"))
  | ((with_reducible refine' sShr_go ?a ?b); (case a => walk_at "l"); (case b => walk_at "s"))
  | ((with_reducible refine' sSet_cl ?a ?b); (case a => walk_at "e"); (case b => walk_at "l"))
  | ((with_reducible refine' sSet_fr ?a ?b); (case a => walk_at "e"); (case b => walk_at "l"))
  | ((with_reducible refine' sSetX_go (mPop_go ?a ?b) ?c); (case a => exact rfl); (case b => walk_at "l"); (case c => walk_at "l"))
  | ((with_reducible refine' sApp_go ?a (mLift_go ?b ?c) ?d ?e); (case a => exact rfl); (case b => walk_at "e"); (case c => exact rfl); (case d => first | omega | (simp; done) | (simp; omega)); (case e => walk_at "l"))
  | ((with_reducible refine' sRet_ok ?a ?b); (case a => walk_at "e"); (case b => decide))
  | ((with_reducible refine' sRetOwn_val ?a); (case a => exact rfl))
  | ((with_reducible refine' sRetOwn_own ?a); (case a => exact rfl))
  | with_reducible exact sNx_ok
  | (simp only [shr_succ, shr_v, shr_o, shr_u, shr_f]; walk_at "s"))
/-! names -/
def untold (t : List R4) (w : List Nat) : Prop := roleR t (tS0 w) true = none ∧ roleR t (tS0 w) false = none
local macro_rules | `(tactic| walk_at "c") => `(tactic| with_reducible exact law_role_ok _ _ _)
theorem hIx_w {ws : List (List Nat)} {m m2 : Md} {k : Int} (hm : itCl m = true) (h0 : 0 ≤ k) (h1 : k < ws.length) : ∃ w, ws[k.toNat]? = some w ∧ hIx (.list (strsD ws), m) (.int k, m2) = some (.str (tS0 w), .cl) := by
  have i1 : k.toNat < ws.length := by omega
  have iw := hIx_strs (ws := ws) (m := m) (m2 := m2) hm (List.getElem?_eq_getElem i1)
  rw [Int.toNat_of_nonneg h0] at iw
  exact ⟨_, List.getElem?_eq_getElem i1, iw⟩
theorem isNone_opt (o : Option R4) : isNoneD (optD o) = o.isNone := by cases o <;> rfl
theorem untold_iff {t : List R4} {w : List Nat} : ((roleR t (tS0 w) true).isNone && (roleR t (tS0 w) false).isNone) = true ↔ untold t w := by
  unfold untold
  rw [Bool.and_eq_true, Option.isNone_iff_eq_none, Option.isNone_iff_eq_none]
/-! tables, whole -/
structure TabOk (t : List R4) : Prop where
  ok : ∀ r ∈ t, TellOk r
  uni : ∀ r ∈ t, roleR t (tS0 r.w) (decide (r.k = "before")) = some r
  kin : ∀ r ∈ t, ∀ s ∈ t, r.p = s.p → r.k = s.k
theorem roleR_append (t : List R4) (r : R4) (w : Str) (ah : Bool) : roleR (t ++ [r]) w ah = (roleR t w ah).or (if hits w ah r then some r else none) := by
  unfold roleR
  rw [List.find?_append]
  congr 1
  unfold List.find?
  cases hits w ah r <;> rfl
theorem TabOk.nil : TabOk [] := ⟨fun _ h => by simp at h, fun _ h => by simp at h, fun _ h => by simp at h⟩
theorem hits_self (r : R4) : hits (tS0 r.w) (decide (r.k = "before")) r = true := by
  unfold hits
  rw [decide_eq_true rfl, decide_eq_true rfl]
  rfl
theorem TabOk.add {t : List R4} {r : R4} (h : TabOk t) (hr : TellOk r) (hc : clashR t r = false) : TabOk (t ++ [r]) := by
  unfold clashR at hc
  rw [Bool.or_eq_false_iff] at hc
  obtain ⟨hc1, hc2⟩ := hc
  have no : roleR t (tS0 r.w) (decide (r.k = "before")) = none := by
    cases e : roleR t (tS0 r.w) (decide (r.k = "before")) with
    | none => rfl
    | some x => rw [e] at hc2; cases hc2
  have kn : ∀ x ∈ t, x.p = r.p → x.k = r.k := fun x hx hp => by
    have := List.any_eq_false.mp hc1 x hx
    unfold clashH at this
    rw [decide_eq_true hp, Bool.true_and] at this
    simpa using this
  refine ⟨fun x hx => ?_, fun x hx => ?_, fun x hx y hy hp => ?_⟩
  · rcases List.mem_append.mp hx with (hx | hx)
    · exact h.ok x hx
    · rw [List.mem_singleton.mp hx]; exact hr
  · rcases List.mem_append.mp hx with (hx | hx)
    · rw [roleR_append, h.uni x hx]; rfl
    · rw [List.mem_singleton.mp hx, roleR_append, no, hits_self]; rfl
  · rcases List.mem_append.mp hx with (hx | hx) <;> rcases List.mem_append.mp hy with (hy | hy)
    · exact h.kin x hx y hy hp
    · rw [List.mem_singleton.mp hy] at hp ⊢; exact kn x hx hp
    · rw [List.mem_singleton.mp hx] at hp ⊢; exact (kn y hy hp.symm).symm
    · rw [List.mem_singleton.mp hx, List.mem_singleton.mp hy]
theorem roleR_mem {t : List R4} {w : Str} {ah : Bool} {r : R4} (h : roleR t w ah = some r) : r ∈ t := List.mem_of_find?_eq_some h
theorem roleR_hits {t : List R4} {w : Str} {ah : Bool} {r : R4} (h : roleR t w ah = some r) : tS0 r.w = w ∧ decide (r.k = "before") = ah := by
  have := List.find?_some h
  unfold hits at this
  rw [Bool.and_eq_true, decide_eq_true_eq, decide_eq_true_eq] at this
  exact this
/-- a telling, with its word's place -/
theorem telling_ok2 (c : Int) {ws : List (List Nat)} (hws : WordsOk ws) : ∃ r, TellOk r ∧ r.w ∈ ws.take 6 ∧ retR (m__law_telling_by [.val (.int c), .val (.list (strsD ws))]) = .ok (rowD r, .cl) := by
  obtain ⟨kd, hk, ek⟩ := kind_at c
  have p1 := Int.emod_nonneg (c / 600) (show (6 : Int) ≠ 0 by decide)
  have p2 := Int.emod_lt_of_pos (c / 600) (show (0 : Int) < 6 by decide)
  obtain ⟨w, hw, iw⟩ := hIx_w (ws := ws) (m := .cl) (m2 := .cl) (k := c / 600 % 6) rfl p1 (by rw [hws.1]; omega)
  have q1 := Int.emod_nonneg (c / 20) (show (30 : Int) ≠ 0 by decide)
  have q2 := Int.emod_lt_of_pos (c / 20) (show (0 : Int) < 30 by decide)
  have q3 := Int.emod_nonneg (c / 20) (show (6 : Int) ≠ 0 by decide)
  have q4 := Int.emod_lt_of_pos (c / 20) (show (0 : Int) < 6 by decide)
  have w6 : w ∈ ws.take 6 := by
    refine List.mem_of_getElem? (i := (c / 600 % 6).toNat) ?_
    (rw [List.getElem?_take_of_lt (by omega)])
    exact hw
  have t1 : b__law_telling_by_1 [.val (.int c), .val (.list (strsD ws)), .un, .un] = .nx [.val (.int c), .val (.list (strsD ws)), .val (.str kd), .un] := by walk_at "s"
  have t2 : b__law_telling_by_2 [.val (.int c), .val (.list (strsD ws)), .val (.str kd), .un] = .nx [.val (.int c), .val (.list (strsD ws)), .val (.str kd), .val (.int (1 + c / 20 % 30))] := by walk_at "s"
  have tc : mCmp hGt (mBin hMod (mBin hDiv (mVar 0) (mK (.int 5))) (mK (.int 4))) (mK (.int 0)) [.val (.int c), .val (.list (strsD ws)), .val (.str kd), .val (.int (1 + c / 20 % 30))] = .ok (decide (0 < c / 5 % 4)) := by walk_at "e"
  have t4 : ∀ p : Int, b__law_telling_by_4 [.val (.int c), .val (.list (strsD ws)), .val (.str kd), .val (.int p)] = .rt (rowD ⟨kd, p, w⟩) .cl [.val (.int c), .val (.list (strsD ws)), .val (.str kd), .val (.int p)] := fun p => by walk_at "s"
  by_cases h : 0 < c / 5 % 4
  · refine ⟨⟨kd, 1 + c / 20 % 6, w⟩, ⟨hk, by show (1 : Int) ≤ 1 + c / 20 % 6; omega, by show 1 + c / 20 % 6 ≤ (30 : Int); omega, hws.2 w (List.mem_of_getElem? hw)⟩, w6, ?_⟩
    have t3 : b__law_telling_by_3 [.val (.int c), .val (.list (strsD ws)), .val (.str kd), .val (.int (1 + c / 20 % 30))] = .nx [.val (.int c), .val (.list (strsD ws)), .val (.str kd), .val (.int (1 + c / 20 % 6))] := sIf_t (tc.trans (by rw [decide_eq_true h])) (by walk_at "s")
    refine retR_rt (ρ' := [.val (.int c), .val (.list (strsD ws)), .val (.str kd), .val (.int (1 + c / 20 % 6))]) ?_
    show b__law_telling_by [.val (.int c), .val (.list (strsD ws)), .un, .un] = _
    exact sSeq_go t1 (sSeq_go t2 (sSeq_go t3 (t4 _)))
  · refine ⟨⟨kd, 1 + c / 20 % 30, w⟩, ⟨hk, by show (1 : Int) ≤ 1 + c / 20 % 30; omega, by show 1 + c / 20 % 30 ≤ (30 : Int); omega, hws.2 w (List.mem_of_getElem? hw)⟩, w6, ?_⟩
    have t3 : b__law_telling_by_3 [.val (.int c), .val (.list (strsD ws)), .val (.str kd), .val (.int (1 + c / 20 % 30))] = .nx [.val (.int c), .val (.list (strsD ws)), .val (.str kd), .val (.int (1 + c / 20 % 30))] := sIf_f (tc.trans (by rw [decide_eq_false h])) rfl
    refine retR_rt (ρ' := [.val (.int c), .val (.list (strsD ws)), .val (.str kd), .val (.int (1 + c / 20 % 30))]) ?_
    show b__law_telling_by [.val (.int c), .val (.list (strsD ws)), .un, .un] = _
    exact sSeq_go t1 (sSeq_go t2 (sSeq_go t3 (t4 _)))
/-- a table -/
theorem table_ok2 {ws : List (List Nat)} (hws : WordsOk ws) (cs : List Int) (hc : cs.length ≤ 60) : ∃ t : List R4, TabOk t ∧ t.length ≤ cs.length ∧ (∀ r ∈ t, r.w ∈ ws.take 6) ∧ retR (m__law_table_by [.val (.list (cs.map PyData.int)), .val (.list (strsD ws))]) = .ok (.list (t.map rowD), .ow) := by
  let R : Out → Prop := fun o => ∃ (t : List R4) (x y : Cell), TabOk t ∧ t.length ≤ cs.length ∧ (∀ r ∈ t, r.w ∈ ws.take 6) ∧ o = .nx [.val (.list (cs.map PyData.int)), .val (.list (strsD ws)), .own (t.map rowD), x, y]
  have loop : R (forL 3 (sSeq b__law_table_by_2_1 b__law_table_by_2_2) (cs.map PyData.int) [.val (.list (cs.map PyData.int)), .val (.list (strsD ws)), .own [], .un, .un]) := by
    refine forL_to (I := fun ds ρ => (∃ es : List Int, ds = es.map PyData.int ∧ es.length ≤ cs.length ∧ ∃ (t : List R4) (x y : Cell), TabOk t ∧ t.length + es.length ≤ cs.length ∧ (∀ r ∈ t, r.w ∈ ws.take 6) ∧ ρ = [.val (.list (cs.map PyData.int)), .val (.list (strsD ws)), .own (t.map rowD), x, y])) ⟨cs, rfl, Nat.le_refl _, [], .un, .un, TabOk.nil, by simp, fun _ h => by simp at h, rfl⟩ ?_ ?_
    · rintro ρ ⟨es, _, _, t, x, y, h1, h2, h3, rfl⟩
      exact ⟨t, x, y, h1, by omega, h3, rfl⟩
    · rintro d ds ρ ⟨es, he, hel, t, x, y, h1, h2, h3, rfl⟩
      cases es with
      | nil => cases he
      | cons c es =>
        cases he
        rw [List.length_cons] at h2 hel
        obtain ⟨r, hr, h6, er⟩ := telling_ok2 c hws
        have cl := clash_ok t r
        have t1 : b__law_table_by_2_1 [.val (.list (cs.map PyData.int)), .val (.list (strsD ws)), .own (t.map rowD), .val (.int c), y] = .nx [.val (.list (cs.map PyData.int)), .val (.list (strsD ws)), .own (t.map rowD), .val (.int c), .val (rowD r)] := by walk_at "s"
        have tc : mNot (mBool (mCall m__law_clash (mCons (mVar 2) (mCons (mVar 4) (mNil))))) [.val (.list (cs.map PyData.int)), .val (.list (strsD ws)), .own (t.map rowD), .val (.int c), .val (rowD r)] = .ok (!clashR t r) := by walk_at "e"
        cases h : clashR t r with
        | true =>
          refine .inl ⟨_, sSeq_go t1 (sIf_f (tc.trans (by rw [h]; rfl)) rfl), es, rfl, by omega, t, _, _, h1, by omega, h3, rfl⟩
        | false =>
          have t2 : b__law_table_by_2_2 [.val (.list (cs.map PyData.int)), .val (.list (strsD ws)), .own (t.map rowD), .val (.int c), .val (rowD r)] = .nx [.val (.list (cs.map PyData.int)), .val (.list (strsD ws)), .own ((t ++ [r]).map rowD), .val (.int c), .val (rowD r)] := by
            refine sIf_t (tc.trans (by rw [h]; rfl)) ?_
            rw [List.map_append]
            walk_at "s"
          refine .inl ⟨_, sSeq_go t1 t2, es, rfl, by omega, t ++ [r], _, _, h1.add hr h, by rw [List.length_append, List.length_singleton]; omega, fun x hx => ?_, rfl⟩
          rcases List.mem_append.mp hx with (hx | hx)
          · exact h3 x hx
          · rw [List.mem_singleton.mp hx]; exact h6
  obtain ⟨t, x, y, h1, h2, h3, e⟩ := loop
  refine ⟨t, h1, h2, h3, retR_rt (ρ' := [.val (.list (cs.map PyData.int)), .val (.list (strsD ws)), .own (t.map rowD), x, y]) ?_⟩
  show b__law_table_by [.val (.list (cs.map PyData.int)), .val (.list (strsD ws)), .un, .un, .un] = _
  refine sSeq_go (ρ' := [.val (.list (cs.map PyData.int)), .val (.list (strsD ws)), .own [], .un, .un]) (by walk_at "s") (sSeq_go ((sFor_ok rfl).trans e) ?_)
  walk_at "s"
/-! cells -/
def cellsI (ns : List Int) (lo hi : Nat) : List Int := (List.range (min hi ns.length - lo)).map fun j => cellI ns (lo + j)
theorem cellsI_len (ns : List Int) (lo hi : Nat) : (cellsI ns lo hi).length ≤ hi - lo := by
  unfold cellsI
  (rw [List.length_map, List.length_range])
  omega
section
variable {ns : List Int} {m : Md}
theorem scr_var (hm : m = .fz ∨ m = .cl) (l : CV) : mVar 0 (scrC ns m :: l) = .ok (.list (ns.map PyData.int), m) := by rcases hm with rfl | rfl <;> rfl
theorem scr_clA (hm : m = .fz ∨ m = .cl) : clA m = true := by rcases hm with rfl | rfl <;> rfl
theorem cell_go (hm : m = .fz ∨ m = .cl) {i : Int} (h0 : 0 ≤ i) (l : CV) : mCall m__law_cell_at (mCons (mVar 0) (mCons (mK (.int i)) mNil)) (scrC ns m :: l) = .ok (.int (cellI ns i.toNat), .cl) := by
  have e := cell_at_ok (ns := ns) hm i.toNat
  (rw [Int.toNat_of_nonneg h0] at e)
  refine (mCall_ok (ds := [(.list (ns.map PyData.int), m), (.int i, .cl)]) (mCons_ok (scr_var hm l) (mCons_ok mK_ok mNil_ok)) e).trans ?_
  show ofO (callMd (clA m && true) _ _) = _
  rw [scr_clA hm]
  rfl
theorem cells_ok2 (hm : m = .fz ∨ m = .cl) (lo hi : Nat) (h1 : lo ≤ 1000) (h2 : hi ≤ 1000) : retR (m__law_cells [scrC ns m, .val (.int lo), .val (.int hi)]) = .ok (.list ((cellsI ns lo hi).map PyData.int), .fr) := by
  obtain ⟨z, hz, mz, hmz, hv⟩ : ∃ z, z = scrC ns m ∧ ∃ mz, (mz = .fz ∨ mz = .cl) ∧ ∀ a b c : Cell, mVar 0 [z, a, b, c] = .ok (.list (ns.map PyData.int), mz) := ⟨_, rfl, m, hm, fun a b c => scr_var hm _⟩
  rw [← hz]
  have hlen : mCallB hLen (mCons (mVar 0) mNil) [z, .val (.int lo), .val (.int hi), .un] = .ok (.int (ns.length : Int), .cl) := mCallB_ok (mCons_ok (hv _ _ _) mNil_ok) (by show some (PyData.int ((ns.map PyData.int).length : Int), Md.cl) = _; rw [List.length_map])
  have hr : mRange2 (mCons (mVar 1) (mCons (mCallB hMin2 (mCons (mVar 2) (mCons (mCallB hLen (mCons (mVar 0) (mNil))) (mNil)))) (mNil))) [z, .val (.int lo), .val (.int hi), .un] = .ok (rangeD lo (min hi ns.length - lo)) := by
    have e : min (hi : Int) (ns.length : Int) - (lo : Int) = ((min hi ns.length : Nat) : Int) - (lo : Int) := by omega
    have e2 : (min (hi : Int) (ns.length : Int) - (lo : Int)).toNat = min hi ns.length - lo := by omega
    rw [← e2]
    exact mRange2_int (mCons_ok (x := (.int lo, .cl)) rfl (mCons_ok (mCallB_ok (mCons_ok (x := (.int hi, .cl)) rfl (mCons_ok hlen mNil_ok)) mMin2) mNil_ok)) ⟨by omega, by omega, by omega, by omega⟩
  have hl := mLc_ok (i := 3) (el := mCall m__law_mixed (mCons (mBin hIx (mVar 0) (mVar 3)) (mCons (mVar 3) (mNil)))) (g := fun d => match d with | .int i => .int (cellI ns i.toNat) | _ => .none) hr (by rw [rangeD_len]; omega) (fun x hx => by
    unfold rangeD at hx
    obtain ⟨j, hj, rfl⟩ := List.mem_map.mp hx
    have hj := List.mem_range.mp hj
    have ei : ((lo : Int) + (j : Int)) = ((lo + j : Nat) : Int) := by omega
    have hlt : lo + j < ns.length := by omega
    have ea : atI (ns.map PyData.int) (((lo + j : Nat) : Nat) : Int) = some (.int ns[lo + j]) := atI_nat (by rw [List.getElem?_map, List.getElem?_eq_getElem hlt]; rfl)
    have ix : hIx (.list (ns.map PyData.int), mz) (.int ((lo : Int) + (j : Int)), .cl) = some (.int ns[lo + j], .cl) := by
      unfold hIx
      dsimp only
      rw [ei, ea]
      rcases hmz with rfl | rfl <;> rfl
    refine ⟨.cl, ?_, rfl⟩
    have mx := mixed_ok ns[lo + j] ((lo : Int) + (j : Int))
    have eg : cellI ns ((lo : Int) + (j : Int)).toNat = mixI ns[lo + j] ((lo : Int) + (j : Int)) := by
      rw [ei, Int.toNat_natCast]
      unfold cellI
      rw [List.getElem?_eq_getElem hlt]
    show _ = Rs.ok (PyData.int (cellI ns ((lo : Int) + (j : Int)).toNat), Md.cl)
    rw [eg]
    exact (mCall_ok (mCons_ok (mBin_ok (hv _ _ _) (y := (.int ((lo : Int) + (j : Int)), .cl)) rfl ix) (mCons_ok (x := (.int ((lo : Int) + (j : Int)), .cl)) rfl mNil_ok)) mx).trans rfl)
  refine retR_rt (ρ' := [z, .val (.int lo), .val (.int hi), .un]) ?_
  show b__law_cells [z, .val (.int lo), .val (.int hi), .un] = _
  refine (sRet_ok hl (by decide)).trans ?_
  congr 1
  unfold rangeD cellsI
  (rw [List.map_map, List.map_map])
  congr 1
theorem cells_go (hm : m = .fz ∨ m = .cl) {lo hi : Int} (h0 : 0 ≤ lo ∧ 0 ≤ hi ∧ lo ≤ 1000 ∧ hi ≤ 1000) {f g : CV → Rs (D × Md)} (l : CV) (e1 : f (scrC ns m :: l) = .ok (.int lo, .cl)) (e2 : g (scrC ns m :: l) = .ok (.int hi, .cl)) :
    mCall m__law_cells (mCons (mVar 0) (mCons f (mCons g mNil))) (scrC ns m :: l) = .ok (.list ((cellsI ns lo.toNat hi.toNat).map PyData.int), .fr) := by
  have e := cells_ok2 (ns := ns) hm lo.toNat hi.toNat (by omega) (by omega)
  rw [Int.toNat_of_nonneg h0.1, Int.toNat_of_nonneg h0.2.1] at e
  refine (mCall_ok (ds := [(.list (ns.map PyData.int), m), (.int lo, .cl), (.int hi, .cl)]) (mCons_ok (scr_var hm l) (mCons_ok e1 (mCons_ok e2 mNil_ok))) e).trans ?_
  show ofO (callMd (clA m && true) _ _) = _
  rw [scr_clA hm]
  rfl
end
/-! the program's names -/
theorem hLe_str (a b : Str) (m m2 : Md) : hLe (.str a, m) (.str b, m2) = some (!decide (b.cps.toList < a.cps.toList)) := rfl
def wordT (l : List Nat) : Bool := !decide (tS0 l = "tell") && ((decide ((1 : Int) ≤ (l.length : Int)) && decide ((l.length : Int) ≤ 8)) && l.all (inB "();"))
theorem wordT_iff {l : List Nat} : wordT l = true ↔ wordOk l := by
  unfold wordT wordOk
  rw [Bool.and_eq_true, Bool.and_eq_true, Bool.and_eq_true, Bool.not_eq_true', decide_eq_false_iff_not, decide_eq_true_eq, decide_eq_true_eq]
  constructor
  · rintro ⟨h1, ⟨h2, h3⟩, h4⟩
    exact ⟨by omega, by omega, h4, h1⟩
  · rintro ⟨h1, h2, h3, h4⟩
    exact ⟨h4, ⟨by omega, by omega⟩, h3⟩
theorem hLen_text {l : List Nat} {m : Md} (h : l.length ≤ 1000) : hLen [(.str (tS0 l), m)] = some (.int l.length, .cl) := by
  unfold hLen
  dsimp only
  have e : (tS0 l).length = l.length := tS0_len l
  first
    | rw [if_pos (le_line (by rw [e]; exact h)), e]
    | rw [e]
theorem is_word_ok {l : List Nat} (h : l.length ≤ 1000) : retR (m_is_word [.val (.str (tS0 l))]) = .ok (.bool (wordT l), .cl) := by
  refine retR_rt (ρ' := [.val (.str (tS0 l))]) ?_
  show b_is_word [.val (.str (tS0 l))] = _
  have t1 : mOr (mNot (mBool (mIsi "str" (mVar 0)))) (mCmp hEq (mVar 0) (mK (.str "tell"))) [.val (.str (tS0 l))] = .ok ((!(isD "str" (PyData.str (tS0 l)))) || decide (tS0 l = "tell")) := mOr_ok (by walk_at "e") fun _ => by walk_at "e"
  have hl := hLen_text (m := .cl) h
  have e0 : mCallB hLen (mCons (mVar 0) (mNil)) [.val (.str (tS0 l))] = .ok (.int l.length, .cl) := by walk_at "e"
  by_cases ht : tS0 l = "tell"
  · have w : wordT l = false := by unfold wordT; rw [decide_eq_true ht]; rfl
    rw [w]
    exact sSeq_end (sIf_t (t1.trans (by rw [decide_eq_true ht]; rfl)) (by walk_at "s"))
  · have w : wordT l = ((decide ((1 : Int) ≤ (l.length : Int)) && decide ((l.length : Int) ≤ 8)) && l.all (inB "();")) := by unfold wordT; rw [decide_eq_false ht]; rfl
    rw [w]
    refine sSeq_go (sIf_f (t1.trans (by rw [decide_eq_false ht]; rfl)) rfl) (sRet_ok ?_ (by decide))
    have c1 : mVal (mChain hLe hLe (mK (.int 1)) (mCallB hLen (mCons (mVar 0) (mNil))) (mK (.int 8))) [.val (.str (tS0 l))] = .ok (.bool (decide ((1 : Int) ≤ (l.length : Int)) && decide ((l.length : Int) ≤ 8)), .cl) := by
      refine mVal_ok ?_
      unfold mChain
      rw [mK_ok, e0]
      simp only [Rs.bind, hLe_int, ofO]
      cases decide ((1 : Int) ≤ (l.length : Int)) <;> rfl
    unfold mAndV
    rw [mBool_ok c1]
    simp only [Rs.bind]
    cases hb : (decide ((1 : Int) ≤ (l.length : Int)) && decide ((l.length : Int) ≤ 8)) with
    | false => rfl
    | true => exact rfl
/-! tellings as the program knows them -/
theorem hEq_ss {a b : D} {m m2 : Md} (h : scD a b = true) : hEq (a, m) (b, m2) = some (eqS a b) := by
  unfold hEq
  dsimp only
  rw [if_pos h]
theorem mChain_go {h1 h2 : D × Md → D × Md → Option Bool} {f g k : CV → Rs (D × Md)} {ρ : CV} {x y z : D × Md} {p q : Bool} (e1 : f ρ = .ok x) (e2 : g ρ = .ok y) (e3 : k ρ = .ok z) (a1 : h1 x y = some p) (a2 : h2 y z = some q) : mChain h1 h2 f g k ρ = .ok (p && q) := by
  unfold mChain
  rw [e1, e2]
  simp only [Rs.bind]
  rw [a1]
  cases p with
  | false => rfl
  | true =>
    simp only [ofO, if_true]
    rw [e3]
    dsimp only
    rw [a2]
    rfl
def strengthB : D → Bool
  | .int i => decide (1 ≤ i) && decide (i ≤ 30)
  | _ => false
theorem isD_int (i : Int) : isD "int" (.int i) = true ∧ isD "bool" (.int i) = false := ⟨rfl, rfl⟩
theorem is_strength_ok (d : D) : retR (m_is_strength [.val d]) = .ok (.bool (strengthB d), .cl) := by
  have ti : mIsi "int" (mVar 0) [.val d] = .ok (.bool (isD "int" d), .cl) := mIsi_go (m := .cl) rfl
  have tb : mIsi "bool" (mVar 0) [.val d] = .ok (.bool (isD "bool" d), .cl) := mIsi_go (m := .cl) rfl
  have tt : mOr (mNot (mBool (mIsi "int" (mVar 0)))) (mBool (mIsi "bool" (mVar 0))) [.val d] = .ok (!(isD "int" d) || isD "bool" d) := mOr_ok (mNot_ok (mBool_ok ti)) fun _ => mBool_ok tb
  refine retR_rt (ρ' := [.val d]) ?_
  show b_is_strength [.val d] = _
  have no : (!(isD "int" d) || isD "bool" d) = true → strengthB d = false → b_is_strength [.val d] = .rt (.bool (strengthB d)) .cl [.val d] := fun h e => by
    rw [e]
    exact sSeq_end (sIf_t (tt.trans (by rw [h])) (sRet_ok mK_ok (by decide)))
  cases d with
  | int i =>
    have e : strengthB (.int i) = (decide ((1 : Int) ≤ i) && decide (i ≤ 30)) := rfl
    rw [e]
    exact sSeq_go (sIf_f tt rfl) (sRet_ok (mVal_ok (mChain_go (y := (.int i, .cl)) mK_ok rfl mK_ok (hLe_int _ _ _ _) (hLe_int _ _ _ _))) (by decide))
  | none => exact no rfl rfl
  | bool b => exact no rfl rfl
  | str s => exact no rfl rfl
  | list l => exact no rfl rfl
  | tuple l => exact no rfl rfl
  | dict l => exact no rfl rfl
theorem is_word_not {d : D} (h : isD "str" d = false) : retR (m_is_word [.val d]) = .ok (.bool false, .cl) := by
  refine retR_rt (ρ' := [.val d]) ?_
  show b_is_word [.val d] = _
  have tt : mOr (mNot (mBool (mIsi "str" (mVar 0)))) (mCmp hEq (mVar 0) (mK (.str "tell"))) [.val d] = .ok (!(isD "str" d) || false) := by
    have ti : mIsi "str" (mVar 0) [.val d] = .ok (.bool (isD "str" d), .cl) := mIsi_go (m := .cl) rfl
    rw [h] at ti ⊢
    exact mOr_ok (a := true) (mNot_ok (mBool_ok ti)) fun z => by cases z
  exact sSeq_end (sIf_t (tt.trans (by rw [h]; rfl)) (sRet_ok mK_ok (by decide)))
abbrev kindsD : List D := [.str "left", .str "right", .str "none", .str "before", .str "behind"]
theorem kinds_in {k : Str} (h : k ∈ kindsL) : inW (.str k) kindsD = some true := by
  simp only [kindsL, List.mem_cons, List.not_mem_nil, or_false] at h
  rcases h with rfl | rfl | rfl | rfl | rfl <;> decide +kernel
theorem inG_go {ds : List D} {f : CV → Rs (D × Md)} {ρ : CV} {x : D × Md} {p : Bool} (e : f ρ = .ok x) (h : inW x.1 ds = some p) : mInG ds f ρ = .ok p := by
  unfold mInG
  rw [e]
  simp only [Rs.bind]
  rw [h]
  rfl
theorem mAndV_f {f g : CV → Rs (D × Md)} {ρ : CV} {m : Md} (e : f ρ = .ok (.bool false, m)) : mAndV f g ρ = .ok (.bool false, .cl) := by
  unfold mAndV
  rw [mBool_ok e]
  rfl
theorem mAndV_t {f g : CV → Rs (D × Md)} {ρ : CV} {m : Md} {x : D × Md} (e : f ρ = .ok (.bool true, m)) (e2 : g ρ = .ok x) : mAndV f g ρ = .ok x := by
  unfold mAndV
  rw [mBool_ok e]
  exact e2
section
variable {a b c d : D}
theorem tell_start (r : Out) (h : b_is_telling_3 [.val (.tuple [a, b, c, d]), .val a, .val b, .val c, .val d] = r) : b_is_telling [.val (.tuple [a, b, c, d]), .un, .un, .un, .un] = r := by
  have ti : mIsi "tuple" (mVar 0) [Cell.val (.tuple [a, b, c, d]), .un, .un, .un, .un] = .ok (.bool true, .cl) := mIsi_go (d := .tuple [a, b, c, d]) (m := .cl) rfl
  have tl : mCallB hLen (mCons (mVar 0) (mNil)) [Cell.val (.tuple [a, b, c, d]), .un, .un, .un, .un] = .ok (.int 4, .cl) := mCallB_ok (mCons_ok rfl mNil_ok) hLen_tuple
  have tt : mOr (mNot (mBool (mIsi "tuple" (mVar 0)))) (mCmp hNe (mCallB hLen (mCons (mVar 0) (mNil))) (mK (.int 4))) [Cell.val (.tuple [a, b, c, d]), .un, .un, .un, .un] = .ok (!true || !decide ((4 : Int) = 4)) := mOr_ok (mNot_ok (mBool_ok ti)) fun _ => mCmp_ok tl mK_ok (hNe_int _ _ _ _)
  refine sSeq_go (sIf_f tt rfl) (sSeq_go (ρ' := [.val (.tuple [a, b, c, d]), .val a, .val b, .val c, .val d]) ?_ h)
  show sUnp [1, 2, 3, 4] (mVar 0) _ = _
  unfold sUnp
  rw [(rfl : mVar 0 [Cell.val (.tuple [a, b, c, d]), .un, .un, .un, .un] = .ok (.tuple [a, b, c, d], .cl))]
  rfl
/-- how much of it is asked -/
theorem telling_tup {x : Bool} (h : ∀ ρ, ρ = [Cell.val (.tuple [a, b, c, d]), .val a, .val b, .val c, .val d] → mAndV (mVal (mCmp hEq (mVar 1) (mK (.str "tell")))) (mAndV (mVal (mInG kindsD (mVar 2))) (mAndV (mCall m_is_strength (mCons (mVar 3) (mNil))) (mCall m_is_word (mCons (mVar 4) (mNil))))) ρ = .ok (.bool x, .cl)) : retR (m_is_telling [.val (.tuple [a, b, c, d])]) = .ok (.bool x, .cl) := by
  refine retR_rt (ρ' := [.val (.tuple [a, b, c, d]), .val a, .val b, .val c, .val d]) ?_
  exact tell_start _ (sRet_ok (h _ rfl) (by decide))
theorem tq1 (h : hEq (a, .cl) (.str "tell", .cl) = some false) : retR (m_is_telling [.val (.tuple [a, b, c, d])]) = .ok (.bool false, .cl) :=
  telling_tup fun ρ e => by
    subst e
    exact mAndV_f (mVal_ok (mCmp_ok (x := (a, .cl)) rfl mK_ok h))
theorem t_first (ρ : CV) (e : ρ = [Cell.val (.tuple [.str "tell", b, c, d]), .val (.str "tell"), .val b, .val c, .val d]) : mVal (mCmp hEq (mVar 1) (mK (.str "tell"))) ρ = .ok (.bool true, .cl) := by
  subst e
  exact mVal_ok (mCmp_ok (x := (.str "tell", .cl)) rfl mK_ok (by rw [hEq_str]; rfl))
theorem t_kind {x : Bool} (h : inW b kindsD = some x) (ρ : CV) (e : ρ = [Cell.val (.tuple [a, b, c, d]), .val a, .val b, .val c, .val d]) : mVal (mInG kindsD (mVar 2)) ρ = .ok (.bool x, .cl) := by
  subst e
  refine mVal_ok ?_
  exact inG_go (x := (b, .cl)) rfl h
theorem t_strength (ρ : CV) (e : ρ = [Cell.val (.tuple [a, b, c, d]), .val a, .val b, .val c, .val d]) : mCall m_is_strength (mCons (mVar 3) (mNil)) ρ = .ok (.bool (strengthB c), .cl) := by
  subst e
  exact rCall (as := [(c, .cl)]) (mCons_ok rfl mNil_ok) rfl rfl (is_strength_ok c)
theorem t_word {x : Bool} (h : retR (m_is_word [.val d]) = .ok (.bool x, .cl)) (ρ : CV) (e : ρ = [Cell.val (.tuple [a, b, c, d]), .val a, .val b, .val c, .val d]) : mCall m_is_word (mCons (mVar 4) (mNil)) ρ = .ok (.bool x, .cl) := by
  subst e
  exact rCall (as := [(d, .cl)]) (mCons_ok rfl mNil_ok) rfl rfl h
theorem tq2 (h : inW b kindsD = some false) : retR (m_is_telling [.val (.tuple [.str "tell", b, c, d])]) = .ok (.bool false, .cl) :=
  telling_tup fun ρ e => mAndV_t (t_first ρ e) (mAndV_f (t_kind h ρ e))
theorem tq3 (h : inW b kindsD = some true) (h3 : strengthB c = false) : retR (m_is_telling [.val (.tuple [.str "tell", b, c, d])]) = .ok (.bool false, .cl) :=
  telling_tup fun ρ e => mAndV_t (t_first ρ e) (mAndV_t (t_kind h ρ e) (mAndV_f (by rw [t_strength ρ e, h3])))
theorem tq4 {x : Bool} (h : inW b kindsD = some true) (h3 : strengthB c = true) (h4 : retR (m_is_word [.val d]) = .ok (.bool x, .cl)) : retR (m_is_telling [.val (.tuple [.str "tell", b, c, d])]) = .ok (.bool x, .cl) :=
  telling_tup fun ρ e => mAndV_t (t_first ρ e) (mAndV_t (t_kind h ρ e) (mAndV_t (by rw [t_strength ρ e, h3]) (t_word h4 ρ e)))
end
theorem strength_ok {r : R4} (h : TellOk r) : strengthB (.int r.p) = true := by
  obtain ⟨_, h1, h2, _⟩ := h
  show (decide ((1 : Int) ≤ r.p) && decide (r.p ≤ 30)) = true
  rw [decide_eq_true h1, decide_eq_true h2]
  rfl
theorem is_telling_row {r : R4} (h : TellOk r) : retR (m_is_telling [.val (rowD r)]) = .ok (.bool true, .cl) := by
  have w := is_word_ok (l := r.w) (by have := h.2.2.2.2.1; omega)
  rw [wordT_iff.mpr h.2.2.2] at w
  exact tq4 (kinds_in h.1) (strength_ok h) w
/-- not four of a tuple -/
theorem telling_not {d : D} (h : (isD "tuple" d = false) ∨ ∃ l, d = .tuple l ∧ l.length ≠ 4) : retR (m_is_telling [.val d]) = .ok (.bool false, .cl) := by
  have ti : mIsi "tuple" (mVar 0) [Cell.val d, .un, .un, .un, .un] = .ok (.bool (isD "tuple" d), .cl) := mIsi_go (m := .cl) rfl
  have tt : mOr (mNot (mBool (mIsi "tuple" (mVar 0)))) (mCmp hNe (mCallB hLen (mCons (mVar 0) (mNil))) (mK (.int 4))) [Cell.val d, .un, .un, .un, .un] = .ok true := by
    rcases h with h | ⟨l, rfl, hl⟩
    · rw [h] at ti
      exact mOr_ok (a := true) (b := true) (mNot_ok (mBool_ok ti)) fun z => by cases z
    · have tl : mCallB hLen (mCons (mVar 0) (mNil)) [Cell.val (.tuple l), .un, .un, .un, .un] = .ok (.int l.length, .cl) := mCallB_ok (mCons_ok rfl mNil_ok) hLen_tuple
      exact mOr_ok (a := false) (b := true) (mNot_ok (mBool_ok ti)) fun _ => mCmp_ok tl mK_ok (by rw [hNe_int, decide_eq_false (by omega)]; rfl)
  refine retR_rt (ρ' := [.val d, .un, .un, .un, .un]) ?_
  show b_is_telling [.val d, .un, .un, .un, .un] = _
  exact sSeq_end (sIf_t tt (sRet_ok mK_ok (by decide)))
theorem has_other_ok (t : List R4) (r : R4) : retR (m_has_other_kind [.val (.list (t.map rowD)), .val (rowD r)]) = .ok (.bool (t.any (clashH r)), .cl) := by
  obtain ⟨_, r1, r2, r3⟩ := ix_row r (m := .cl) (m2 := .cl) rfl
  have hu : ∀ x : R4, b_has_other_kind_1_1 [.val (.list (t.map rowD)), .val (rowD r), .val (rowD x)] = if clashH r x then .rt (.bool true) .cl [.val (.list (t.map rowD)), .val (rowD r), .val (rowD x)] else .nx [.val (.list (t.map rowD)), .val (rowD r), .val (rowD x)] := fun x => by
    obtain ⟨_, i1, i2, _⟩ := ix_row x (m := .cl) (m2 := .cl) rfl
    unfold b_has_other_kind_1_1
    rw [sIf_ok (mAnd_ok (mCmp_ok (mBin_ok (x := (rowD x, .cl)) rfl mK_ok i2) (mBin_ok (x := (rowD r, .cl)) rfl mK_ok r2) (hEq_int _ _ _ _)) fun _ => mCmp_ok (mBin_ok (x := (rowD x, .cl)) rfl mK_ok i1) (mBin_ok (x := (rowD r, .cl)) rfl mK_ok r1) (hNe_str _ _ _ _))]
    rfl
  obtain ⟨y, e⟩ := any_loop hu t .un
  have s1 : b_has_other_kind_1 [.val (.list (t.map rowD)), .val (rowD r), .un] = forL 2 b_has_other_kind_1_1 (t.map rowD) [.val (.list (t.map rowD)), .val (rowD r), .un] := by
    unfold b_has_other_kind_1
    exact sFor_ok rfl
  have all : ∃ ρ, b_has_other_kind [.val (.list (t.map rowD)), .val (rowD r), .un] = .rt (.bool (t.any (clashH r))) .cl ρ := by
    cases h : t.any (clashH r) with
    | true =>
      rw [h] at e
      exact ⟨_, sSeq_end (s1.trans (e.trans (if_pos rfl)))⟩
    | false =>
      rw [h] at e
      exact ⟨_, sSeq_go (s1.trans (e.trans (if_neg Bool.false_ne_true))) (sRet_ok mK_ok (by decide))⟩
  obtain ⟨ρ, all⟩ := all
  exact retR_rt all
/-! errors that a def raises -/
theorem fin_erD {o : Out} {c : Str} {ρ : CV} (h : o = .er c ρ) : retR (fin o) = .er c := by
  rw [h]
  rfl
theorem sSeq_er2 {u w : CV → Out} {ρ ρ' : CV} {c : Str} (h : u ρ = .er c ρ') : sSeq u w ρ = .er c ρ' := by
  unfold sSeq
  rw [h]
  rfl
theorem raiseA_js {c : Str} {f : CV → Rs (D × Md)} {ρ : CV} {x : D × Md} (h : f ρ = .ok x) : sRaiseA c (mCons f mNil) ρ = .er c ρ := by
  unfold sRaiseA
  rw [mCons_ok h mNil_ok]
  dsimp only
  rw [if_pos (Nat.le_of_ble_eq_true rfl)]
theorem fmtS {f : CV → Rs (D × Md)} {ρ : CV} {s : Str} {m : Md} (e : f ρ = .ok (.str s, m)) (h : s.length ≤ 1000) : mFmt f ρ = .ok (.str s, .cl) := by
  have hf : hFmt (.str s, m) = some (.str s, .cl) := by
    unfold hFmt
    dsimp only
    rw [if_pos (le_line h)]
  unfold mFmt
  rw [e]
  simp only [Rs.bind]
  rw [hf]
  rfl
theorem fmtI {f : CV → Rs (D × Md)} {ρ : CV} {i : Int} {m : Md} (e : f ρ = .ok (.int i, m)) (h : i.natAbs.log2 < 1920) : mFmt f ρ = .ok (.str (toString i), .cl) := by
  have hf : hFmt (.int i, m) = some (.str (toString i), .cl) := by
    unfold hFmt
    dsimp only
    rw [if_pos h]
  unfold mFmt
  rw [e]
  simp only [Rs.bind]
  rw [hf]
  rfl
theorem js_go {f : CV → Rs (D × Md)} {fs : List (CV → Rs (D × Md))} {acc y : Str} {m : Md} {ρ : CV} {z : D × Md} (e : f ρ = .ok (.str y, m)) (h : (acc ++ y).length ≤ 1000) (r : mJs fs (acc ++ y) ρ = .ok z) : mJs (f :: fs) acc ρ = .ok z := by
  unfold mJs
  rw [e]
  simp only [Rs.bind]
  rw [if_pos (le_line h)]
  exact r
theorem js_thr {f : CV → Rs (D × Md)} {a y b : Str} {ρ : CV} {m : Md} (e : f ρ = .ok (.str y, m)) (h : (Str.empty ++ a ++ y ++ b).length ≤ 1000) : mJs [mK (.str a), f, mK (.str b)] Str.empty ρ = .ok (.str (Str.empty ++ a ++ y ++ b), .cl) := by
  have l1 := Str.length_append (Str.empty ++ a ++ y) b
  have l2 := Str.length_append (Str.empty ++ a) y
  exact js_go mK_ok (by omega) (js_go e (by omega) (js_go mK_ok h rfl))
theorem power_str : ∀ p : Int, 1 ≤ p → p ≤ 30 → p.natAbs.log2 < 1920 ∧ (toString p : Str).length ≤ 2 := by
  intro p h1 h2
  obtain ⟨n, rfl⟩ : ∃ n : Nat, p = (n : Int) := ⟨p.toNat, by omega⟩
  have key : ∀ n : Nat, n < 31 → ((n : Int)).natAbs.log2 < 1920 ∧ (toString (n : Int) : Str).length ≤ 2 := by decide +kernel
  exact key n (by omega)
/-- added -/
theorem added_ok (t : List R4) (hl : t.length ≤ 900) {r : R4} (h : TellOk r) : retR (m_added [.val (.list (t.map rowD)), .val (rowD r)]) = if clashR t r = true then .er "Clash" else .ok (.list ((t ++ [r]).map rowD), .fr) := by
  obtain ⟨_, r1, r2, r3⟩ := ix_row r (m := .cl) (m2 := .cl) rfl
  have hw : (tS0 r.w).length ≤ 8 := by rw [tS0_len]; exact h.2.2.2.2.1
  obtain ⟨p1, p2⟩ := power_str r.p h.2.1 h.2.2.1
  have c1 : mCall m_is_telling (mCons (mVar 1) (mNil)) [.val (.list (t.map rowD)), .val (rowD r)] = .ok (.bool true, .cl) := rCall (as := [(rowD r, .cl)]) (mCons_ok rfl mNil_ok) rfl rfl (is_telling_row h)
  have c2 : mCall m_has_other_kind (mCons (mVar 0) (mCons (mVar 1) (mNil))) [.val (.list (t.map rowD)), .val (rowD r)] = .ok (.bool (t.any (clashH r)), .cl) := rCall (as := [(.list (t.map rowD), .cl), (rowD r, .cl)]) (mCons_ok rfl (mCons_ok rfl mNil_ok)) rfl rfl (has_other_ok t r)
  have c3 : mCall m_is_ahead (mCons (mVar 1) (mNil)) [.val (.list (t.map rowD)), .val (rowD r)] = .ok (.bool (decide (r.k = "before")), .cl) := rCall (as := [(rowD r, .cl)]) (mCons_ok rfl mNil_ok) rfl rfl (is_ahead_ok r)
  have i2 : mBin hIx (mVar 1) (mK (.int 2)) [.val (.list (t.map rowD)), .val (rowD r)] = .ok (.int r.p, .cl) := mBin_ok (x := (rowD r, .cl)) rfl mK_ok r2
  have i3 : mBin hIx (mVar 1) (mK (.int 3)) [.val (.list (t.map rowD)), .val (rowD r)] = .ok (.str (tS0 r.w), .cl) := mBin_ok (x := (rowD r, .cl)) rfl mK_ok r3
  have c4 : mCall m_role (mCons (mVar 0) (mCons (mBin hIx (mVar 1) (mK (.int 3))) (mCons (mCall m_is_ahead (mCons (mVar 1) (mNil))) (mNil)))) [.val (.list (t.map rowD)), .val (rowD r)] = .ok (optD (roleR t (tS0 r.w) (decide (r.k = "before"))), .cl) :=
    rCall (as := [(.list (t.map rowD), .cl), (.str (tS0 r.w), .cl), (.bool (decide (r.k = "before")), .cl)]) (mCons_ok rfl (mCons_ok i3 (mCons_ok c3 mNil_ok))) rfl rfl (role_ok t _ _)
  have s1 : b_added_1 [.val (.list (t.map rowD)), .val (rowD r)] = .nx [.val (.list (t.map rowD)), .val (rowD r)] := sIf_f (mNot_ok (mBool_ok c1)) rfl
  have run : ∀ {o : Out}, b_added [.val (.list (t.map rowD)), .val (rowD r)] = o → retR (m_added [.val (.list (t.map rowD)), .val (rowD r)]) = retR (fin o) := fun e => by
    show retR (fin (b_added [.val (.list (t.map rowD)), .val (rowD r)])) = _
    rw [e]
  unfold clashR
  cases h2 : t.any (clashH r) with
  | true =>
    rw [h2] at c2
    refine (run (sSeq_go s1 (sSeq_er2 (sIf_t (mBool_ok c2) (raiseA_js (js_thr (fmtI i2 p1) ?_)))))).trans rfl
    rw [Str.length_append, Str.length_append, Str.length_append]
    have e1 : (Str.empty : Str).length = 0 := rfl
    have e2 : ("the strength " : Str).length ≤ 100 := by decide +kernel
    have e3 : (" is told with another kind" : Str).length ≤ 100 := by decide +kernel
    omega
  | false =>
    rw [h2] at c2
    have s2 : b_added_2 [.val (.list (t.map rowD)), .val (rowD r)] = .nx [.val (.list (t.map rowD)), .val (rowD r)] := sIf_f (mBool_ok c2) rfl
    have t3 : ∀ o, optD (roleR t (tS0 r.w) (decide (r.k = "before"))) = optD o → mCmp hNotN (mCall m_role (mCons (mVar 0) (mCons (mBin hIx (mVar 1) (mK (.int 3))) (mCons (mCall m_is_ahead (mCons (mVar 1) (mNil))) (mNil))))) (mK .none) [.val (.list (t.map rowD)), .val (rowD r)] = .ok (!isNoneD (optD o)) := fun o e => by
      rw [← e]
      exact mCmp_ok c4 mK_ok (hNotN_n _ _ _)
    cases h3 : roleR t (tS0 r.w) (decide (r.k = "before")) with
    | some x =>
      refine (run (sSeq_go s1 (sSeq_go s2 (sSeq_er2 (sIf_t (t3 (some x) (by rw [h3])) (raiseA_js (js_thr (fmtS i3 (by omega)) ?_))))))).trans rfl
      rw [Str.length_append, Str.length_append, Str.length_append]
      have e1 : (Str.empty : Str).length = 0 := rfl
      have e2 : ("the word " : Str).length ≤ 100 := by decide +kernel
      have e3 : (" is told in the same role" : Str).length ≤ 100 := by decide +kernel
      omega
    | none =>
      have s3 : b_added_3 [.val (.list (t.map rowD)), .val (rowD r)] = .nx [.val (.list (t.map rowD)), .val (rowD r)] := sIf_f (t3 none (by rw [h3])) rfl
      refine (run (sSeq_go s1 (sSeq_go s2 (sSeq_go s3 (sRet_ok (mBin_ok (x := (.list (t.map rowD), .cl)) rfl (mLst_go (ds := [(rowD r, .cl)]) (es := [rowD r]) (mCons_ok rfl mNil_ok) ⟨rfl, Nat.le_of_ble_eq_true rfl⟩ rfl) (y := (.list [rowD r], .fr)) (z := (.list ((t ++ [r]).map rowD), .fr)) ?_) (by decide)))))).trans rfl
      unfold hAdd
      dsimp only
      rw [if_pos ⟨by decide, by decide, le_line (by rw [List.length_map, List.length_singleton]; omega), .inl ⟨rfl, rfl⟩⟩, List.map_append]
      rfl
/-- what is no telling -/
theorem added_not {x d : D} (h : retR (m_is_telling [.val d]) = .ok (.bool false, .cl)) : retR (m_added [.val x, .val d]) = .er "NoTelling" := by
  have c1 : mCall m_is_telling (mCons (mVar 1) (mNil)) [.val x, .val d] = .ok (.bool false, .cl) := rCall (as := [(d, .cl)]) (mCons_ok rfl mNil_ok) rfl rfl h
  have e : b_added [.val x, .val d] = .er "NoTelling" [.val x, .val d] := sSeq_er2 (sIf_t (mNot_ok (mBool_ok c1)) rfl)
  show retR (fin (b_added [.val x, .val d])) = _
  rw [e]
  rfl
/-! rows of tellings -/
theorem law_rows_ok {t : List R4} (ht : ∀ r ∈ t, TellOk r) (hl : t.length ≤ 900) : retR (m__law_rows [.val (.list (t.map rowD)), .val (.list (t.map rowD))]) = .ok (.bool true, .cl) := by
  let ρ0 : Cell → CV := fun x => [.val (.list (t.map rowD)), .val (.list (t.map rowD)), x]
  have len : ∀ x (i : Nat), i < 2 → mCallB hLen (mCons (mVar i) (mNil)) (ρ0 x) = .ok (.int t.length, .cl) := fun x i hi => by
    have h : i = 0 ∨ i = 1 := by omega
    rcases h with rfl | rfl
    · exact mCallB_ok (mCons_ok (x := (.list (t.map rowD), .cl)) rfl mNil_ok) (by rw [hLen_list, List.length_map])
    · exact mCallB_ok (mCons_ok (x := (.list (t.map rowD), .cl)) rfl mNil_ok) (by rw [hLen_list, List.length_map])
  have s1 : b__law_rows_1 (ρ0 .un) = .nx (ρ0 .un) := by
    have ti : mIsi "list" (mVar 0) (ρ0 .un) = .ok (.bool true, .cl) := mIsi_go (d := .list (t.map rowD)) (m := .cl) rfl
    exact sIf_f (mOr_ok (a := false) (b := false) (mNot_ok (mBool_ok ti)) fun _ => mCmp_ok (len _ 0 (by omega)) (len _ 1 (by omega)) (by rw [hNe_int, decide_eq_true rfl]; rfl)) rfl
  have loop : ∃ x, forL 2 b__law_rows_2_1 (rangeD 0 t.length) (ρ0 .un) = .nx (ρ0 x) := by
    refine forL_to (R := fun o => ∃ x, o = .nx (ρ0 x)) (I := fun ds ρ => (∀ d ∈ ds, ∃ k : Nat, k < t.length ∧ d = .int k) ∧ ∃ x, ρ = ρ0 x) ⟨fun d hd => mem_range0 hd, _, rfl⟩ ?_ ?_
    · rintro ρ ⟨_, x, rfl⟩
      exact ⟨x, rfl⟩
    · rintro d ds ρ ⟨hds, x, rfl⟩
      obtain ⟨k, hk, rfl⟩ := hds d List.mem_cons_self
      have ix : hIx (.list (t.map rowD), .cl) (.int (k : Int), .cl) = some (rowD t[k], .cl) := by
        have ea : atI (t.map rowD) ((k : Nat) : Int) = some (rowD t[k]) := atI_nat (by rw [List.getElem?_map, List.getElem?_eq_getElem hk]; rfl)
        unfold hIx
        dsimp only
        rw [ea]
        rfl
      have a0 : mBin hIx (mVar 0) (mVar 2) (ρ0 (.val (.int k))) = .ok (rowD t[k], .cl) := mBin_ok (x := (.list (t.map rowD), .cl)) (y := (.int (k : Int), .cl)) rfl rfl ix
      have a1 : mBin hIx (mVar 1) (mVar 2) (ρ0 (.val (.int k))) = .ok (rowD t[k], .cl) := mBin_ok (x := (.list (t.map rowD), .cl)) (y := (.int (k : Int), .cl)) rfl rfl ix
      have ca : mCall m__law_alike (mCons (mBin hIx (mVar 0) (mVar 2)) (mCons (mBin hIx (mVar 1) (mVar 2)) (mNil))) (ρ0 (.val (.int k))) = .ok (.bool true, .cl) := rCall (as := [(rowD t[k], .cl), (rowD t[k], .cl)]) (mCons_ok a0 (mCons_ok a1 mNil_ok)) rfl rfl (alike_ok (ht _ (List.getElem_mem hk)))
      refine .inl ⟨ρ0 (.val (.int k)), sIf_f ((mNot_ok (mBool_ok ca)).trans rfl) rfl, fun y hy => hds y (List.mem_cons_of_mem _ hy), _, rfl⟩
  obtain ⟨x, loop⟩ := loop
  have s2 : b__law_rows_2 (ρ0 .un) = .nx (ρ0 x) := (sFor_ok (mRange1_ok (n := t.length) (m := .cl) (mCons_ok (len _ 1 (by omega)) mNil_ok) (by omega))).trans loop
  refine retR_rt (ρ' := ρ0 x) ?_
  show b__law_rows (ρ0 .un) = _
  exact sSeq_go s1 (sSeq_go s2 (sRet_ok mK_ok (by decide)))
/-! things that are no tellings -/
def spoilL (r : R4) (c : Int) : List D :=
  [.tuple [.str "tell", .str r.k, .int 0, .str (tS0 r.w)], .tuple [.str "tell", .str r.k, .int (31 + c / 12 % 1000), .str (tS0 r.w)], .tuple [.str "tell", .str r.k, .int (-r.p), .str (tS0 r.w)]] ++
  [.tuple [.str "tell", .str r.k, .bool true, .str (tS0 r.w)], .tuple [.str "tell", .str r.k, .str (toString r.p), .str (tS0 r.w)], .tuple [.str "told", .str r.k, .int r.p, .str (tS0 r.w)]] ++
  [.tuple [.str "tell", .str "between", .int r.p, .str (tS0 r.w)], .tuple [.str "tell", .str r.k, .int r.p, .str "tell"], .tuple [.str "tell", .str r.k, .int r.p, .str (tS0 (r.w ++ [32]))]] ++
  [.tuple [.str "tell", .str r.k, .int r.p], .tuple [.str "tell", .none, .int r.p, .str (tS0 r.w)], .list [.str "tell", .str r.k, .int r.p, .str (tS0 r.w)]] ++
  [.tuple [.str "tell", .str r.k, .list [.int r.p], .str (tS0 r.w)], .tuple [.str "tell", .list [.str r.k], .int r.p, .str (tS0 r.w)], .tuple [.str "tell", .str r.k, .int r.p, .list [.str (tS0 r.w)]]] ++
  [.tuple [.str "tell", .str r.k, .none, .str (tS0 r.w)], .tuple [.str "tell", .str r.k, .int r.p, .none], .tuple [.list [], .str r.k, .int r.p, .str (tS0 r.w)]]
theorem kind_list {k : Str} (h : k ∈ kindsL) : inW (.list [.str k]) kindsD = some false := by
  simp only [kindsL, List.mem_cons, List.not_mem_nil, or_false] at h
  rcases h with rfl | rfl | rfl | rfl | rfl <;> decide +kernel
theorem spoil_not {r : R4} (h : TellOk r) (c : Int) : ∀ d ∈ spoilL r c, retR (m_is_telling [.val d]) = .ok (.bool false, .cl) := by
  have kin := kinds_in h.1
  have st := strength_ok h
  have c1 := Int.emod_nonneg (c / 12) (show (1000 : Int) ≠ 0 by decide)
  have h1 := h.2.1
  have noS : ∀ i : Int, (i < 1 ∨ 30 < i) → strengthB (.int i) = false := fun i hi => by
    show (decide ((1 : Int) ≤ i) && decide (i ≤ 30)) = false
    rcases hi with hi | hi
    · rw [decide_eq_false (by omega)]; rfl
    · rw [decide_eq_false (by omega : ¬ i ≤ 30), Bool.and_false]
  have tw : retR (m_is_word [.val (.str "tell")]) = .ok (.bool false, .cl) := by
    have e : ("tell" : Str) = tS0 [116, 101, 108, 108] := tell_eq
    have w : wordT [116, 101, 108, 108] = false := by decide +kernel
    have i := is_word_ok (l := [116, 101, 108, 108]) (by simp)
    rw [w, ← e] at i
    exact i
  have bw : retR (m_is_word [.val (.str (tS0 (r.w ++ [32])))]) = .ok (.bool false, .cl) := by
    have w : wordT (r.w ++ [32]) = false := by
      unfold wordT
      rw [List.all_append, show ([32] : List Nat).all (inB "();") = false from by decide +kernel, Bool.and_false, Bool.and_false, Bool.and_false]
    have i := is_word_ok (l := r.w ++ [32]) (by rw [List.length_append, List.length_singleton]; have := h.2.2.2.2.1; omega)
    rw [w] at i
    exact i
  intro d hd
  simp only [spoilL, List.mem_append, List.mem_cons, List.not_mem_nil, or_false] at hd
  rcases hd with ((((((rfl | rfl | rfl) | (rfl | rfl | rfl)) | (rfl | rfl | rfl)) | (rfl | rfl | rfl)) | (rfl | rfl | rfl)) | (rfl | rfl | rfl))
  · exact tq3 kin (noS 0 (by omega))
  · exact tq3 kin (noS _ (by omega))
  · exact tq3 kin (noS _ (by omega))
  · exact tq3 kin rfl
  · exact tq3 kin rfl
  · exact tq1 (by decide +kernel)
  · exact tq2 (by decide +kernel)
  · exact tq4 kin st tw
  · exact tq4 kin st bw
  · exact telling_not (.inr ⟨_, rfl, by simp⟩)
  · exact tq2 (by decide +kernel)
  · exact telling_not (.inl rfl)
  · exact tq3 kin rfl
  · exact tq2 (kind_list h.1)
  · exact tq4 kin st (is_word_not rfl)
  · exact tq3 kin rfl
  · exact tq4 kin st (is_word_not rfl)
  · exact tq1 (by decide +kernel)
theorem hAdd_own {a b : List D} (h : a.length + b.length ≤ 1000) : hAdd (.list a, .ow) (.list b, .fr) = some (.list (a ++ b), .fr) := by
  unfold hAdd
  dsimp only
  rw [if_pos ⟨by decide, by decide, le_line h, .inl ⟨rfl, rfl⟩⟩]
theorem spoiled_ok {r : R4} (h : TellOk r) (c : Int) : ∃ d, retR (m_is_telling [.val d]) = .ok (.bool false, .cl) ∧ retR (m__law_spoiled [.val (rowD r), .val (.int c)]) = .ok (d, .cl) := by
  obtain ⟨_, r1, r2, r3⟩ := ix_row r (m := .cl) (m2 := .cl) rfl
  obtain ⟨p1, p2⟩ := power_str r.p h.2.1 h.2.2.1
  have hstr : ∀ m, hStr [(.int r.p, m)] = some (.str (toString r.p), .cl) := fun m => by
    unfold hStr
    dsimp only
    rw [if_pos p1]
  have sp : (" " : Str) = tS0 [32] := by decide +kernel
  have hw8 := h.2.2.2.2.1
  have hsp : hAdd (.str (tS0 r.w), .cl) (.str " ", .cl) = some (.str (tS0 (r.w ++ [32])), .cl) := by
    rw [sp]
    exact hAdd_str (by rw [List.length_singleton]; omega)
  have hneg : ∀ m, hNeg (.int r.p, m) = some (.int (-r.p), .cl) := fun m => rfl
  let S : List D → CV := fun L => [.val (rowD r), .val (.int c), .val (.str r.k), .val (.int r.p), .val (.str (tS0 r.w)), .own L]
  have s1 : b__law_spoiled_1 [.val (rowD r), .val (.int c), .un, .un, .un, .un] = .nx [.val (rowD r), .val (.int c), .val (.str r.k), .un, .un, .un] := by walk_at "s"
  have s2 : b__law_spoiled_2 [.val (rowD r), .val (.int c), .val (.str r.k), .un, .un, .un] = .nx [.val (rowD r), .val (.int c), .val (.str r.k), .val (.int r.p), .un, .un] := by walk_at "s"
  have s3 : b__law_spoiled_3 [.val (rowD r), .val (.int c), .val (.str r.k), .val (.int r.p), .un, .un] = .nx [.val (rowD r), .val (.int c), .val (.str r.k), .val (.int r.p), .val (.str (tS0 r.w)), .un] := by walk_at "s"
  have s4 : b__law_spoiled_4 [.val (rowD r), .val (.int c), .val (.str r.k), .val (.int r.p), .val (.str (tS0 r.w)), .un] = .nx (S ((spoilL r c).take 3)) := by
    have n := hneg .cl
    walk_at "s"
  have v5 : ∀ L, mVar 5 (S L) = .ok (.list L, .ow) := fun L => rfl
  have go : ∀ {f : CV → Rs (D × Md)} (L M : List D), L.length + M.length ≤ 1000 → f (S L) = .ok (.list M, .fr) → sSet 5 (mBin hAdd (mVar 5) f) (S L) = .nx (S (L ++ M)) := fun L M hl e => sSet_fr (mBin_ok (v5 L) e (hAdd_own hl)) rfl
  have cut : ∀ (n : Nat), n + 3 ≤ 18 → (spoilL r c).take (n + 3) = (spoilL r c).take n ++ ((spoilL r c).drop n).take 3 := fun n _ => by rw [List.take_add]
  have lenT : ∀ n, ((spoilL r c).take n).length ≤ n := fun n => by rw [List.length_take]; omega
  have s5 : b__law_spoiled_5 (S ((spoilL r c).take 3)) = .nx (S ((spoilL r c).take 6)) := by
    have hs := hstr .cl
    rw [cut 3 (by omega)]
    refine sShr_go (ρ' := S _) rfl (sShr_go (ρ' := S _) rfl (sShr_go (ρ' := S _) rfl (go _ _ ?_ ?_)))
    · exact Nat.le_of_ble_eq_true rfl
    · show mLst _ [.val (rowD r), .val (.int c), .val (.str r.k), .val (.int r.p), .val (.str (tS0 r.w)), .own ((spoilL r c).take 3)] = _
      walk_at "e"
  have s6 : b__law_spoiled_6 (S ((spoilL r c).take 6)) = .nx (S ((spoilL r c).take 9)) := by
    rw [cut 6 (by omega)]
    refine sShr_go (ρ' := S _) rfl (sShr_go (ρ' := S _) rfl (sShr_go (ρ' := S _) rfl (go _ _ ?_ ?_)))
    · exact Nat.le_of_ble_eq_true rfl
    · show mLst _ [.val (rowD r), .val (.int c), .val (.str r.k), .val (.int r.p), .val (.str (tS0 r.w)), .own ((spoilL r c).take 6)] = _
      walk_at "e"
  have s7 : b__law_spoiled_7 (S ((spoilL r c).take 9)) = .nx (S ((spoilL r c).take 12)) := by
    rw [cut 9 (by omega)]
    refine sShr_go (ρ' := S _) rfl (sShr_go (ρ' := S _) rfl (sShr_go (ρ' := S _) rfl (go _ _ ?_ ?_)))
    · exact Nat.le_of_ble_eq_true rfl
    · show mLst _ [.val (rowD r), .val (.int c), .val (.str r.k), .val (.int r.p), .val (.str (tS0 r.w)), .own ((spoilL r c).take 9)] = _
      walk_at "e"
  have s8 : b__law_spoiled_8 (S ((spoilL r c).take 12)) = .nx (S ((spoilL r c).take 15)) := by
    rw [cut 12 (by omega)]
    refine sShr_go (ρ' := S _) rfl (sShr_go (ρ' := S _) rfl (sShr_go (ρ' := S _) rfl (go _ _ ?_ ?_)))
    · exact Nat.le_of_ble_eq_true rfl
    · show mLst _ [.val (rowD r), .val (.int c), .val (.str r.k), .val (.int r.p), .val (.str (tS0 r.w)), .own ((spoilL r c).take 12)] = _
      walk_at "e"
  have s9 : b__law_spoiled_9 (S ((spoilL r c).take 15)) = .nx (S (spoilL r c)) := by
    have e18 : spoilL r c = (spoilL r c).take 15 ++ ((spoilL r c).drop 15).take 3 := by rw [← cut 15 (by omega)]; rfl
    rw [show S (spoilL r c) = S ((spoilL r c).take 15 ++ ((spoilL r c).drop 15).take 3) from congrArg S e18]
    refine sShr_go (ρ' := S _) rfl (sShr_go (ρ' := S _) rfl (sShr_go (ρ' := S _) rfl (go _ _ ?_ ?_)))
    · exact Nat.le_of_ble_eq_true rfl
    · show mLst _ [.val (rowD r), .val (.int c), .val (.str r.k), .val (.int r.p), .val (.str (tS0 r.w)), .own ((spoilL r c).take 15)] = _
      walk_at "e"
  have q1 := Int.emod_nonneg c (show (18 : Int) ≠ 0 by decide)
  have q2 := Int.emod_lt_of_pos c (show (0 : Int) < 18 by decide)
  obtain ⟨k, hk⟩ : ∃ k : Nat, c % 18 = (k : Int) := ⟨(c % 18).toNat, by omega⟩
  have hl : (spoilL r c).length = 18 := rfl
  have hk2 : k < (spoilL r c).length := by omega
  have ix : hIx (.list (spoilL r c), .ow) (.int (c % 18), .cl) = some ((spoilL r c)[k], .cl) := by
    have ea : atI (spoilL r c) ((k : Nat) : Int) = some (spoilL r c)[k] := atI_nat (List.getElem?_eq_getElem hk2)
    unfold hIx
    dsimp only
    rw [hk, ea]
    rfl
  refine ⟨(spoilL r c)[k], spoil_not h c _ (List.getElem_mem hk2), retR_rt (ρ' := S (spoilL r c)) ?_⟩
  show b__law_spoiled [.val (rowD r), .val (.int c), .un, .un, .un, .un] = _
  exact sSeq_go s1 (sSeq_go s2 (sSeq_go s3 (sSeq_go s4 (sSeq_go s5 (sSeq_go s6 (sSeq_go s7 (sSeq_go s8 (sSeq_go s9 (sRet_ok (mBin_ok (v5 _) (mBin_ok (x := (.int c, .cl)) rfl mK_ok (hMod_ok (by omega))) ix) (by decide))))))))))
/-- the table's words: among the first six, or none of the eight -/
def Far (ws : List (List Nat)) (t : List R4) : Prop := ∀ r ∈ t, r.w ∈ ws.take 6 ∨ r.w ∉ ws
theorem forL_nx {i : Nat} {u : CV → Out} {d : D} {ds : List D} {ρ ρ' : CV} {o : Out} (e : u (ρ.set i (.val d)) = .nx ρ') (r : forL i u ds ρ' = o) : forL i u (d :: ds) ρ = o := by
  unfold forL
  rw [e]
  exact r
/-! the wide table -/
theorem digits_ok : ∀ k : Nat, k < 40 → (1 ≤ ((toString (k : Int) : Str).cps.toList.length) ∧ (toString (k : Int) : Str).cps.toList.length ≤ 2 ∧ (toString (k : Int) : Str).cps.toList.all (fun c => decide (48 ≤ c) && decide (c ≤ 57)) = true) ∧ ((k : Int).natAbs.log2 < 1920) := by decide +kernel
theorem digit_in : ∀ c < 58, 48 ≤ c → inB "();" c = true := by decide +kernel
theorem rows_lfs : ∀ t : List R4, lfs (t.map rowD) = true
  | [] => rfl
  | r :: t => by
    rw [List.map_cons, lfs, rows_lfs t]
    rfl
theorem hAdd_rows {t t2 : List R4} {m m2 : Md} (hm : m ≠ .fz) (hm2 : m2 ≠ .fz) (h : t.length + t2.length ≤ 1000) : hAdd (.list (t.map rowD), m) (.list (t2.map rowD), m2) = some (.list ((t ++ t2).map rowD), .fr) := by
  unfold hAdd
  dsimp only
  rw [if_pos ⟨hm, hm2, le_line (by rw [List.length_map, List.length_map]; exact h), .inr ⟨rows_lfs t, rows_lfs t2⟩⟩, List.map_append]
theorem wide_word {l : List Nat} {k : Nat} (hl : wordOk l) (hk : k < 40) : wordOk (l.take 5 ++ (toString (k : Int) : Str).cps.toList) := by
  obtain ⟨⟨d1, d2, d3⟩, _⟩ := digits_ok k hk
  obtain ⟨h1, h2, h3, h4⟩ := hl
  generalize (toString (k : Int) : Str).cps.toList = ds at d1 d2 d3
  refine ⟨by rw [List.length_append, List.length_take]; omega, by rw [List.length_append, List.length_take]; omega, ?_, fun z => ?_⟩
  · rw [List.all_append, all_take h3, Bool.true_and, List.all_eq_true]
    intro c hc
    have := List.all_eq_true.mp d3 c hc
    rw [Bool.and_eq_true, decide_eq_true_eq, decide_eq_true_eq] at this
    exact digit_in c (by omega) this.1
  · rw [tell_eq, tS0_eq] at z
    obtain ⟨c, hc⟩ := List.exists_mem_of_length_pos (show 0 < ds.length by omega)
    have := List.all_eq_true.mp d3 c hc
    rw [Bool.and_eq_true, decide_eq_true_eq, decide_eq_true_eq] at this
    have hm : c ∈ l.take 5 ++ ds := List.mem_append_right _ hc
    rw [z] at hm
    (simp only [List.mem_cons, List.not_mem_nil, or_false] at hm)
    omega
theorem wide_ok2 {ws : List (List Nat)} (hws : WordsOk ws) (c : Int) {t0 : List R4} (ht0 : TabOk t0) (hf0 : Far ws t0) (hl0 : t0.length ≤ 12) : ∃ t : List R4, TabOk t ∧ Far ws t ∧ t.length ≤ 52 ∧
    ∃ m, (m = .ow ∨ m = .cl) ∧ retR (m__law_wide_by [.val (.list (t0.map rowD)), .val (.int c), .val (.list (strsD ws))]) = .ok (.list (t.map rowD), m) := by
  let I : Nat → CV → Prop := fun n ρ => ∃ (t : List R4) (z a b d e : Cell), TabOk t ∧ Far ws t ∧ t.length ≤ 12 + n ∧ (z = .val (.list (t.map rowD)) ∨ z = .own (t.map rowD)) ∧ ρ = [z, .val (.int c), .val (.list (strsD ws)), a, b, d, e]
  have body : ∀ x ∈ rangeD 0 40, ∀ n ρ, n ≤ 100 → I n ρ → ∃ ρ', sSeq b__law_wide_by_1_1 (sSeq b__law_wide_by_1_2 (sSeq b__law_wide_by_1_3 b__law_wide_by_1_4)) (ρ.set 3 (.val x)) = .nx ρ' ∧ I (n + 1) ρ' := by
    rintro x hx n ρ hn ⟨t, z, a, b, d, e, ht, hf, hl, hz, rfl⟩
    obtain ⟨k, hk, rfl⟩ := mem_range0 hx
    have hsh : ∀ a1 a2 a3 a4 a5 a6 : Cell, shr 0 [z, a1, a2, a3, a4, a5, a6] = [.val (.list (t.map rowD)), a1, a2, a3, a4, a5, a6] := fun _ _ _ _ _ _ => by rcases hz with rfl | rfl <;> rfl
    have p1 := Int.emod_nonneg ((k : Int) + c) (show (30 : Int) ≠ 0 by decide)
    have p2 := Int.emod_lt_of_pos ((k : Int) + c) (show (0 : Int) < 30 by decide)
    obtain ⟨kd, hkd, ek⟩ := kind_at (1 + ((k : Int) + c) % 30 + c)
    have i1 : k % 6 < ws.length := by rw [hws.1]; omega
    have iw := hIx_strs (ws := ws) (m := .cl) (m2 := .cl) rfl (List.getElem?_eq_getElem i1)
    have hw := hws.2 _ (List.getElem_mem i1)
    generalize ws[k % 6] = w at iw hw
    have ek6 : ((k % 6 : Nat) : Int) = (k : Int) % 6 := by omega
    rw [ek6] at iw
    obtain ⟨⟨d1, d2, d3⟩, d4⟩ := digits_ok k hk
    have hwide := wide_word hw hk
    have hstr : hStr [(.int (k : Int), .cl)] = some (.str (tS0 (toString (k : Int) : Str).cps.toList), .cl) := by
      unfold hStr
      dsimp only
      rw [if_pos d4, ← str_tS0]
    have t1 : b__law_wide_by_1_1 [z, .val (.int c), .val (.list (strsD ws)), .val (.int (k : Int)), b, d, e] = .nx [z, .val (.int c), .val (.list (strsD ws)), .val (.int (k : Int)), .val (.int (1 + ((k : Int) + c) % 30)), d, e] := by walk_at "s"
    generalize hp : 1 + ((k : Int) + c) % 30 = p at t1 ek
    have hp1 : 1 ≤ p ∧ p ≤ 30 := by omega
    have t2 : b__law_wide_by_1_2 [z, .val (.int c), .val (.list (strsD ws)), .val (.int (k : Int)), .val (.int p), d, e] = .nx [z, .val (.int c), .val (.list (strsD ws)), .val (.int (k : Int)), .val (.int p), .val (.str kd), e] := by walk_at "s"
    let r : R4 := ⟨kd, p, w.take 5 ++ (toString (k : Int) : Str).cps.toList⟩
    have hr : TellOk r := ⟨hkd, hp1.1, hp1.2, hwide⟩
    have wl := hw.2.1
    have e3 : mBin hAdd (mSl (mBin hIx (mVar 2) (mBin hMod (mVar 3) (mK (.int 6)))) (mNoP) (mPart (mK (.int 5)))) (mCallB hStr (mCons (mVar 3) (mNil))) [z, .val (.int c), .val (.list (strsD ws)), .val (.int (k : Int)), .val (.int p), .val (.str kd), e] = .ok (.str (tS0 r.w), .cl) :=
      mBin_ok (mSl_ok (mBin_ok (x := (.list (strsD ws), .cl)) rfl (mBin_ok (x := (.int (k : Int), .cl)) rfl mK_ok (hMod_ok (by omega))) iw) mNoP_ok (mPart_ok mK_ok) (hSl_to (by omega) (cut_take w 5))) (mCallB_ok (mCons_ok (x := (.int (k : Int), .cl)) rfl mNil_ok) hstr) (hAdd_str (by rw [List.length_take]; omega))
    have t3 : b__law_wide_by_1_3 [z, .val (.int c), .val (.list (strsD ws)), .val (.int (k : Int)), .val (.int p), .val (.str kd), e] = .nx [z, .val (.int c), .val (.list (strsD ws)), .val (.int (k : Int)), .val (.int p), .val (.str kd), .val (rowD r)] := by
      refine sShr_go (ρ' := [z, .val (.int c), .val (.list (strsD ws)), .val (.int (k : Int)), .val (.int p), .val (.str kd), e]) (by walk_at "l") (sShr_go (ρ' := [z, .val (.int c), .val (.list (strsD ws)), .val (.int (k : Int)), .val (.int p), .val (.str kd), e]) (by walk_at "l") ?_)
      exact sSet_cl (mTup_go (mCons_ok mK_ok (mCons_ok (x := (.str kd, .cl)) rfl (mCons_ok (x := (.int p, .cl)) rfl (mCons_ok e3 mNil_ok)))) ⟨rfl, Nat.le_of_ble_eq_true rfl⟩ rfl) rfl
    show ∃ ρ', sSeq b__law_wide_by_1_1 (sSeq b__law_wide_by_1_2 (sSeq b__law_wide_by_1_3 b__law_wide_by_1_4)) [z, .val (.int c), .val (.list (strsD ws)), .val (.int (k : Int)), b, d, e] = .nx ρ' ∧ I (n + 1) ρ'
    rw [sSeq_nx t1, sSeq_nx t2, sSeq_nx t3]
    obtain ⟨bn, hbn⟩ := hNotIn_strs (w := tS0 r.w) (ws := ws) (m := .cl) (m2 := .cl)
    have cl := clash_ok t r
    have c1 : mCmp hNotIn (mBin hIx (mVar 6) (mK (.int 3))) (mVar 2) [.val (.list (t.map rowD)), .val (.int c), .val (.list (strsD ws)), .val (.int (k : Int)), .val (.int p), .val (.str kd), .val (rowD r)] = .ok bn := by walk_at "e"
    have c2 : mNot (mBool (mCall m__law_clash (mCons (mVar 0) (mCons (mVar 6) (mNil))))) [.val (.list (t.map rowD)), .val (.int c), .val (.list (strsD ws)), .val (.int (k : Int)), .val (.int p), .val (.str kd), .val (rowD r)] = .ok (!clashR t r) := by walk_at "e"
    have tc := mAnd_ok c1 fun _ => c2
    unfold b__law_wide_by_1_4 sShr
    rw [hsh]
    cases hc : bn && !clashR t r with
    | false =>
      rw [hc] at tc
      exact ⟨_, sIf_f tc rfl, t, _, _, _, _, _, ht, hf, by omega, .inl rfl, rfl⟩
    | true =>
      rw [hc] at tc
      rw [Bool.and_eq_true, Bool.not_eq_true'] at hc
      refine ⟨[.own ((t ++ [r]).map rowD), .val (.int c), .val (.list (strsD ws)), .val (.int (k : Int)), .val (.int p), .val (.str kd), .val (rowD r)], sIf_t tc (sSet_fr (mBin_ok (x := (.list (t.map rowD), .cl)) rfl (mLst_go (ds := [(rowD r, .cl)]) (mCons_ok (x := (rowD r, .cl)) rfl mNil_ok) ⟨rfl, Nat.le_of_ble_eq_true rfl⟩ rfl) (hAdd_rows (t2 := [r]) (by decide) (by decide) (by rw [List.length_singleton]; omega))) rfl), t ++ [r], _, _, _, _, _, ht.add hr hc.2, fun x hx => ?_, ?_, .inr rfl, rfl⟩
      · rcases List.mem_append.mp hx with (hx | hx)
        · exact hf x hx
        · rw [List.mem_singleton.mp hx]
          exact .inr (notIn_strs (by rw [hbn, hc.1]))
      · (rw [List.length_append, List.length_singleton]; omega)
  have loop : ∀ (ds : List D) (n : Nat), (∀ d ∈ ds, d ∈ rangeD 0 40) → n + ds.length ≤ 100 → ∀ ρ, I n ρ → ∃ ρ', forL 3 (sSeq b__law_wide_by_1_1 (sSeq b__law_wide_by_1_2 (sSeq b__law_wide_by_1_3 b__law_wide_by_1_4))) ds ρ = .nx ρ' ∧ I (n + ds.length) ρ' := by
    intro ds
    induction ds with
    | nil => intro n _ _ ρ h; exact ⟨ρ, rfl, h⟩
    | cons d ds ih =>
      intro n hds hn ρ h
      rw [List.length_cons] at hn
      obtain ⟨ρ1, e1, h1⟩ := body d (hds d List.mem_cons_self) n ρ (by omega) h
      obtain ⟨ρ2, e2, h2⟩ := ih (n + 1) (fun x hx => hds x (List.mem_cons_of_mem _ hx)) (by omega) ρ1 h1
      refine ⟨ρ2, forL_nx e1 e2, ?_⟩
      rw [List.length_cons, show n + (ds.length + 1) = n + 1 + ds.length by omega]
      exact h2
  obtain ⟨ρ', e, t, z, a, b, d, e', ht, hf, hl, hz, rfl⟩ := loop (rangeD 0 40) 0 (fun d hd => hd) (by rw [rangeD_len]; omega) [.val (.list (t0.map rowD)), .val (.int c), .val (.list (strsD ws)), .un, .un, .un, .un] ⟨t0, _, _, _, _, _, ht0, hf0, by omega, .inl rfl, rfl⟩
  rw [rangeD_len] at hl
  have s1 : b__law_wide_by_1 [.val (.list (t0.map rowD)), .val (.int c), .val (.list (strsD ws)), .un, .un, .un, .un] = .nx [z, .val (.int c), .val (.list (strsD ws)), a, b, d, e'] := (sFor_ok (mRange1_ok (n := 40) (m := .cl) rfl (by omega))).trans e
  rcases hz with rfl | rfl
  · exact ⟨t, ht, hf, by omega, .cl, .inr rfl, retR_rt (sSeq_go s1 (sRetOwn_val rfl))⟩
  · exact ⟨t, ht, hf, by omega, .ow, .inl rfl, retR_rt (sSeq_go s1 (sRetOwn_own rfl))⟩
/-! errors -/
theorem mCall_er {M : CV → RF} {fa : CV → Rs (List (D × Md))} {ρ cs : CV} {ds : List (D × Md)} {c : Str} (e : fa ρ = .ok ds) (hc : ds.map toCell = cs) (e2 : retR (M cs) = .er c) : mCall M fa ρ = .er c := by
  subst hc
  unfold mCall
  rw [e]
  dsimp only [Rs.bind]
  cases h : M (ds.map toCell) with
  | ok x =>
    obtain ⟨⟨d, m⟩, ρ2⟩ := x
    rw [h] at e2
    cases e2
  | er c2 =>
    rw [h] at e2
    cases e2
    rfl
  | no => rw [h] at e2; cases e2
theorem sSet_er {i : Nat} {f : CV → Rs (D × Md)} {ρ : CV} {c : Str} (e : f ρ = .er c) : sSet i f ρ = .er c ρ := by
  unfold sSet
  rw [e]
theorem sExpr_er {f : CV → Rs (D × Md)} {ρ : CV} {c : Str} (e : f ρ = .er c) : sExpr f ρ = .er c ρ := by
  unfold sExpr
  rw [e]
theorem sTry_er {names : List Str} {sub : Str → Bool} {u w : CV → Out} {ρ ρ1 ρ2 : CV} {c : Str} (e : u ρ = .er c ρ1) (h1 : names.contains c = true) (h2 : sub c = true) (e2 : w ρ1 = .nx ρ2) : sTry names sub u w ρ = .nx ρ2 := by
  unfold sTry
  rw [e]
  dsimp only
  rw [if_pos h1, if_pos h2, e2]
theorem sTry_nx {names : List Str} {sub : Str → Bool} {u w : CV → Out} {ρ ρ1 : CV} (e : u ρ = .nx ρ1) : sTry names sub u w ρ = .nx ρ1 := by
  unfold sTry
  rw [e]
theorem sTryA_er {names : List Str} {sub : Str → Bool} {i : Nat} {u : CV → Out} {ρ ρ1 : CV} {c : Str} (e : u ρ = .er c ρ1) (h1 : names.contains c = true) (h2 : sub c = true) (h3 : i < ρ1.length) : sTryA names sub i u ρ = .rt (.bool true) .cl ρ1 := by
  unfold sTryA
  rw [e]
  dsimp only
  rw [if_pos h1, if_pos h2, if_pos h3]
/-! k03: the law -/
theorem refused_ok {x d : D} {c : Str} (e : retR (m_added [.val x, .val d]) = .er c) (h1 : errN.contains c = true) (h2 : sub_ReadError c = true) : retR (m__law_refused_by_any [.val x, .val d]) = .ok (.bool true, .cl) := by
  refine retR_rt (ρ' := [.val x, .val d, .un]) ?_
  exact sSeq_end (sTryA_er (c := c) (sExpr_er (mCall_er (ds := [(x, .cl), (d, .cl)]) (mCons_ok rfl (mCons_ok rfl mNil_ok)) rfl e)) h1 h2 (by simp))
theorem sTry_ert {names : List Str} {sub : Str → Bool} {u w : CV → Out} {ρ ρ1 ρ2 : CV} {c : Str} {d : D} {m : Md} (e : u ρ = .er c ρ1) (h1 : names.contains c = true) (h2 : sub c = true) (e2 : w ρ1 = .rt d m ρ2) : sTry names sub u w ρ = .rt d m ρ2 := by
  unfold sTry
  rw [e]
  dsimp only
  rw [if_pos h1, if_pos h2, e2]
theorem rCallFL {M : CV → RF} {fa : CV → Rs (List (D × Md))} {ρ cs : CV} {as : List (D × Md)} {ds : List D} {m : Md} (e : fa ρ = .ok as) (hc : as.map toCell = cs) (e2 : retR (M cs) = .ok (.list ds, m)) (hm : m = .fr ∨ m = .ow) (hl : lfs ds = true) : mCall M fa ρ = .ok (.list ds, .fr) := by
  subst hc
  rw [mCall_ok e e2]
  rcases hm with rfl | rfl
  · unfold callMd
    dsimp only
    rw [if_pos (.inr hl)]
    rfl
  · unfold callMd
    dsimp only
    rw [if_pos (.inr hl)]
    rfl
theorem hAdd_row {t : List R4} {r : R4} {m : Md} (hm : itCl m = true) (hm2 : m ≠ .fz) (h : t.length ≤ 900) : hAdd (.list (t.map rowD), m) (.list [rowD r], .fr) = some (.list ((t ++ [r]).map rowD), .fr) := by
  unfold hAdd
  dsimp only
  rw [if_pos ⟨hm2, by decide, le_line (by rw [List.length_map, List.length_singleton]; omega), .inl ⟨hm, rfl⟩⟩, List.map_append]
  rfl
local macro_rules | `(tactic| walk_at "e") => `(tactic| first
  | ((with_reducible refine' cell_go ?a ?b _); (case a => assumption); (case b => omega))
  | ((with_reducible refine' cells_go ?a ?b _ ?c ?d); (case a => assumption); (case c => walk_at "e"); (case d => walk_at "e"); (case b => omega)))
theorem law_ret {ns : List Int} {m : Md} (hm : m = .fz ∨ m = .cl) (hn : ns.length ≤ 63) : ∃ ρ, m_law [scrC ns m] = .ok ((.bool true, .cl), ρ) := by
  obtain ⟨ws, hws, hnd, ew⟩ := words_ok2 (cellI ns (0 : Int).toNat)
  have hws8 := hws.1
  obtain ⟨t0, ht0, hl0, h6t, et0⟩ := table_ok2 hws (cellsI ns (3 : Int).toNat (15 : Int).toNat) (Nat.le_trans (cellsI_len _ _ _) (by decide))
  have hl10 : t0.length ≤ 12 := Nat.le_trans hl0 (Nat.le_trans (cellsI_len _ _ _) (by decide))
  have hf0 : Far ws t0 := fun r hr => .inl (h6t r hr)
  have s1 : b_law_1 [scrC ns m, .un, .un, .un, .un, .un, .un, .un, .un] = .nx [scrC ns m, .own (strsD ws), .un, .un, .un, .un, .un, .un, .un] := by walk_at "s"
  have s2 : b_law_2 [scrC ns m, .own (strsD ws), .un, .un, .un, .un, .un, .un, .un] = .nx [scrC ns m, .val (.list (strsD ws)), .own (t0.map rowD), .un, .un, .un, .un, .un, .un] := by
    refine sShr_go (ρ' := [scrC ns m, .val (.list (strsD ws)), .un, .un, .un, .un, .un, .un, .un]) rfl ?_
    walk_at "s"
  -- the table
  obtain ⟨t, z, ht, hl, hz, s3⟩ : ∃ (t : List R4) (z : Cell), (∀ r ∈ t, TellOk r) ∧ t.length ≤ 52 ∧ (z = .own (t.map rowD) ∨ z = .val (.list (t.map rowD))) ∧ b_law_3 [scrC ns m, .val (.list (strsD ws)), .own (t0.map rowD), .un, .un, .un, .un, .un, .un] = .nx [scrC ns m, .val (.list (strsD ws)), z, .un, .un, .un, .un, .un, .un] := by
    have tc : mCmp hEq (mBin hMod (mBin hDiv (mCall m__law_cell_at (mCons (mVar 0) (mCons (mK (.int 2)) (mNil)))) (mK (.int 36))) (mK (.int 4))) (mK (.int 1)) [scrC ns m, .val (.list (strsD ws)), .own (t0.map rowD), .un, .un, .un, .un, .un, .un] = .ok (decide (cellI ns (2 : Int).toNat / 36 % 4 = 1)) := by walk_at "e"
    by_cases h : cellI ns (2 : Int).toNat / 36 % 4 = 1
    · rw [decide_eq_true h] at tc
      obtain ⟨t, h1, h2, h3, mw, hmw, ew⟩ := wide_ok2 hws (cellI ns (2 : Int).toNat / 144) ht0 hf0 hl10
      have sh : ∀ {o : Out}, sSet 2 (mCall m__law_wide_by (mCons (mVar 2) (mCons (mBin hDiv (mCall m__law_cell_at (mCons (mVar 0) (mCons (mK (.int 2)) (mNil)))) (mK (.int 144))) (mCons (mVar 1) (mNil))))) [scrC ns m, .val (.list (strsD ws)), .val (.list (t0.map rowD)), .un, .un, .un, .un, .un, .un] = o → b_law_3_1 [scrC ns m, .val (.list (strsD ws)), .own (t0.map rowD), .un, .un, .un, .un, .un, .un] = o := fun e =>
        sShr_go (ρ' := [scrC ns m, .val (.list (strsD ws)), .own (t0.map rowD), .un, .un, .un, .un, .un, .un]) rfl (sShr_go (ρ' := [scrC ns m, .val (.list (strsD ws)), .val (.list (t0.map rowD)), .un, .un, .un, .un, .un, .un]) rfl e)
      have ea : mCons (mVar 2) (mCons (mBin hDiv (mCall m__law_cell_at (mCons (mVar 0) (mCons (mK (.int 2)) (mNil)))) (mK (.int 144))) (mCons (mVar 1) (mNil))) [scrC ns m, .val (.list (strsD ws)), .val (.list (t0.map rowD)), .un, .un, .un, .un, .un, .un] = .ok [(.list (t0.map rowD), .cl), (.int (cellI ns (2 : Int).toNat / 144), .cl), (.list (strsD ws), .cl)] := by walk_at "e"
      rcases hmw with rfl | rfl
      · exact ⟨t, .own (t.map rowD), h1.ok, h3, .inl rfl, sIf_t tc (sh (sSet_fr (rCallF ea rfl rfl ew (.inr rfl)) rfl))⟩
      · exact ⟨t, .val (.list (t.map rowD)), h1.ok, h3, .inr rfl, sIf_t tc (sh (sSet_cl (rCall ea rfl rfl ew) rfl))⟩
    · rw [decide_eq_false h] at tc
      exact ⟨t0, _, ht0.ok, by omega, .inl rfl, sIf_f tc rfl⟩
  have hsh : ∀ a1 a3 a4 a5 a6 a7 a8 : Cell, shr 2 [scrC ns m, a1, z, a3, a4, a5, a6, a7, a8] = [scrC ns m, a1, .val (.list (t.map rowD)), a3, a4, a5, a6, a7, a8] := fun _ _ _ _ _ _ _ => by rcases hz with rfl | rfl <;> rfl
  have hzv : ∃ mz, itCl mz = true ∧ ∀ a1 a3 a4 a5 a6 a7 a8 : Cell, mVar 2 [scrC ns m, a1, z, a3, a4, a5, a6, a7, a8] = .ok (.list (t.map rowD), mz) := by
    rcases hz with rfl | rfl
    · exact ⟨.ow, rfl, fun _ _ _ _ _ _ _ => rfl⟩
    · exact ⟨.cl, rfl, fun _ _ _ _ _ _ _ => rfl⟩
  obtain ⟨mz, hmz, hzv⟩ := hzv
  obtain ⟨r, hr, _, er⟩ := telling_ok2 (cellI ns (1 : Int).toNat) hws
  have s4 : b_law_4 [scrC ns m, .val (.list (strsD ws)), z, .un, .un, .un, .un, .un, .un] = .nx [scrC ns m, .val (.list (strsD ws)), z, .val (rowD r), .un, .un, .un, .un, .un] := by
    refine sShr_go (ρ' := [scrC ns m, .val (.list (strsD ws)), z, .un, .un, .un, .un, .un, .un]) rfl ?_
    walk_at "s"
  have s5 : b_law_5 [scrC ns m, .val (.list (strsD ws)), z, .val (rowD r), .un, .un, .un, .un, .un] = .nx [scrC ns m, .val (.list (strsD ws)), z, .val (rowD r), .own (t.map rowD), .un, .un, .un, .un] := sSet_fr (mCallB_ok (mCons_ok (hzv _ _ _ _ _ _ _) mNil_ok) (hListOf_ok hmz)) rfl
  have ro := law_rows_ok ht (by omega)
  have ad := added_ok t (by omega) hr
  have tc6 : mCmp hEq (mBin hMod (mCall m__law_cell_at (mCons (mVar 0) (mCons (mK (.int 2)) (mNil)))) (mK (.int 3))) (mK (.int 1)) [scrC ns m, .val (.list (strsD ws)), z, .val (rowD r), .own (t.map rowD), .un, .un, .un, .un] = .ok (decide (cellI ns (2 : Int).toNat % 3 = 1)) := by walk_at "e"
  have pre : ∀ {o : Out}, sSeq b_law_6 (sSeq b_law_7 (sSeq b_law_8 (sSeq b_law_9 (sSeq b_law_10 (sSeq b_law_11 (sSeq b_law_12 (sSeq b_law_13 (sSeq b_law_14 (sSeq b_law_15 (sSeq b_law_16 (sSeq b_law_17 b_law_18))))))))))) [scrC ns m, .val (.list (strsD ws)), z, .val (rowD r), .own (t.map rowD), .un, .un, .un, .un] = o → b_law [scrC ns m, .un, .un, .un, .un, .un, .un, .un, .un] = o := fun e => sSeq_go s1 (sSeq_go s2 (sSeq_go s3 (sSeq_go s4 (sSeq_go s5 e))))
  by_cases h6 : cellI ns (2 : Int).toNat % 3 = 1
  · -- what is no telling
    rw [decide_eq_true h6] at tc6
    obtain ⟨d, hd, ed⟩ := spoiled_ok hr (cellI ns (2 : Int).toNat / 3)
    have s61 : b_law_6_1 [scrC ns m, .val (.list (strsD ws)), z, .val (rowD r), .own (t.map rowD), .un, .un, .un, .un] = .nx [scrC ns m, .val (.list (strsD ws)), z, .val (rowD r), .own (t.map rowD), .val d, .un, .un, .un] := by
      refine sShr_go (ρ' := [scrC ns m, .val (.list (strsD ws)), z, .val (rowD r), .own (t.map rowD), .un, .un, .un, .un]) rfl ?_
      walk_at "s"
    have na := added_not (x := .list (t.map rowD)) hd
    have e621 : b_law_6_2_1 [scrC ns m, .val (.list (strsD ws)), z, .val (rowD r), .own (t.map rowD), .val d, .un, .un, .un] = .er "NoTelling" [scrC ns m, .val (.list (strsD ws)), z, .val (rowD r), .own (t.map rowD), .val d, .un, .un, .un] := sShr_go (ρ' := [scrC ns m, .val (.list (strsD ws)), z, .val (rowD r), .own (t.map rowD), .val d, .un, .un, .un]) rfl (sExpr_er (mCall_er (ds := [(.list (t.map rowD), .ow), (d, .cl)]) (mCons_ok rfl (mCons_ok rfl mNil_ok)) rfl na))
    have rf := refused_ok na (by decide +kernel) (by decide +kernel)
    have c1 : mCall m__law_refused_by_any (mCons (mVar 4) (mCons (mVar 5) (mNil))) [scrC ns m, .val (.list (strsD ws)), .val (.list (t.map rowD)), .val (rowD r), .own (t.map rowD), .val d, .un, .un, .un] = .ok (.bool true, .cl) := rCallL (as := [(.list (t.map rowD), .ow), (d, .cl)]) (mCons_ok rfl (mCons_ok rfl mNil_ok)) rfl rf rfl
    have c2 : mCall m__law_rows (mCons (mVar 4) (mCons (mVar 2) (mNil))) [scrC ns m, .val (.list (strsD ws)), .val (.list (t.map rowD)), .val (rowD r), .own (t.map rowD), .val d, .un, .un, .un] = .ok (.bool true, .cl) := rCallL (as := [(.list (t.map rowD), .ow), (.list (t.map rowD), .cl)]) (mCons_ok rfl (mCons_ok rfl mNil_ok)) rfl ro rfl
    have s62 : b_law_6_2 [scrC ns m, .val (.list (strsD ws)), z, .val (rowD r), .own (t.map rowD), .val d, .un, .un, .un] = .rt (.bool true) .cl [scrC ns m, .val (.list (strsD ws)), .val (.list (t.map rowD)), .val (rowD r), .own (t.map rowD), .val d, .un, .un, .un] := sTry_ert e621 (by decide +kernel) (by decide +kernel) (sShr_go (hsh _ _ _ _ _ _ _) (sShr_go (ρ' := [scrC ns m, .val (.list (strsD ws)), .val (.list (t.map rowD)), .val (rowD r), .own (t.map rowD), .val d, .un, .un, .un]) rfl (sRet_ok (mAndV_t c1 c2) (by decide))))
    exact ⟨_, run_rt (pre (sSeq_end (sIf_t tc6 (sSeq_go s61 (sSeq_end s62)))))⟩
  · rw [decide_eq_false h6] at tc6
    have s6 : b_law_6 [scrC ns m, .val (.list (strsD ws)), z, .val (rowD r), .own (t.map rowD), .un, .un, .un, .un] = .nx [scrC ns m, .val (.list (strsD ws)), z, .val (rowD r), .own (t.map rowD), .un, .un, .un, .un] := sIf_f tc6 rfl
    have cl := clash_ok t r
    have s7 : b_law_7 [scrC ns m, .val (.list (strsD ws)), z, .val (rowD r), .own (t.map rowD), .un, .un, .un, .un] = .nx [scrC ns m, .val (.list (strsD ws)), .val (.list (t.map rowD)), .val (rowD r), .own (t.map rowD), .un, .val (.bool (clashR t r)), .un, .un] := sShr_go (ρ' := [scrC ns m, .val (.list (strsD ws)), z, .val (rowD r), .own (t.map rowD), .un, .un, .un, .un]) rfl (sShr_go (hsh _ _ _ _ _ _ _) (sSet_cl (rCall (as := [(.list (t.map rowD), .cl), (rowD r, .cl)]) rfl rfl rfl cl) rfl))
    have s89 : ∀ {o : Out}, sSeq b_law_10 (sSeq b_law_11 (sSeq b_law_12 (sSeq b_law_13 (sSeq b_law_14 (sSeq b_law_15 (sSeq b_law_16 (sSeq b_law_17 b_law_18))))))) [scrC ns m, .val (.list (strsD ws)), .val (.list (t.map rowD)), .val (rowD r), .own (t.map rowD), .un, .val (.bool (clashR t r)), .val (.bool false), .val .none] = o → b_law [scrC ns m, .un, .un, .un, .un, .un, .un, .un, .un] = o := fun e => pre (sSeq_go s6 (sSeq_go s7 (sSeq_go (ρ' := [scrC ns m, .val (.list (strsD ws)), .val (.list (t.map rowD)), .val (rowD r), .own (t.map rowD), .un, .val (.bool (clashR t r)), .val (.bool false), .un]) (sSet_cl mK_ok rfl) (sSeq_go (ρ' := [scrC ns m, .val (.list (strsD ws)), .val (.list (t.map rowD)), .val (rowD r), .own (t.map rowD), .un, .val (.bool (clashR t r)), .val (.bool false), .val .none]) (sSet_cl mK_ok rfl) e))))
    have r42 : ∀ {ρ : CV}, mVar 4 ρ = .ok (.list (t.map rowD), .ow) → mVar 2 ρ = .ok (.list (t.map rowD), .cl) → mCall m__law_rows (mCons (mVar 4) (mCons (mVar 2) (mNil))) ρ = .ok (.bool true, .cl) := fun e1 e2 => rCallL (as := [(.list (t.map rowD), .ow), (.list (t.map rowD), .cl)]) (mCons_ok e1 (mCons_ok e2 mNil_ok)) rfl ro rfl
    cases hc : clashR t r with
    | true =>
      rw [hc, if_pos rfl] at ad
      rw [hc] at s89
      have e10 : b_law_10_1 [scrC ns m, .val (.list (strsD ws)), .val (.list (t.map rowD)), .val (rowD r), .own (t.map rowD), .un, .val (.bool true), .val (.bool false), .val .none] = .er "Clash" [scrC ns m, .val (.list (strsD ws)), .val (.list (t.map rowD)), .val (rowD r), .own (t.map rowD), .un, .val (.bool true), .val (.bool false), .val .none] := sShr_go (ρ' := [scrC ns m, .val (.list (strsD ws)), .val (.list (t.map rowD)), .val (rowD r), .own (t.map rowD), .un, .val (.bool true), .val (.bool false), .val .none]) rfl (sSet_er (mCall_er (ds := [(.list (t.map rowD), .ow), (rowD r, .cl)]) (mCons_ok rfl (mCons_ok rfl mNil_ok)) rfl ad))
      have s10 : b_law_10 [scrC ns m, .val (.list (strsD ws)), .val (.list (t.map rowD)), .val (rowD r), .own (t.map rowD), .un, .val (.bool true), .val (.bool false), .val .none] = .nx [scrC ns m, .val (.list (strsD ws)), .val (.list (t.map rowD)), .val (rowD r), .own (t.map rowD), .un, .val (.bool true), .val (.bool true), .val .none] := sTry_er e10 (by decide +kernel) (by decide +kernel) (sSet_cl mK_ok rfl)
      have s11 : b_law_11 [scrC ns m, .val (.list (strsD ws)), .val (.list (t.map rowD)), .val (rowD r), .own (t.map rowD), .un, .val (.bool true), .val (.bool true), .val .none] = .nx [scrC ns m, .val (.list (strsD ws)), .val (.list (t.map rowD)), .val (rowD r), .own (t.map rowD), .un, .val (.bool true), .val (.bool true), .val .none] := sShr_go (ρ' := [scrC ns m, .val (.list (strsD ws)), .val (.list (t.map rowD)), .val (rowD r), .own (t.map rowD), .un, .val (.bool true), .val (.bool true), .val .none]) rfl (sIf_f (mOr_ok (a := false) (b := false) ((mNot_ok (mBool_ok (r42 rfl rfl))).trans rfl) fun _ => mCmp_ok (x := (.bool true, .cl)) (y := (.bool true, .cl)) rfl rfl rfl) rfl)
      have rf := refused_ok ad (by decide +kernel) (by decide +kernel)
      have c1 : mCall m__law_refused_by_any (mCons (mVar 4) (mCons (mVar 3) (mNil))) [scrC ns m, .val (.list (strsD ws)), .val (.list (t.map rowD)), .val (rowD r), .own (t.map rowD), .un, .val (.bool true), .val (.bool true), .val .none] = .ok (.bool true, .cl) := rCallL (as := [(.list (t.map rowD), .ow), (rowD r, .cl)]) (mCons_ok rfl (mCons_ok rfl mNil_ok)) rfl rf rfl
      exact ⟨_, run_rt (s89 (sSeq_go s10 (sSeq_go s11 (sSeq_end (sIf_t (mBool_ok (a := true) (m := .cl) rfl) (sShr_go (ρ' := [scrC ns m, .val (.list (strsD ws)), .val (.list (t.map rowD)), .val (rowD r), .own (t.map rowD), .un, .val (.bool true), .val (.bool true), .val .none]) rfl (sRet_ok c1 (by decide))))))))⟩
    | false =>
      rw [hc, if_neg Bool.false_ne_true] at ad
      rw [hc] at s89
      have ht2 : ∀ x ∈ t ++ [r], TellOk x := fun x hx => by
        rcases List.mem_append.mp hx with (hx | hx)
        · exact ht x hx
        · rw [List.mem_singleton.mp hx]; exact hr
      have ro2 := law_rows_ok ht2 (by rw [List.length_append, List.length_singleton]; omega)
      have lf2 := rows_lfs (t ++ [r])
      have c10 : mCall m_added (mCons (mVar 4) (mCons (mVar 3) (mNil))) [scrC ns m, .val (.list (strsD ws)), .val (.list (t.map rowD)), .val (rowD r), .own (t.map rowD), .un, .val (.bool false), .val (.bool false), .val .none] = .ok (.list ((t ++ [r]).map rowD), .fr) := rCallFL (as := [(.list (t.map rowD), .ow), (rowD r, .cl)]) rfl rfl ad (.inl rfl) lf2
      have s10 : b_law_10 [scrC ns m, .val (.list (strsD ws)), .val (.list (t.map rowD)), .val (rowD r), .own (t.map rowD), .un, .val (.bool false), .val (.bool false), .val .none] = .nx [scrC ns m, .val (.list (strsD ws)), .val (.list (t.map rowD)), .val (rowD r), .own (t.map rowD), .un, .val (.bool false), .val (.bool false), .own ((t ++ [r]).map rowD)] := sTry_nx (sShr_go (ρ' := [scrC ns m, .val (.list (strsD ws)), .val (.list (t.map rowD)), .val (rowD r), .own (t.map rowD), .un, .val (.bool false), .val (.bool false), .val .none]) rfl (sSet_fr c10 rfl))
      have s11 : b_law_11 [scrC ns m, .val (.list (strsD ws)), .val (.list (t.map rowD)), .val (rowD r), .own (t.map rowD), .un, .val (.bool false), .val (.bool false), .own ((t ++ [r]).map rowD)] = .nx [scrC ns m, .val (.list (strsD ws)), .val (.list (t.map rowD)), .val (rowD r), .own (t.map rowD), .un, .val (.bool false), .val (.bool false), .own ((t ++ [r]).map rowD)] := sShr_go (ρ' := [scrC ns m, .val (.list (strsD ws)), .val (.list (t.map rowD)), .val (rowD r), .own (t.map rowD), .un, .val (.bool false), .val (.bool false), .own ((t ++ [r]).map rowD)]) rfl (sIf_f (mOr_ok (a := false) (b := false) ((mNot_ok (mBool_ok (r42 rfl rfl))).trans rfl) fun _ => mCmp_ok (x := (.bool false, .cl)) (y := (.bool false, .cl)) rfl rfl rfl) rfl)
      have s12 : b_law_12 [scrC ns m, .val (.list (strsD ws)), .val (.list (t.map rowD)), .val (rowD r), .own (t.map rowD), .un, .val (.bool false), .val (.bool false), .own ((t ++ [r]).map rowD)] = .nx [scrC ns m, .val (.list (strsD ws)), .val (.list (t.map rowD)), .val (rowD r), .own (t.map rowD), .un, .val (.bool false), .val (.bool false), .own ((t ++ [r]).map rowD)] := sIf_f (mBool_ok (a := false) (m := .cl) rfl) rfl
      have due : ∀ {ρ : CV}, mVar 2 ρ = .ok (.list (t.map rowD), .cl) → mVar 3 ρ = .ok (rowD r, .cl) → mBin hAdd (mVar 2) (mLst (mCons (mVar 3) (mNil))) ρ = .ok (.list ((t ++ [r]).map rowD), .fr) := fun e1 e2 => mBin_ok e1 (mLst_go (ds := [(rowD r, .cl)]) (es := [rowD r]) (mCons_ok e2 mNil_ok) ⟨rfl, Nat.le_of_ble_eq_true rfl⟩ rfl) (hAdd_row rfl (by decide) (by omega))
      have r8 : ∀ {ρ : CV}, mVar 8 ρ = .ok (.list ((t ++ [r]).map rowD), .ow) → mVar 2 ρ = .ok (.list (t.map rowD), .cl) → mVar 3 ρ = .ok (rowD r, .cl) → mNot (mBool (mCall m__law_rows (mCons (mVar 8) (mCons (mBin hAdd (mVar 2) (mLst (mCons (mVar 3) (mNil)))) (mNil))))) ρ = .ok false := fun e1 e2 e3 =>
        (mNot_ok (mBool_ok (rCallL (as := [(.list ((t ++ [r]).map rowD), .ow), (.list ((t ++ [r]).map rowD), .fr)]) (mCons_ok e1 (mCons_ok (due e2 e3) mNil_ok)) rfl ro2 rfl))).trans rfl
      have s13 : b_law_13 [scrC ns m, .val (.list (strsD ws)), .val (.list (t.map rowD)), .val (rowD r), .own (t.map rowD), .un, .val (.bool false), .val (.bool false), .own ((t ++ [r]).map rowD)] = .nx [scrC ns m, .val (.list (strsD ws)), .val (.list (t.map rowD)), .val (rowD r), .own (t.map rowD), .un, .val (.bool false), .val (.bool false), .own ((t ++ [r]).map rowD)] := sShr_go (ρ' := [scrC ns m, .val (.list (strsD ws)), .val (.list (t.map rowD)), .val (rowD r), .own (t.map rowD), .un, .val (.bool false), .val (.bool false), .own ((t ++ [r]).map rowD)]) rfl (sIf_f (r8 rfl rfl rfl) rfl)
      have s14 : b_law_14 [scrC ns m, .val (.list (strsD ws)), .val (.list (t.map rowD)), .val (rowD r), .own (t.map rowD), .un, .val (.bool false), .val (.bool false), .own ((t ++ [r]).map rowD)] = .nx [scrC ns m, .val (.list (strsD ws)), .val (.list (t.map rowD)), .val (rowD r), .own (t.map rowD ++ [.tuple [.str "tell", .str "left", .int 1, .str "x"]]), .un, .val (.bool false), .val (.bool false), .own ((t ++ [r]).map rowD)] := sApp_go (ds := t.map rowD) (d := .tuple [.str "tell", .str "left", .int 1, .str "x"]) rfl (mLift_go (m := .cl) (by walk_at "e") rfl) (by rw [List.length_map]; omega) rfl
      have s15 : b_law_15 [scrC ns m, .val (.list (strsD ws)), .val (.list (t.map rowD)), .val (rowD r), .own (t.map rowD ++ [.tuple [.str "tell", .str "left", .int 1, .str "x"]]), .un, .val (.bool false), .val (.bool false), .own ((t ++ [r]).map rowD)] = .nx [scrC ns m, .val (.list (strsD ws)), .val (.list (t.map rowD)), .val (rowD r), .own (t.map rowD ++ [.tuple [.str "tell", .str "left", .int 1, .str "x"]]), .un, .val (.bool false), .val (.bool false), .own ((t ++ [r]).map rowD)] := sShr_go (ρ' := [scrC ns m, .val (.list (strsD ws)), .val (.list (t.map rowD)), .val (rowD r), .own (t.map rowD ++ [.tuple [.str "tell", .str "left", .int 1, .str "x"]]), .un, .val (.bool false), .val (.bool false), .own ((t ++ [r]).map rowD)]) rfl (sIf_f (r8 rfl rfl rfl) rfl)
      have s16 : b_law_16 [scrC ns m, .val (.list (strsD ws)), .val (.list (t.map rowD)), .val (rowD r), .own (t.map rowD ++ [.tuple [.str "tell", .str "left", .int 1, .str "x"]]), .un, .val (.bool false), .val (.bool false), .own ((t ++ [r]).map rowD)] = .nx [scrC ns m, .val (.list (strsD ws)), .val (.list (t.map rowD)), .val (rowD r), .own (t.map rowD), .un, .val (.bool false), .val (.bool false), .own ((t ++ [r]).map rowD)] := sExprX_go (mPop_go (ds := t.map rowD) (d := .tuple [.str "tell", .str "left", .int 1, .str "x"]) rfl rfl)
      have s17 : b_law_17 [scrC ns m, .val (.list (strsD ws)), .val (.list (t.map rowD)), .val (rowD r), .own (t.map rowD), .un, .val (.bool false), .val (.bool false), .own ((t ++ [r]).map rowD)] = .nx [scrC ns m, .val (.list (strsD ws)), .val (.list (t.map rowD)), .val (rowD r), .own (t.map rowD), .un, .val (.bool false), .val (.bool false), .own ((t ++ [r]).map rowD ++ [rowD r])] := sApp_go (ds := (t ++ [r]).map rowD) (d := rowD r) rfl (mLift_go (m := .cl) rfl rfl) (by rw [List.length_map, List.length_append, List.length_singleton]; omega) rfl
      have c18 : mCall m_added (mCons (mVar 4) (mCons (mVar 3) (mNil))) [scrC ns m, .val (.list (strsD ws)), .val (.list (t.map rowD)), .val (rowD r), .own (t.map rowD), .un, .val (.bool false), .val (.bool false), .own ((t ++ [r]).map rowD ++ [rowD r])] = .ok (.list ((t ++ [r]).map rowD), .fr) := rCallFL (as := [(.list (t.map rowD), .ow), (rowD r, .cl)]) rfl rfl ad (.inl rfl) lf2
      have f2 : mCall m__law_rows (mCons (mCall m_added (mCons (mVar 4) (mCons (mVar 3) (mNil)))) (mCons (mBin hAdd (mVar 2) (mLst (mCons (mVar 3) (mNil)))) (mNil))) [scrC ns m, .val (.list (strsD ws)), .val (.list (t.map rowD)), .val (rowD r), .own (t.map rowD), .un, .val (.bool false), .val (.bool false), .own ((t ++ [r]).map rowD ++ [rowD r])] = .ok (.bool true, .cl) := rCallL (as := [(.list ((t ++ [r]).map rowD), .fr), (.list ((t ++ [r]).map rowD), .fr)]) (mCons_ok c18 (mCons_ok (due rfl rfl) mNil_ok)) rfl ro2 rfl
      exact ⟨_, run_rt (s89 (sSeq_go s10 (sSeq_go s11 (sSeq_go s12 (sSeq_go s13 (sSeq_go s14 (sSeq_go s15 (sSeq_go s16 (sSeq_go s17 (sShr_go (ρ' := [scrC ns m, .val (.list (strsD ws)), .val (.list (t.map rowD)), .val (rowD r), .own (t.map rowD), .un, .val (.bool false), .val (.bool false), .own ((t ++ [r]).map rowD ++ [rowD r])]) rfl (sShr_go (ρ' := [scrC ns m, .val (.list (strsD ws)), .val (.list (t.map rowD)), .val (rowD r), .own (t.map rowD), .un, .val (.bool false), .val (.bool false), .own ((t ++ [r]).map rowD ++ [rowD r])]) rfl (sRet_ok (mAndV_t (r42 rfl rfl) f2) (by decide)))))))))))))⟩
theorem law_true : ∀ ns : List Int, ns.length ≤ 63 → (∀ z ∈ ns, Builtin.Int.intBits z ≤ 1048576) → ∀ m, m = .fz ∨ m = .cl → ∃ ρ, m_law [scrC ns m] = .ok ((.bool true, .cl), ρ) := fun _ hn _ _ hm => law_ret hm hn
end V_k03

open PySem PySem.W
open PyProof.Rows
set_option maxHeartbeats 0 in
theorem PySem.Challenge.cw_precread_k03_tellings_added_holds : PySem.Challenge.rw_precread_k03_tellings_added.Holds := by
  w_on
  o_law
  k_head
  (case hw => w_witness2)
  k_fill
  refine Eng.walk_ofDefs (l := PySem.Challenge.rw_precread_k03_tellings_added) (n := 63) (k := 6) (x := "_law_script") (CX := fun w => L2N.CX (PySem.Challenge.rw_precread_k03_tellings_added).prog w) ["is_word"] rfl (by decide) rfl ⟨rfl, by decide, by decide⟩ (by decide +kernel) (fun w h Y => PySem.W.kIn_of Y) ?F (fun w H s s' e h => ?cx)
  case cx => exact Eng.cx_false h
  case F =>
    intro w mg fa h Y KX G hmg own
    refine' V_k03.all_mk KX G hmg own ?a_0 ?l_0 ?c_0 ?k_0 ?a_1 ?l_1 ?c_1 ?k_1 ?u_1 ?h_1 ?r_1 ?v_1 ?n_1 ?a_2 ?l_2 ?c_2 ?k_2 ?a_3 ?l_3 ?c_3 ?k_3 ?a_4 ?l_4 ?c_4 ?k_4 ?a_5 ?l_5 ?c_5 ?k_5 ?a_6 ?l_6 ?c_6 ?k_6 ?a_7 ?l_7 ?c_7 ?k_7 ?a_8 ?l_8 ?c_8 ?k_8 ?a_9 ?l_9 ?c_9 ?k_9 ?a_10 ?l_10 ?c_10 ?k_10 ?a_11 ?l_11 ?c_11 ?k_11 ?a_12 ?l_12 ?c_12 ?k_12 ?a_13 ?l_13 ?c_13 ?k_13 ?a_14 ?l_14 ?c_14 ?k_14 ?a_15 ?l_15 ?c_15 ?k_15 ?a_16 ?l_16 ?c_16 ?k_16 ?a_17 ?l_17 ?c_17 ?k_17 ?a_18 ?l_18 ?c_18 ?k_18 ?a_19 ?l_19 ?c_19 ?k_19 ?a_20 ?l_20 ?c_20 ?k_20 ?a_21 ?l_21 ?c_21 ?k_21 ?a_22 ?l_22 ?c_22 ?k_22 ?a_23 ?l_23 ?c_23 ?k_23 ?a_24 ?l_24 ?c_24 ?k_24 ?z_0 ?z_1 ?z_2 ?z_3 ?z_4 ?z_5 ?z_6 ?z_7 ?z_8 ?z_9 ?z_10 ?z_11 ?en_ReadError ?eb_ReadError ?et_ReadError ?xd_ReadError ?en_NoWord ?eb_NoWord ?et_NoWord ?xd_NoWord ?en_NoTelling ?eb_NoTelling ?et_NoTelling ?xd_NoTelling ?en_Clash ?eb_Clash ?et_Clash ?xd_Clash ?en_NoPart ?eb_NoPart ?et_NoPart ?xd_NoPart ?en_NoTree ?eb_NoTree ?et_NoTree ?xd_NoTree ?en_TooMuch ?eb_TooMuch ?et_TooMuch ?xd_TooMuch ?ek_NoTelling ?ex_NoTelling ?ek_Clash ?ex_Clash ?eq_NoTelling_ReadError ?eq_Clash_ReadError ?eq_NoTelling_NoTelling ?eq_Clash_NoTelling ?eq_NoTelling_Clash ?eq_Clash_Clash ?eq_NoTelling_NoWord ?eq_Clash_NoWord ?eq_NoTelling_NoPart ?eq_Clash_NoPart ?eq_NoTelling_NoTree ?eq_Clash_NoTree ?eq_NoTelling_TooMuch ?eq_Clash_TooMuch ?xg_NoTelling ?xk_NoTelling ?xa_NoTelling ?xm_NoTelling ?xv_NoTelling ?xi_NoTelling_NoWord ?xi_NoTelling_Clash ?xi_NoTelling_NoPart ?xi_NoTelling_NoTree ?xi_NoTelling_TooMuch ?xg_Clash ?xk_Clash ?xa_Clash ?xm_Clash ?xv_Clash ?xi_Clash_NoWord ?xi_Clash_NoTelling ?xi_Clash_NoPart ?xi_Clash_NoTree ?xi_Clash_TooMuch ?xn ?xt ?y_0 ?y_1 ?yl_1_0 ?ye_1_0 ?y_2 ?y_3 ?y_4 ?y_5 ?y_6 V_k03.law_true
    (case a_0 => k_is); (case l_0 => k_is); (case c_0 => k_is); (case k_0 => k_is); (case a_1 => k_is); (case l_1 => k_is); (case c_1 => k_is); (case k_1 => k_is); (case u_1 => k_is); (case h_1 => exact rfl); (case r_1 => rfl); (case v_1 => rfl); (case n_1 => rfl); (case a_2 => k_is); (case l_2 => k_is); (case c_2 => k_is); (case k_2 => k_is); (case a_3 => k_is); (case l_3 => k_is); (case c_3 => k_is); (case k_3 => k_is); (case a_4 => k_is); (case l_4 => k_is); (case c_4 => k_is); (case k_4 => k_is); (case a_5 => k_is); (case l_5 => k_is); (case c_5 => k_is); (case k_5 => k_is); (case a_6 => k_is); (case l_6 => k_is); (case c_6 => k_is); (case k_6 => k_is); (case a_7 => k_is); (case l_7 => k_is); (case c_7 => k_is); (case k_7 => k_is); (case a_8 => k_is); (case l_8 => k_is); (case c_8 => k_is); (case k_8 => k_is); (case a_9 => k_is); (case l_9 => k_is); (case c_9 => k_is); (case k_9 => k_is); (case a_10 => k_is); (case l_10 => k_is); (case c_10 => k_is); (case k_10 => k_is); (case a_11 => k_is); (case l_11 => k_is); (case c_11 => k_is); (case k_11 => k_is); (case a_12 => k_is); (case l_12 => k_is); (case c_12 => k_is); (case k_12 => k_is); (case a_13 => k_is); (case l_13 => k_is); (case c_13 => k_is); (case k_13 => k_is); (case a_14 => k_is); (case l_14 => k_is); (case c_14 => k_is); (case k_14 => k_is); (case a_15 => k_is); (case l_15 => k_is); (case c_15 => k_is); (case k_15 => k_is); (case a_16 => k_is); (case l_16 => k_is); (case c_16 => k_is); (case k_16 => k_is); (case a_17 => k_is); (case l_17 => k_is); (case c_17 => k_is); (case k_17 => k_is); (case a_18 => k_is); (case l_18 => k_is); (case c_18 => k_is); (case k_18 => k_is); (case a_19 => k_is); (case l_19 => k_is); (case c_19 => k_is); (case k_19 => k_is); (case a_20 => k_is); (case l_20 => k_is); (case c_20 => k_is); (case k_20 => k_is); (case a_21 => k_is); (case l_21 => k_is); (case c_21 => k_is); (case k_21 => k_is); (case a_22 => k_is); (case l_22 => k_is); (case c_22 => k_is); (case k_22 => k_is); (case a_23 => k_is); (case l_23 => k_is); (case c_23 => k_is); (case k_23 => k_is); (case a_24 => k_is); (case l_24 => k_is); (case c_24 => k_is); (case k_24 => k_is); (case z_0 => k_is); (case z_1 => k_is); (case z_2 => k_is); (case z_3 => k_is); (case z_4 => k_is); (case z_5 => k_is); (case z_6 => k_is); (case z_7 => k_is); (case z_8 => k_is); (case z_9 => k_is); (case z_10 => k_is); (case z_11 => k_is); (case en_ReadError => k_is); (case eb_ReadError => k_is); (case et_ReadError => k_is); (case xd_ReadError => k_is); (case en_NoWord => k_is); (case eb_NoWord => k_is); (case et_NoWord => k_is); (case xd_NoWord => k_is); (case en_NoTelling => k_is); (case eb_NoTelling => k_is); (case et_NoTelling => k_is); (case xd_NoTelling => k_is); (case en_Clash => k_is); (case eb_Clash => k_is); (case et_Clash => k_is); (case xd_Clash => k_is); (case en_NoPart => k_is); (case eb_NoPart => k_is); (case et_NoPart => k_is); (case xd_NoPart => k_is); (case en_NoTree => k_is); (case eb_NoTree => k_is); (case et_NoTree => k_is); (case xd_NoTree => k_is); (case en_TooMuch => k_is); (case eb_TooMuch => k_is); (case et_TooMuch => k_is); (case xd_TooMuch => k_is); (case ek_NoTelling => k_is); (case ex_NoTelling => k_exc); (case ek_Clash => k_is); (case ex_Clash => k_exc); (case eq_NoTelling_ReadError => k_is); (case eq_Clash_ReadError => k_is); (case eq_NoTelling_NoTelling => k_is); (case eq_Clash_NoTelling => k_is); (case eq_NoTelling_Clash => k_is); (case eq_Clash_Clash => k_is); (case eq_NoTelling_NoWord => k_is); (case eq_Clash_NoWord => k_is); (case eq_NoTelling_NoPart => k_is); (case eq_Clash_NoPart => k_is); (case eq_NoTelling_NoTree => k_is); (case eq_Clash_NoTree => k_is); (case eq_NoTelling_TooMuch => k_is); (case eq_Clash_TooMuch => k_is); (case xg_NoTelling => k_is); (case xk_NoTelling => k_is); (case xa_NoTelling => k_is); (case xm_NoTelling => k_is); (case xv_NoTelling => k_is); (case xi_NoTelling_NoWord => rfl); (case xi_NoTelling_Clash => rfl); (case xi_NoTelling_NoPart => rfl); (case xi_NoTelling_NoTree => rfl); (case xi_NoTelling_TooMuch => rfl); (case xg_Clash => k_is); (case xk_Clash => k_is); (case xa_Clash => k_is); (case xm_Clash => k_is); (case xv_Clash => k_is); (case xi_Clash_NoWord => rfl); (case xi_Clash_NoTelling => rfl); (case xi_Clash_NoPart => rfl); (case xi_Clash_NoTree => rfl); (case xi_Clash_TooMuch => rfl); (case xn => k_is); (case xt => k_is); (case y_0 => k_is); (case y_1 => k_is); (case yl_1_0 => k_is); (case ye_1_0 => exact rfl); (case y_2 => k_is); (case y_3 => k_is); (case y_4 => k_is); (case y_5 => k_is); (case y_6 => k_is)
