import PyProof.Rows.All
import HandS.ForMost
import HandS.ForExc
import HandS.Zip
import HandS.Walk
import HandS.IsInst
import HandS.Gcd
import HandS.Wide
import HandS.TupAny
import HandS.Style
import HandS.ExcInit
import HandS.ExcField
import HandS.ExcIs
import KE.GoesMore
import KE.GoesEnum
import HandS.Strs
import KE.KExcIs
import PySem.Challenge.RW_howeverled_k00_kinds_and_the_web_checker
section
set_option Elab.async false
set_option linter.all false
set_option autoImplicit false
set_option maxRecDepth 100000
/-! TL: expressions and statements over plain data: lists that one name owns are changed, all else is a value. -/
namespace TL
open PySem PySem.Spec PyProof.Rows L2

abbrev T := PyData
/-- a result: a value, or a new list that nobody else holds -/
inductive RV where
  | val (t : T) | own (ts : List T)
def RV.tree : RV → T
  | .val t => t
  | .own ts => .list ts
abbrev En := List (Option RV)
structure Exn where
  cls : Str
  fs : List (Str × T)
inductive Res (α : Type) where
  | ok (a : α) (e : En) | exc (x : Exn) (e : En) | bad

def Ex (H H' : Hp) : Prop := ∀ a o, H a = some o → H' a = some o
theorem Ex.refl (H : Hp) : Ex H H := fun _ _ h => h
theorem Ex.trans {H H1 H2 : Hp} (a : Ex H H1) (b : Ex H1 H2) : Ex H H2 := fun x o h => b x o (a x o h)
theorem Ex.new {H : Hp} {p : Addr} {o : HO} (h : H p = none) : Ex H (upd H p o) := fun a u e => by
  rw [upd_ne (ne_of_none e h)]
  exact e
theorem Ex.mut {H H' : Hp} {p : Addr} {o : HO} (e : Ex H H') (h : H p = none) : Ex H (upd H' p o) := fun a u ha => by
  rw [upd_ne (ne_of_none ha h)]
  exact e a u ha
theorem Ex.both {H H' : Hp} {p : Addr} {o : HO} (e : Ex H H') : Ex (upd H p o) (upd H' p o) := fun a u ha => by
  by_cases h : a = p
  · subst h
    rw [upd_same] at ha ⊢
    exact ha
  · rw [upd_ne h] at ha ⊢
    exact e a u ha
theorem Ex.back {H H' : Hp} {p : Addr} (e : Ex H H') (h : H' p = none) : H p = none := by
  cases h1 : H p with
  | none => rfl
  | some o => rw [e p o h1] at h; cases h
theorem ex_rd {H H' : Hp} {a : Addr} {u : HO} (e : Ex H H') (h : Rd H a u) : Rd H' a u := by
  rcases h with h | ⟨o, h⟩
  · exact Or.inl (e a _ h)
  · exact Or.inr ⟨o, e a _ h⟩
theorem ex_l {K : PySem.W.Frag} {H H' : Hp} {a : Addr} {xs : List V} (e : Ex H H') (h : SqL K H a xs) : SqL K H' a xs := by
  rcases h with h | h
  · exact Or.inl (ex_rd e h)
  · exact Or.inr h
theorem ex_t {K : PySem.W.Frag} {H H' : Hp} {a : Addr} {xs : List V} (e : Ex H H') (h : SqT K H a xs) : SqT K H' a xs := by
  rcases h with h | h
  · exact Or.inl (ex_rd e h)
  · exact Or.inr h
/-- a tuple that is known to its object, which bears no dict of its own -/
def Bare1 (o : Obj) : Prop := o.cls = .type "tuple" ∧ o.dict = none
def SqX (K : PySem.W.Frag) (H : Hp) (a : Addr) (xs : List V) : Prop := (∃ o, H a = some (.frz o (.tup xs)) ∧ Bare1 o) ∨
  ∃ (o : Obj) (its : Array Value) (n : Nat), K.lookup a = some o ∧ Bare1 o ∧ o.data = .seq its n ∧ its.size ≤ sizeLine ∧ Vals xs its.toList
theorem SqX.t {K : PySem.W.Frag} {H : Hp} {a : Addr} {xs : List V} (h : SqX K H a xs) : SqT K H a xs := by
  rcases h with ⟨o, h, _⟩ | ⟨o, its, n, h1, h2, h3, h4, h5⟩
  · exact .inl (.inr ⟨o, h⟩)
  · exact .inr ⟨o, its, n, h1, h2.1, h3, h4, h5⟩
theorem ex_x {K : PySem.W.Frag} {H H' : Hp} {a : Addr} {xs : List V} (e : Ex H H') (h : SqX K H a xs) : SqX K H' a xs := by
  rcases h with ⟨o, h, b⟩ | h
  · exact .inl ⟨o, e a _ h, b⟩
  · exact .inr h
/-! ### what stands for which data: a list that is tracked, a tuple, the script and a loop's pair (as a dict's items) -/
mutual
inductive Dq (K : PySem.W.Frag) (H : Hp) : V → PyData → Prop
  | non : Dq K H .non .none
  | bl (b : Bool) : Dq K H (.bl b) (.bool b)
  | int (i : Int) : Dq K H (.int i) (.int i)
  | str (x : Str) : Dq K H (.str x) (.str x)
  | lst {a : Addr} {xs : List V} {ds : List PyData} : Rd H a (.lst xs) → DqAll K H xs ds → Dq K H (.ref a) (.list ds)
  | tup {a : Addr} {xs : List V} {ds : List PyData} : SqX K H a xs → DqAll K H xs ds → Dq K H (.ref a) (.tuple ds)
  | prs {a : Addr} {x y : V} {d e : PyData} : SqT K H a [x, y] → Dq K H x d → Dq K H y e → Dq K H (.ref a) (.dict [(d, e), (.bool true, .none)])
  | scr {a : Addr} {ns : List Int} : SqL K H a (ns.map V.int) → Dq K H (.ref a) (.dict (ns.map fun n => (.int n, .none)))
  | exn {a dx : Addr} {gs : List (Str × V)} {fs : List (Str × PyData)} : H dx = some (.xd gs) → gs.map (·.1) = fs.map (·.1) → DqAll K H (gs.map (·.2)) (fs.map (·.2)) → Dq K H (.ref a) (.dict ((.str "exn", .int (a : Nat)) :: (.int (dx : Nat), .none) :: fs.map fun p => (.str p.1, p.2)))
inductive DqAll (K : PySem.W.Frag) (H : Hp) : List V → List PyData → Prop
  | nil : DqAll K H [] []
  | cons {v : V} {vs : List V} {d : PyData} {ds : List PyData} : Dq K H v d → DqAll K H vs ds → DqAll K H (v :: vs) (d :: ds)
end
mutual
def noDict : PyData → Bool
  | .dict _ => false
  | .list xs => noDicts xs
  | .tuple xs => noDicts xs
  | _ => true
def noDicts : List PyData → Bool
  | [] => true
  | x :: xs => noDict x && noDicts xs
end
mutual
theorem dq_dp {K : PySem.W.Frag} {H : Hp} : ∀ (d : T) (v : V), noDict d = true → Dq K H v d → Dp K H v d
  | .none, _, _, h => by cases h; exact .non
  | .bool _, _, _, h => by cases h; exact .bl _
  | .int _, _, _, h => by cases h; exact .int _
  | .str _, _, _, h => by cases h; exact .str _
  | .list ds, _, n, h => by
    cases h with
    | lst hs ha => exact .lst (Or.inl hs) (dqs_dp ds _ n ha)
  | .tuple ds, _, n, h => by
    cases h with
    | tup hs ha => exact .tup hs.t (dqs_dp ds _ n ha)
  | .dict _, _, n, h => by cases n
theorem dqs_dp {K : PySem.W.Frag} {H : Hp} : ∀ (ds : List T) (vs : List V), noDicts ds = true → DqAll K H vs ds → DpAll K H vs ds
  | [], _, _, h => by cases h; exact .nil
  | d :: ds, _, n, h => by
    have n' : (noDict d && noDicts ds) = true := n
    rw [Bool.and_eq_true] at n'
    cases h with
    | cons h1 h2 => exact .cons (dq_dp d _ n'.1 h1) (dqs_dp ds _ n'.2 h2)
end
mutual
theorem Dq.ex {K : PySem.W.Frag} {H H' : Hp} (e : Ex H H') : ∀ {d : T} {v : V}, Dq K H v d → Dq K H' v d
  | _, _, .non => .non
  | _, _, .bl b => .bl b
  | _, _, .int i => .int i
  | _, _, .str x => .str x
  | _, _, .lst hs ha => .lst (ex_rd e hs) (DqAll.ex e ha)
  | _, _, .tup hs ha => .tup (ex_x e hs) (DqAll.ex e ha)
  | _, _, .prs hs h1 h2 => .prs (ex_t e hs) (Dq.ex e h1) (Dq.ex e h2)
  | _, _, .scr hs => .scr (ex_l e hs)
  | _, _, .exn h1 h2 h3 => .exn (e _ _ h1) h2 (DqAll.ex e h3)
theorem DqAll.ex {K : PySem.W.Frag} {H H' : Hp} (e : Ex H H') : ∀ {ds : List T} {vs : List V}, DqAll K H vs ds → DqAll K H' vs ds
  | _, _, .nil => .nil
  | _, _, .cons h1 h2 => .cons (Dq.ex e h1) (DqAll.ex e h2)
end
theorem dq_ex {K : PySem.W.Frag} {H H' : Hp} (e : Ex H H') (d : T) (v : V) (h : Dq K H v d) : Dq K H' v d := h.ex e
theorem dqs_ex {K : PySem.W.Frag} {H H' : Hp} (e : Ex H H') (ds : List T) (vs : List V) (h : DqAll K H vs ds) : DqAll K H' vs ds := h.ex e
theorem DqAll.len {K : PySem.W.Frag} {H : Hp} : ∀ {vs : List V} {ds : List T}, DqAll K H vs ds → vs.length = ds.length
  | _, [], h => by cases h; rfl
  | _, d :: ds, h => by
    cases h with
    | cons h1 h2 => rw [List.length_cons, List.length_cons, DqAll.len h2]
theorem DqAll.get {K : PySem.W.Frag} {H : Hp} : ∀ {vs : List V} {ds : List T} {i : Nat} {d : T}, DqAll K H vs ds → ds[i]? = some d → ∃ v, vs[i]? = some v ∧ Dq K H v d
  | _, [], _, _, _, e => by simp at e
  | _, d :: ds, 0, _, h, e => by
    cases h with
    | cons h1 h2 =>
      simp at e
      subst e
      exact ⟨_, rfl, h1⟩
  | _, d :: ds, i + 1, _, h, e => by
    cases h with
    | cons h1 h2 =>
      obtain ⟨v, e1, e2⟩ := DqAll.get (i := i) h2 (by simpa using e)
      exact ⟨v, by simpa using e1, e2⟩
theorem DqAll.getV {K : PySem.W.Frag} {H : Hp} {vs : List V} {ds : List T} {i : Nat} {v : V} (h : DqAll K H vs ds) (e : vs[i]? = some v) : ∃ d, ds[i]? = some d ∧ Dq K H v d := by
  have hi := (List.getElem?_eq_some_iff.mp e).1
  have hl := h.len
  have hd : ds[i]? = some (ds[i]'(by omega)) := List.getElem?_eq_getElem (by omega)
  obtain ⟨w, e1, e2⟩ := h.get hd
  rw [e] at e1
  cases e1
  exact ⟨_, hd, e2⟩
theorem DqAll.app {K : PySem.W.Frag} {H : Hp} : ∀ {vs ws : List V} {ds es : List T}, DqAll K H vs ds → DqAll K H ws es → DqAll K H (vs ++ ws) (ds ++ es)
  | _, _, [], _, h, h' => by cases h; exact h'
  | _, _, d :: ds, _, h, h' => by
    cases h with
    | cons h1 h2 => exact .cons h1 (DqAll.app h2 h')
theorem DqAll.one {K : PySem.W.Frag} {H : Hp} {v : V} {d : T} (h : Dq K H v d) : DqAll K H [v] [d] := .cons h .nil
theorem DqAll.of {K : PySem.W.Frag} {H : Hp} : ∀ {vs : List V} {ds : List T}, vs.length = ds.length → (∀ (i : Nat) v d, vs[i]? = some v → ds[i]? = some d → Dq K H v d) → DqAll K H vs ds
  | [], [], _, _ => .nil
  | [], _ :: _, h, _ => by simp at h
  | _ :: _, [], h, _ => by simp at h
  | v :: vs, d :: ds, h, f => .cons (f 0 v d rfl rfl) (DqAll.of (by simpa using h) fun i v' d' e1 e2 => f (i + 1) v' d' (by simpa using e1) (by simpa using e2))
theorem DqAll.take {K : PySem.W.Frag} {H : Hp} {vs : List V} {ds : List T} (n : Nat) (h : DqAll K H vs ds) : DqAll K H (vs.take n) (ds.take n) :=
  DqAll.of (by rw [List.length_take, List.length_take, h.len]) fun (i : Nat) v d e1 e2 => by
    rw [List.getElem?_take] at e1 e2
    split at e1
    · obtain ⟨d', e3, e4⟩ := h.getV e1
      rw [if_pos (by assumption), e3] at e2
      cases e2
      exact e4
    · cases e1
theorem DqAll.drop {K : PySem.W.Frag} {H : Hp} {vs : List V} {ds : List T} (n : Nat) (h : DqAll K H vs ds) : DqAll K H (vs.drop n) (ds.drop n) :=
  DqAll.of (by rw [List.length_drop, List.length_drop, h.len]) fun (i : Nat) v d e1 e2 => by
    rw [List.getElem?_drop] at e1 e2
    obtain ⟨d', e3, e4⟩ := h.getV e1
    rw [e3] at e2
    cases e2
    exact e4
theorem DqAll.rev {K : PySem.W.Frag} {H : Hp} : ∀ {vs : List V} {ds : List T}, DqAll K H vs ds → DqAll K H vs.reverse ds.reverse
  | _, [], h => by cases h; exact .nil
  | _, d :: ds, h => by
    cases h with
    | cons h1 h2 =>
      rw [List.reverse_cons, List.reverse_cons]
      exact (DqAll.rev h2).app (.one h1)
theorem DqAll.set {K : PySem.W.Frag} {H : Hp} {v : V} {d : T} (r : Dq K H v d) : ∀ {vs : List V} {ds : List T} (i : Nat), DqAll K H vs ds → DqAll K H (vs.set i v) (ds.set i d)
  | _, [], _, h => by cases h; exact .nil
  | _, _ :: _, 0, h => by
    cases h with
    | cons h1 h2 => exact .cons r h2
  | _, _ :: ds, i + 1, h => by
    cases h with
    | cons h1 h2 => exact .cons h1 (DqAll.set r i h2)

/-! ### the state -/
/-- F: what must stay; B: what is laid down for good; H: the heap -/
def EntOk (K : PySem.W.Frag) (F B H : Hp) (v : V) : RV → Prop
  | .val t => Dq K B v t
  | .own ts => ∃ a xs, v = .ref a ∧ F a = none ∧ B a = none ∧ H a = some (.lst xs) ∧ DqAll K B xs ts
structure Sta (K : PySem.W.Frag) (F B H : Hp) (σ : L2.St) (e : En) : Prop where
  fh : Ex F H
  bh : Ex B H
  ent : ∀ (i : Nat) (r : RV), e[i]? = some (some r) → ∃ v, σ[i]? = some (some v) ∧ EntOk K F B H v r
  ln : e.length ≤ σ.length
  dj : ∀ (i j : Nat) (v : V) (ts us : List T), e[i]? = some (some (.own ts)) → e[j]? = some (some (.own us)) → σ[i]? = some (some v) → σ[j]? = some (some v) → i = j
/-- more is laid down, nothing that must stay -/
structure Grow (F B B' : Hp) : Prop where
  ex : Ex B B'
  new : ∀ a, B a = none → B' a ≠ none → F a = none
theorem Grow.refl {F B : Hp} : Grow F B B := ⟨Ex.refl B, fun a h h' => absurd h h'⟩
theorem Grow.trans {F B B1 B2 : Hp} (a : Grow F B B1) (b : Grow F B1 B2) : Grow F B B2 :=
  ⟨a.ex.trans b.ex, fun x h h' => by
    cases h1 : B1 x with
    | none => exact b.new x h1 h'
    | some o => exact a.new x h (by rw [h1]; exact fun z => nomatch z)⟩
theorem Grow.none {F B B' : Hp} (g : Grow F B B') {a : Addr} {o : HO} (hb : B a = none) (hf : F a = some o) : B' a = none := by
  cases h : B' a with
  | none => rfl
  | some u =>
    have := g.new a hb (by rw [h]; exact fun z => nomatch z)
    rw [hf] at this
    cases this
def RvOk (K : PySem.W.Frag) (F B H : Hp) (σ : L2.St) (e : En) (v : V) (r : RV) : Prop :=
  EntOk K F B H v r ∧ ∀ ts, r = .own ts → ∀ (i : Nat) us, e[i]? = some (some (.own us)) → σ[i]? ≠ some (some v)
/-- only new objects came -/
structure News (B H B' H' : Hp) : Prop where
  ex : Ex B B'
  bh : Ex B' H'
  hh : Ex H H'
  new : ∀ a, B a = none → B' a ≠ none → H a = none
theorem News.refl {B H : Hp} (h : Ex B H) : News B H B H := ⟨Ex.refl B, h, Ex.refl H, fun a h h' => absurd h h'⟩
theorem News.trans {B H B1 H1 B2 H2 : Hp} (a : News B H B1 H1) (b : News B1 H1 B2 H2) : News B H B2 H2 :=
  ⟨a.ex.trans b.ex, b.bh, a.hh.trans b.hh, fun x h h' => by
    cases h1 : B1 x with
    | none => exact a.hh.back (b.new x h1 h')
    | some o => exact a.new x h (by rw [h1]; exact fun z => nomatch z)⟩
/-- a new object that is laid down -/
theorem News.lay {B H : Hp} {p : Addr} {o : HO} (h : Ex B H) (hp : H p = none) : News B H (upd B p o) (upd H p o) :=
  ⟨Ex.new (h.back hp), h.both, Ex.new hp, fun a h1 h2 => by
    by_cases e : a = p
    · rw [e]; exact hp
    · rw [upd_ne e] at h2; exact absurd h1 h2⟩
/-- a new object that is not laid down -/
theorem News.lone {B H : Hp} {p : Addr} {o : HO} (h : Ex B H) (hp : H p = none) : News B H B (upd H p o) :=
  ⟨Ex.refl B, h.trans (Ex.new hp), Ex.new hp, fun a h1 h2 => absurd h1 h2⟩
theorem News.grow {F B H B' H' : Hp} (n : News B H B' H') (f : Ex F H) : Grow F B B' := ⟨n.ex, fun a h h' => f.back (n.new a h h')⟩
theorem EntOk.news {K : PySem.W.Frag} {F B H B' H' : Hp} {v : V} {r : RV} (n : News B H B' H') (h : EntOk K F B H v r) : EntOk K F B' H' v r := by
  cases r with
  | val t => exact dq_ex n.ex _ _ h
  | own ts =>
    obtain ⟨a, xs, e, hf, hb, hh, hd⟩ := h
    refine ⟨a, xs, e, hf, ?_, n.hh a _ hh, dqs_ex n.ex _ _ hd⟩
    cases h1 : B' a with
    | none => rfl
    | some o =>
      have := n.new a hb (by rw [h1]; exact fun z => nomatch z)
      rw [hh] at this
      cases this
theorem Sta.news {K : PySem.W.Frag} {F B H B' H' : Hp} {σ : L2.St} {e : En} (s : Sta K F B H σ e) (n : News B H B' H') : Sta K F B' H' σ e :=
  ⟨s.fh.trans n.hh, n.bh, fun i r h => let ⟨v, h1, h2⟩ := s.ent i r h; ⟨v, h1, h2.news n⟩, s.ln, s.dj⟩
/-- an own list is laid down -/
theorem Sta.freeze {K : PySem.W.Frag} {F B H : Hp} {σ : L2.St} {e : En} {a : Addr} {xs : List V} {ts : List T} (s : Sta K F B H σ e) (r : RvOk K F B H σ e (.ref a) (.own ts)) (hh : H a = some (.lst xs)) :
    Sta K F (upd B a (.lst xs)) H σ e ∧ Grow F B (upd B a (.lst xs)) ∧ Dq K (upd B a (.lst xs)) (.ref a) (.list ts) := by
  obtain ⟨⟨a', xs', e', hf, hb, hh', hd⟩, hn⟩ := r
  cases e'
  rw [hh] at hh'
  cases hh'
  have ex : Ex B (upd B a (.lst xs)) := Ex.new hb
  refine ⟨⟨s.fh, fun b o q => ?_, fun i r h => ?_, s.ln, s.dj⟩, ⟨ex, fun b h1 h2 => ?_⟩, .lst (Or.inl upd_same) (dqs_ex ex _ _ hd)⟩
  · by_cases hba : b = a
    · subst hba
      rw [upd_same] at q
      cases q
      exact hh
    · rw [upd_ne hba] at q
      exact s.bh b o q
  · obtain ⟨v, h1, h2⟩ := s.ent i r h
    refine ⟨v, h1, ?_⟩
    cases r with
    | val t => exact dq_ex ex _ _ h2
    | own us =>
      obtain ⟨b, ys, ev, gf, gb, gh, gd⟩ := h2
      subst ev
      refine ⟨b, ys, rfl, gf, ?_, gh, dqs_ex ex _ _ gd⟩
      have hne : b ≠ a := fun z => by
        subst z
        exact hn ts rfl i us h h1
      rw [upd_ne hne]
      exact gb
  · by_cases hba : b = a
    · subst hba
      exact hf
    · rw [upd_ne hba] at h2
      exact absurd h1 h2
end TL
end
section
set_option Elab.async false
set_option linter.all false
set_option autoImplicit false
set_option maxRecDepth 100000
namespace TL
open PySem PySem.Spec PyProof.Rows L2

def Res.bind {α β : Type} (r : Res α) (f : α → En → Res β) : Res β := match r with
  | .ok a e => f a e
  | .exc x e => .exc x e
  | .bad => .bad
/-- what is known of an exception: its class by name, its fields -/
def XOk (K : PySem.W.Frag) (mg : Str → Option Value) (B _H : Hp) (x : Exn) (c : Value) (d : Option Addr) : Prop :=
  ∃ (C dx : Addr) (gs : List (Str × V)), mg x.cls = some (.ref C) ∧ c = .ref C ∧ d = some dx ∧ B dx = some (.xd gs) ∧ gs.map (·.1) = x.fs.map (·.1) ∧ DqAll K B (gs.map (·.2)) (x.fs.map (·.2))
def Post (K : PySem.W.Frag) (mg : Str → Option Value) (W : WX) (F B : Hp) (σ : L2.St) {α : Type} (R : Hp → Hp → En → α → Prop) : Res α → Prop
  | .ok a e' => ∀ B' H', Sta K F B' H' σ e' → Grow F B B' → R B' H' e' a
  | .exc x e' => ∀ c d B' H', Sta K F B' H' σ e' → Grow F B B' → XOk K mg B' H' x c d → W c d σ H'
  | .bad => False
section
variable {K : PySem.W.Frag} {mg : Str → Option Value} {W : WX} {F B B1 H : Hp} {σ : L2.St} {α β : Type} {e : En}
theorem Post.up {R : Hp → Hp → En → α → Prop} {r : Res α} (h : Post K mg W F B σ R r) (g : Grow F B B1) : Post K mg W F B1 σ R r := by
  cases r with
  | ok a e' => exact fun B' H' s g' => h B' H' s (g.trans g')
  | exc x e' => exact fun c d B' H' s g' x => h c d B' H' s (g.trans g') x
  | bad => exact h
theorem Post.mono {R R' : Hp → Hp → En → α → Prop} {r : Res α} (h : Post K mg W F B σ R r) (f : ∀ B' H' e' a, Sta K F B' H' σ e' → Grow F B B' → R B' H' e' a → R' B' H' e' a) : Post K mg W F B σ R' r := by
  cases r with
  | ok a e' => exact fun B' H' s g' => f B' H' e' a s g' (h B' H' s g')
  | exc x e' => exact h
  | bad => exact h
theorem Post.unbind {R : Hp → Hp → En → β → Prop} {r : Res α} {f : α → En → Res β} (h : Post K mg W F B σ R (r.bind f)) : Post K mg W F B σ (fun B1 _ e1 a => Post K mg W F B1 σ R (f a e1)) r := by
  cases r with
  | ok a e' => exact fun B' H' s g' => Post.up (R := R) (r := f a e') h g'
  | exc x e' => exact h
  | bad => exact h
end

abbrev Mv := En → Res RV
abbrev Mt := En → Res T
abbrev Ml := En → Res (List T)
abbrev Mb := En → Res Bool
section
variable (K : PySem.W.Frag) (mg : Str → Option Value) (W : WX)
/-- an expression does as m says | the same, a new list laid down | arguments | a test -/
def tV (m : Mv) : TE := fun σ H Q => ∃ F B e, Sta K F B H σ e ∧ Post K mg W F B σ (fun B' H' e' r => ∀ v, RvOk K F B' H' σ e' v r → Q v H') (m e)
def tT (m : Mt) : TE := fun σ H Q => ∃ F B e, Sta K F B H σ e ∧ Post K mg W F B σ (fun B' H' e' t => ∀ v, Dq K B' v t → Q v H') (m e)
def tL (m : Ml) : TA := fun σ H Q => ∃ F B e, Sta K F B H σ e ∧ Post K mg W F B σ (fun B' H' e' ts => ∀ vs, DqAll K B' vs ts → Q vs H') (m e)
def tO (m : Mb) : TT := fun σ H Q => ∃ F B e, Sta K F B H σ e ∧ Post K mg W F B σ (fun B' H' e' b => Q b H') (m e)
end
theorem PE.imp {X : Cx} {e : Expr} {t t' : TE} (h : PE X e t) (f : ∀ σ H Q, t' σ H Q → t σ H Q) : PE X e t' := ⟨fun pins s σ H Q I q => h.run pins s σ H Q I (f σ H Q q)⟩
theorem PT.imp {X : Cx} {e : Expr} {t t' : TT} (h : PT X e t) (f : ∀ σ H Q, t' σ H Q → t σ H Q) : PT X e t' := ⟨fun pins s σ H Q I q => h.run pins s σ H Q I (f σ H Q q)⟩
theorem PA.imp {X : Cx} {es : List Expr} {t t' : TA} (h : PA X es t) (f : ∀ σ H Q, t' σ H Q → t σ H Q) : PA X es t' := ⟨fun pos pins s σ H Q I q => h.run pos pins s σ H Q I (f σ H Q q)⟩
theorem PS.imp {X : Cx} {st : Stmt} {t t' : TS} (h : PS X st t) (f : ∀ D σ H, t' D σ H → t D σ H) : PS X st t' := ⟨fun pins s σ H D I q => h.run pins s σ H D I (f D σ H q)⟩
theorem PSs.imp {X : Cx} {st : List Stmt} {t t' : TS} (h : PSs X st t) (f : ∀ D σ H, t' D σ H → t D σ H) : PSs X st t' := ⟨fun pins s σ H D I q => h.run pins s σ H D I (f D σ H q)⟩

/-! ### laying down -/
def mTree (m : Mv) : Mt := fun e => (m e).bind fun r e1 => .ok r.tree e1
theorem Sta.lay {K : PySem.W.Frag} {F B H : Hp} {σ : L2.St} {e : En} {v : V} {r : RV} (s : Sta K F B H σ e) (o : RvOk K F B H σ e v r) : ∃ B', Sta K F B' H σ e ∧ Grow F B B' ∧ Dq K B' v r.tree := by
  cases r with
  | val t => exact ⟨B, s, .refl, o.1⟩
  | own ts =>
    obtain ⟨a, xs, rfl, hf, hb, hh, hd⟩ := id o.1
    obtain ⟨s', g, d⟩ := s.freeze o hh
    exact ⟨_, s', g, d⟩
section
variable {X : Cx} {W : WX} {a b c : Expr} {pos : Pos}
theorem x_tree {m : Mv} (h : PE X a (tV X.K X.mg W m)) : PE X a (tT X.K X.mg W (mTree m)) := PE.imp h fun σ H Q q => by
  obtain ⟨F, B, e, s, p⟩ := q
  refine ⟨F, B, e, s, (Post.unbind p).mono fun B' H' e' r s' g p' v o => ?_⟩
  obtain ⟨B2, s2, g2, d⟩ := s'.lay o
  exact p' B2 H' s2 g2 v d
def mVal (m : Mt) : Mv := fun e => (m e).bind fun t e1 => .ok (.val t) e1
theorem x_val {m : Mt} (h : PE X a (tT X.K X.mg W m)) : PE X a (tV X.K X.mg W (mVal m)) := PE.imp h fun σ H Q q => by
  obtain ⟨F, B, e, s, p⟩ := q
  refine ⟨F, B, e, s, (Post.unbind p).mono fun B' H' e' t s' g p' v o => ?_⟩
  exact p' B' H' s' .refl v ⟨o, fun ts z => nomatch z⟩

/-! ### names and constants -/
def mVar (i : Nat) : Mt := fun e => match e[i]? with
  | some (some (.val t)) => .ok t e
  | some (some (.own ts)) => .ok (.list ts) (e.set i (some (.val (.list ts))))
  | _ => .bad
theorem Sta.set {K : PySem.W.Frag} {F B H : Hp} {σ : L2.St} {e : En} {i : Nat} {v : V} {t : T} (s : Sta K F B H σ e) (hv : σ[i]? = some (some v)) (d : Dq K B v t) : Sta K F B H σ (e.set i (some (.val t))) :=
  ⟨s.fh, s.bh, fun j r h => by
    by_cases hj : i = j
    · subst hj
      by_cases hl : i < e.length
      · rw [List.getElem?_set_self hl] at h
        cases h
        exact ⟨v, hv, d⟩
      · rw [List.getElem?_eq_none (by simpa using hl)] at h
        cases h
    · rw [List.getElem?_set_ne hj] at h
      exact s.ent j r h, by rw [List.length_set]; exact s.ln, fun j k v ts us h1 h2 => by
    by_cases hj : i = j
    · subst hj
      by_cases hl : i < e.length
      · rw [List.getElem?_set_self hl] at h1
        cases h1
      · rw [List.getElem?_eq_none (by simpa using hl)] at h1
        cases h1
    · by_cases hk : i = k
      · subst hk
        by_cases hl : i < e.length
        · rw [List.getElem?_set_self hl] at h2
          cases h2
        · rw [List.getElem?_eq_none (by simpa using hl)] at h2
          cases h2
      · rw [List.getElem?_set_ne hj] at h1
        rw [List.getElem?_set_ne hk] at h2
        exact s.dj j k v ts us h1 h2⟩
theorem x_var {i : Nat} {x : Str} (hN : X.N[i]? = some x) (hv : Vis X.env.scope x) (hd : (x == ("__debug__" : Str)) = false := by decide) (hcd : (x == ("__classdict__" : Str)) = false := by decide) :
    PE X (.Name x pos) (tT X.K X.mg W (mVar i)) := PE.imp (pe_var hN hv hd hcd) fun σ H Q q => by
  obtain ⟨F, B, e, s, p⟩ := q
  unfold mVar at p
  cases he : e[i]? with
  | none => rw [he] at p; exact p.elim
  | some o =>
    cases o with
    | none => rw [he] at p; exact p.elim
    | some r =>
      obtain ⟨v, h1, h2⟩ := s.ent i r he
      cases r with
      | val t =>
        rw [he] at p
        exact ⟨v, h1, p B H s .refl v h2⟩
      | own ts =>
        rw [he] at p
        obtain ⟨a, xs, rfl, hf, hb, hh, hd⟩ := h2
        have hi := (List.getElem?_eq_some_iff.mp he).1
        have ex : Ex B (upd B a (.lst xs)) := Ex.new hb
        have dl : Dq X.K (upd B a (.lst xs)) (.ref a) (.list ts) := .lst (.inl upd_same) (dqs_ex ex _ _ hd)
        have s2 : Sta X.K F (upd B a (.lst xs)) H σ (e.set i (some (.val (.list ts)))) := by
          refine ⟨s.fh, fun b o q => ?_, fun j r h => ?_, by rw [List.length_set]; exact s.ln, fun j k v ts us h3 h4 => ?_⟩
          · by_cases hba : b = a
            · subst hba
              rw [upd_same] at q
              cases q
              exact hh
            · rw [upd_ne hba] at q
              exact s.bh b o q
          · by_cases hj : i = j
            · subst hj
              rw [List.getElem?_set_self hi] at h
              cases h
              exact ⟨_, h1, dl⟩
            · rw [List.getElem?_set_ne hj] at h
              obtain ⟨v, h3, h4⟩ := s.ent j r h
              refine ⟨v, h3, ?_⟩
              cases r with
              | val t => exact dq_ex ex _ _ h4
              | own us =>
                obtain ⟨b, ys, rfl, gf, gb, gh, gd⟩ := h4
                refine ⟨b, ys, rfl, gf, ?_, gh, dqs_ex ex _ _ gd⟩
                have hne : b ≠ a := fun z => by
                  subst z
                  exact hj (s.dj i j _ _ _ he h h1 h3)
                rw [upd_ne hne]
                exact gb
          · by_cases hj : i = j
            · subst hj
              rw [List.getElem?_set_self hi] at h3
              cases h3
            · by_cases hk : i = k
              · subst hk
                rw [List.getElem?_set_self hi] at h4
                cases h4
              · rw [List.getElem?_set_ne hj] at h3
                rw [List.getElem?_set_ne hk] at h4
                exact s.dj j k v ts us h3 h4
        refine ⟨_, h1, p _ _ s2 ⟨ex, fun b h3 h4 => ?_⟩ _ dl⟩
        by_cases hba : b = a
        · subst hba
          exact hf
        · rw [upd_ne hba] at h4
          exact absurd h3 h4
def mC (t : T) : Mt := fun e => .ok t e
theorem tT_c {K : PySem.W.Frag} {mg : Str → Option Value} {v : V} {t : T} (d : ∀ B, Dq K B v t) {σ : L2.St} {H : Hp} {Q : VK} (q : tT K mg W (mC t) σ H Q) : tC v σ H Q := by
  obtain ⟨F, B, e, s, p⟩ := q
  exact p B H s .refl v (d B)
theorem x_int {i j pos} : PE X (.Constant (.int i) j pos) (tT X.K X.mg W (mC (.int i))) := PE.imp pe_int fun _ _ _ => tT_c fun _ => .int i
theorem x_bl {i j pos} : PE X (.Constant (.bool i) j pos) (tT X.K X.mg W (mC (.bool i))) := PE.imp pe_bl fun _ _ _ => tT_c fun _ => .bl i
theorem x_non {j pos} : PE X (.Constant .none j pos) (tT X.K X.mg W (mC .none)) := PE.imp pe_non fun _ _ _ => tT_c fun _ => .non
theorem x_str {x j pos} : PE X (.Constant (.str x) j pos) (tT X.K X.mg W (mC (.str x))) := PE.imp pe_str fun _ _ _ => tT_c fun _ => .str x

/-! ### argument lists -/
def mNil : Ml := fun e => .ok [] e
def mCons (m : Mt) (ms : Ml) : Ml := fun e => (m e).bind fun t e1 => (ms e1).bind fun ts e2 => .ok (t :: ts) e2
theorem x_nil : PA X [] (tL X.K X.mg W mNil) := PA.imp pa_nil fun σ H Q q => by
  obtain ⟨F, B, e, s, p⟩ := q
  exact p B H s .refl [] .nil
theorem x_cons {es : List Expr} {m : Mt} {ms : Ml} (ha : PE X a (tT X.K X.mg W m)) (hr : PA X es (tL X.K X.mg W ms)) (hs : starEach (a :: es) X.env = (false, eval a X.env) :: starEach es X.env := by rfl) :
    PA X (a :: es) (tL X.K X.mg W (mCons m ms)) := PA.imp (pa_cons ha hr hs) fun σ H Q q => by
  obtain ⟨F, B, e, s, p⟩ := q
  refine ⟨F, B, e, s, (Post.unbind p).mono fun B1 H1 e1 t s1 g1 p1 v d => ?_⟩
  refine ⟨F, B1, e1, s1, (Post.unbind p1).mono fun B2 H2 e2 ts s2 g2 p2 vs ds => ?_⟩
  exact p2 B2 H2 s2 .refl (v :: vs) (.cons (dq_ex g2.ex _ _ d) ds)

/-! ### operations on values -/
/-- what an operation makes: a value, a new list -/
def NewOk (K : PySem.W.Frag) (B H B' H' : Hp) (v : V) (z : RV) : Prop := News B H B' H' ∧ match z with
  | .val t => Dq K B' v t
  | .own ts => ∃ a xs, v = .ref a ∧ H a = none ∧ B' a = none ∧ H' a = some (.lst xs) ∧ DqAll K B' xs ts
theorem NewOk.rv {K : PySem.W.Frag} {F B H B' H' : Hp} {σ : L2.St} {e : En} {v : V} {z : RV} (s : Sta K F B H σ e) (n : NewOk K B H B' H' v z) : Sta K F B' H' σ e ∧ Grow F B B' ∧ RvOk K F B' H' σ e v z := by
  obtain ⟨n, h⟩ := n
  refine ⟨s.news n, n.grow s.fh, ?_⟩
  cases z with
  | val t => exact ⟨h, fun ts z => nomatch z⟩
  | own ts =>
    obtain ⟨a, xs, rfl, h1, h2, h3, h4⟩ := h
    refine ⟨⟨a, xs, rfl, s.fh.back h1, h2, h3, h4⟩, fun ts' _ i us he hs => ?_⟩
    obtain ⟨w, g1, b, ys, g2, _, _, g3, _⟩ := s.ent i _ he
    rw [hs] at g1
    cases g1
    cases g2
    rw [h1] at g3
    cases g3
theorem NewOk.val {K : PySem.W.Frag} {B H : Hp} {v : V} {t : T} (h : Ex B H) (d : Dq K B v t) : NewOk K B H B H v (.val t) := ⟨.refl h, d⟩
theorem NewOk.tup {K : PySem.W.Frag} {B H : Hp} {p : Addr} {o : Obj} {xs : List V} {ts : List T} (h : Ex B H) (hp : H p = none) (hb : Bare1 o) (d : DqAll K B xs ts) : NewOk K B H (upd B p (.frz o (.tup xs))) (upd H p (.frz o (.tup xs))) (.ref p) (.val (.tuple ts)) :=
  ⟨.lay h hp, .tup (.inl ⟨o, upd_same, hb⟩) (dqs_ex (Ex.new (h.back hp)) _ _ d)⟩
theorem NewOk.lst {K : PySem.W.Frag} {B H : Hp} {p : Addr} {xs : List V} {ts : List T} (h : Ex B H) (hp : H p = none) (d : DqAll K B xs ts) : NewOk K B H B (upd H p (.lst xs)) (.ref p) (.own ts) :=
  ⟨.lone h hp, p, xs, rfl, hp, h.back hp, upd_same, d⟩
/-- the answer of an operation -/
def give (z : Option RV) (e : En) : Res RV := match z with
  | some r => .ok r e
  | none => .bad
theorem give_ok {K : PySem.W.Frag} {mg : Str → Option Value} {F B H : Hp} {σ : L2.St} {e : En} {z : Option RV} {Q : VK} {P : Prop} (s : Sta K F B H σ e)
    (p : Post K mg W F B σ (fun B' H' e' r => ∀ v, RvOk K F B' H' σ e' v r → Q v H') (give z e))
    (h : ∀ r, z = some r → (∀ v B' H', NewOk K B H B' H' v r → Q v H') → P) : P := by
  cases z with
  | none => exact p.elim
  | some r =>
    refine h r rfl fun v B' H' n => ?_
    obtain ⟨s', g, o⟩ := n.rv s
    exact p B' H' s' g v o
def Op2 (K : PySem.W.Frag) (f : T → T → Option RV) (r : R2) : Prop := ∀ x y t u z B H (Q : VK), Ex B H → Dq K B x t → Dq K B y u → f t u = some z → (∀ v B' H', NewOk K B H B' H' v z → Q v H') → r x y H Q
def Op1 (K : PySem.W.Frag) (f : T → Option RV) (r : V → Hp → VK → Prop) : Prop := ∀ x t z B H (Q : VK), Ex B H → Dq K B x t → f t = some z → (∀ v B' H', NewOk K B H B' H' v z → Q v H') → r x H Q
def OpN (K : PySem.W.Frag) (f : List T → Option RV) (r : List V → Hp → VK → Prop) : Prop := ∀ xs ts z B H (Q : VK), Ex B H → DqAll K B xs ts → f ts = some z → (∀ v B' H', NewOk K B H B' H' v z → Q v H') → r xs H Q
def m2 (f : T → T → Option RV) (ma mb : Mt) : Mv := fun e => (ma e).bind fun t e1 => (mb e1).bind fun u e2 => give (f t u) e2
def m1 (f : T → Option RV) (ma : Mt) : Mv := fun e => (ma e).bind fun t e1 => give (f t) e1
def mN (f : List T → Option RV) (ms : Ml) : Mv := fun e => (ms e).bind fun t e1 => give (f t) e1
theorem to2 {K : PySem.W.Frag} {mg : Str → Option Value} {f : T → T → Option RV} {r : R2} {ma mb : Mt} (ho : Op2 K f r) {σ : L2.St} {H : Hp} {Q : VK} (q : tV K mg W (m2 f ma mb) σ H Q) : tOp r (tT K mg W ma) (tT K mg W mb) σ H Q := by
  obtain ⟨F, B, e, s, p⟩ := q
  refine ⟨F, B, e, s, (Post.unbind p).mono fun B1 H1 e1 t s1 g1 p1 v d => ?_⟩
  refine ⟨F, B1, e1, s1, (Post.unbind p1).mono fun B2 H2 e2 u s2 g2 p2 w d2 => ?_⟩
  exact give_ok s2 p2 fun z hz k => ho v w t u z B2 H2 Q s2.bh (dq_ex g2.ex _ _ d) d2 hz k
theorem to1 {K : PySem.W.Frag} {mg : Str → Option Value} {f : T → Option RV} {r : V → Hp → VK → Prop} {ma : Mt} (ho : Op1 K f r) {σ : L2.St} {H : Hp} {Q : VK} (q : tV K mg W (m1 f ma) σ H Q) : tUn r (tT K mg W ma) σ H Q := by
  obtain ⟨F, B, e, s, p⟩ := q
  refine ⟨F, B, e, s, (Post.unbind p).mono fun B1 H1 e1 t s1 g1 p1 v d => ?_⟩
  exact give_ok s1 p1 fun z hz k => ho v t z B1 H1 Q s1.bh d hz k
theorem toN {K : PySem.W.Frag} {mg : Str → Option Value} {f : List T → Option RV} {r : List V → Hp → VK → Prop} {ms : Ml} (ho : OpN K f r) {σ : L2.St} {H : Hp} {Q : VK} (q : tV K mg W (mN f ms) σ H Q) : tCB r (tL K mg W ms) σ H Q := by
  obtain ⟨F, B, e, s, p⟩ := q
  refine ⟨F, B, e, s, (Post.unbind p).mono fun B1 H1 e1 t s1 g1 p1 v d => ?_⟩
  exact give_ok s1 p1 fun z hz k => ho v t z B1 H1 Q s1.bh d hz k
theorem x_op {op : Operator} {f : T → T → Option RV} {r : R2} {ma mb : Mt} (hr : OpR X (binaryOp op) r) (ho : Op2 X.K f r) (ha : PE X a (tT X.K X.mg W ma)) (hb : PE X b (tT X.K X.mg W mb)) :
    PE X (.BinOp a op b pos) (tV X.K X.mg W (m2 f ma mb)) := PE.imp (pe_op hr ha hb) fun _ _ _ => to2 ho
theorem x_cmp {op : CmpOp} {f : T → T → Option RV} {r : R2} {ma mb : Mt} (hr : OpR X (compareOp op) r) (ho : Op2 X.K f r) (ha : PE X a (tT X.K X.mg W ma)) (hb : PE X b (tT X.K X.mg W mb)) (hm : behindInMarks op b = false) :
    PE X (.Compare a [op] [b] pos) (tV X.K X.mg W (m2 f ma mb)) := PE.imp (pe_cmpR hr ha hb hm) fun _ _ _ => to2 ho
theorem x_ix {f : T → T → Option RV} {r : R2} {ma mb : Mt} (hr : IxR X r) (ho : Op2 X.K f r) (ha : PE X a (tT X.K X.mg W ma)) (hb : PE X b (tT X.K X.mg W mb)) (hs : PlainIx b) :
    PE X (.Subscript a b pos) (tV X.K X.mg W (m2 f ma mb)) := PE.imp (pe_ix hr ha hb hs) fun _ _ _ => to2 ho
theorem x_un {op : UnaryOp} {f : T → Option RV} {r : V → Hp → VK → Prop} {ma : Mt} (hr : UnR X (unaryOp op) r) (ho : Op1 X.K f r) (ha : PE X a (tT X.K X.mg W ma)) : PE X (.UnaryOp op a pos) (tV X.K X.mg W (m1 f ma)) :=
  PE.imp (pe_un hr ha) fun _ _ _ => to1 ho

/-! ### displays -/
def mTup (ms : Ml) : Mt := fun e => (ms e).bind fun ts e1 => if ts.length ≤ 100000 then .ok (.tuple ts) e1 else .bad
def mLst (ms : Ml) : Mv := fun e => (ms e).bind fun ts e1 => if ts.length ≤ 100000 then .ok (.own ts) e1 else .bad
theorem big {n : Nat} (h : n ≤ 100000) : n ≤ sizeLine := Nat.le_trans h (by decide)
theorem bigL {n : Nat} (h : n < 100000) : n < sizeLine := Nat.lt_of_lt_of_le h (by decide)
/-- a new tuple is laid, known to its object -/
theorem Inv.layX {pins : List (Addr × Obj)} {σ : L2.St} {H : Hp} {s : Shared} {us : List Value} {xs : List V} (I : Inv X pins σ H s) (r : Vals xs us) (hz : xs.length ≤ sizeLine) :
    Inv X pins σ (upd H s.heap.objs.size (.frz { cls := .type "tuple", data := .seq us.toArray } (.tup xs))) { s with heap := s.heap.push { cls := .type "tuple", data := .seq us.toArray } } :=
  I.laid (t' := s.toks) (fun b u e => Heap.get?_push_of_some _ e) (Nat.le_refl _) ⟨Heap.get?_push_size _ rfl, hz, us, r, ⟨_, Heap.get?_push_size _ rfl, rfl, _, rfl⟩⟩
def tTupX (t : TA) : TE := fun σ H Q => t σ H fun xs H1 => xs.length ≤ sizeLine ∧ ∀ p o, H1 p = none → Bare1 o → Q (.ref p) (upd H1 p (.frz o (.tup xs)))
theorem pe_tupX {es : List Expr} {x1} {t : TA} (h : PA X es t) : PE X (.Tuple es x1 pos) (tTupX t) := ⟨fun pins s σ H Q I hq =>
  wpAny_Tuple_spliced (thn (h.run pos pins s σ H _ I hq) fun us s1 ⟨xs, H1, I1, r, z, q⟩ =>
    ⟨by rw [← r.length]; exact z, .ref s1.heap.objs.size, _, Inv.layX I1 r z, rfl, q _ _ (I1.hok.fresh (Nat.le_refl _)) ⟨rfl, rfl⟩⟩)⟩
theorem x_tup {es : List Expr} {x1} {ms : Ml} (h : PA X es (tL X.K X.mg W ms)) : PE X (.Tuple es x1 pos) (tT X.K X.mg W (mTup ms)) := PE.imp (pe_tupX h) fun σ H Q q => by
  obtain ⟨F, B, e, s, p⟩ := q
  refine ⟨F, B, e, s, (Post.unbind p).mono fun B1 H1 e1 ts s1 g1 p1 vs d => ?_⟩
  by_cases hz : ts.length ≤ 100000
  · rw [if_pos hz] at p1
    refine ⟨big (by rw [d.len]; exact hz), fun p o hp hb => ?_⟩
    obtain ⟨s', g, o⟩ := (NewOk.tup s1.bh hp hb d).rv s1
    exact p1 _ _ s' g _ o.1
  · rw [if_neg hz] at p1
    exact p1.elim
theorem x_lst {es : List Expr} {ms : Ml} (h : PA X es (tL X.K X.mg W ms)) : PE X (.List es pos) (tV X.K X.mg W (mLst ms)) := PE.imp (pe_lst h) fun σ H Q q => by
  obtain ⟨F, B, e, s, p⟩ := q
  refine ⟨F, B, e, s, (Post.unbind p).mono fun B1 H1 e1 ts s1 g1 p1 vs d => ?_⟩
  by_cases hz : ts.length ≤ 100000
  · rw [if_pos hz] at p1
    refine ⟨big (by rw [d.len]; exact hz), fun p hp => ?_⟩
    obtain ⟨s', g, o⟩ := (NewOk.lst s1.bh hp d).rv s1
    exact p1 _ _ s' g _ o
  · rw [if_neg hz] at p1
    exact p1.elim

/-! ### tests -/
def asB (t : T) : Option Bool := match t with
  | .bool b => some b
  | _ => none
def mTst (m : Mt) : Mb := fun e => (m e).bind fun t e1 => match t with
  | .bool b => .ok b e1
  | _ => .bad
theorem tst_ok {K : PySem.W.Frag} {mg : Str → Option Value} {m : Mt} {σ : L2.St} {H : Hp} {Q : Bool → Hp → Prop} (q : tO K mg W (mTst m) σ H Q) : tT K mg W m σ H fun x H1 => ∃ k, x = .bl k ∧ Q k H1 := by
  obtain ⟨F, B, e, s, p⟩ := q
  refine ⟨F, B, e, s, (Post.unbind p).mono fun B1 H1 e1 t s1 g1 p1 v d => ?_⟩
  cases t with
  | bool b =>
    cases d
    exact ⟨b, rfl, p1 B1 H1 s1 .refl⟩
  | _ => exact p1.elim
theorem o_val {m : Mt} (h : PE X a (tT X.K X.mg W m)) (he : ∀ whole, isTrue a X.env whole = (do let v ← whole; standAt a.pos; holding [v] (truthy v)) := by intro _; rfl) : PT X a (tO X.K X.mg W (mTst m)) :=
  PT.imp (pt_val h he) fun _ _ _ => tst_ok
theorem o_cmp {op : CmpOp} {f : T → T → Option RV} {r : R2} {ma mb : Mt} (hr : OpR X (compareOp op) r) (ho : Op2 X.K f r) (ha : PE X a (tT X.K X.mg W ma)) (hb : PE X b (tT X.K X.mg W mb)) (hm : behindInMarks op b = false) :
    PT X (.Compare a [op] [b] pos) (tO X.K X.mg W (mTst (mTree (m2 f ma mb)))) := PT.imp (pt_cmpR hr ha hb hm) fun σ H Q q => by
  refine to2 ho ?_
  obtain ⟨F, B, e, s, p⟩ := tst_ok q
  refine ⟨F, B, e, s, (Post.unbind p).mono fun B' H' e' r s' g p' v o => ?_⟩
  obtain ⟨B2, s2, g2, d⟩ := s'.lay o
  exact p' B2 H' s2 g2 v d
def mAndT (m n : Mb) : Mb := fun e => (m e).bind fun b e1 => if b = true then n e1 else .ok false e1
def mOrT (m n : Mb) : Mb := fun e => (m e).bind fun b e1 => if b = true then .ok true e1 else n e1
def mNotT (m : Mb) : Mb := fun e => (m e).bind fun b e1 => .ok (!b) e1
theorem o_and1 {m : Mb} (ha : PT X a (tO X.K X.mg W m)) : PW X (.BoolOp .And [a] pos) (tO X.K X.mg W m) := pw_and1 ha
theorem o_or1 {m : Mb} (ha : PT X a (tO X.K X.mg W m)) : PW X (.BoolOp .Or [a] pos) (tO X.K X.mg W m) := pw_or1 ha
theorem PW.imp {e : Expr} {t t' : TT} (h : PW X e t) (f : ∀ σ H Q, t' σ H Q → t σ H Q) : PW X e t' := ⟨fun wh pins s σ H Q I q => h.run wh pins s σ H Q I (f σ H Q q)⟩
theorem o_and {rest : List Expr} {m n : Mb} (ha : PT X a (tO X.K X.mg W m)) (hb : PW X (.BoolOp .And (b :: rest) pos) (tO X.K X.mg W n)) : PW X (.BoolOp .And (a :: b :: rest) pos) (tO X.K X.mg W (mAndT m n)) :=
  PW.imp (pw_and ha hb) fun σ H Q q => by
  obtain ⟨F, B, e, s, p⟩ := q
  refine ⟨F, B, e, s, (Post.unbind p).mono fun B1 H1 e1 t s1 g1 p1 => ?_⟩
  cases t with
  | true => exact ⟨F, B1, e1, s1, p1⟩
  | false => exact p1 B1 H1 s1 .refl
theorem o_or {rest : List Expr} {m n : Mb} (ha : PT X a (tO X.K X.mg W m)) (hb : PW X (.BoolOp .Or (b :: rest) pos) (tO X.K X.mg W n)) : PW X (.BoolOp .Or (a :: b :: rest) pos) (tO X.K X.mg W (mOrT m n)) :=
  PW.imp (pw_or ha hb) fun σ H Q q => by
  obtain ⟨F, B, e, s, p⟩ := q
  refine ⟨F, B, e, s, (Post.unbind p).mono fun B1 H1 e1 t s1 g1 p1 => ?_⟩
  cases t with
  | false => exact ⟨F, B1, e1, s1, p1⟩
  | true => exact p1 B1 H1 s1 .refl
theorem o_not {m : Mb} (ha : PT X a (tO X.K X.mg W m)) : PT X (.UnaryOp .Not a pos) (tO X.K X.mg W (mNotT m)) := PT.imp (pt_not ha) fun σ H Q q => by
  obtain ⟨F, B, e, s, p⟩ := q
  exact ⟨F, B, e, s, (Post.unbind p).mono fun B1 H1 e1 t s1 g1 p1 => p1 B1 H1 s1 .refl⟩
/-! ### and, or, not as values -/
def mAndV (m n : Mt) : Mt := fun e => (mTst m e).bind fun b e1 => if b = true then n e1 else .ok (.bool false) e1
def mOrV (m n : Mt) : Mt := fun e => (mTst m e).bind fun b e1 => if b = true then .ok (.bool true) e1 else n e1
def mNotV (m : Mt) : Mt := fun e => (mTst m e).bind fun b e1 => .ok (.bool (!b)) e1
theorem bind_post {K : PySem.W.Frag} {mg : Str → Option Value} {m : Mt} {n : Bool → Mt} {σ : L2.St} {H : Hp} {Q : VK} (q : tT K mg W (fun e => (mTst m e).bind n) σ H Q) :
    tT K mg W m σ H fun x H1 => ∃ k, x = .bl k ∧ tT K mg W (n k) σ H1 Q := by
  refine tst_ok (Q := fun k H1 => tT K mg W (n k) σ H1 Q) ?_
  obtain ⟨F, B, e, s, p⟩ := q
  exact ⟨F, B, e, s, (Post.unbind p).mono fun B1 H1 e1 t s1 g1 p1 => ⟨F, B1, e1, s1, p1⟩⟩
theorem x_one {op} {m : Mt} (h : PE X a (tT X.K X.mg W m)) : PE X (.BoolOp op [a] pos) (tT X.K X.mg W m) := pe_one h
theorem ok_c {K : PySem.W.Frag} {mg : Str → Option Value} {t : T} {v : V} {σ : L2.St} {H : Hp} {Q : VK} (q : tT K mg W (fun e => .ok t e) σ H Q) (d : ∀ B, Dq K B v t) : Q v H := by
  obtain ⟨F, B, e, s, p⟩ := q
  exact p B H s .refl v (d B)
theorem x_and {rest : List Expr} {m n : Mt} (ha : PE X a (tT X.K X.mg W m)) (hb : PE X (.BoolOp .And (b :: rest) pos) (tT X.K X.mg W n)) : PE X (.BoolOp .And (a :: b :: rest) pos) (tT X.K X.mg W (mAndV m n)) :=
  PE.imp (pe_and ha hb) fun σ H Q q => by
  have q' := bind_post (n := fun b e1 => if b = true then n e1 else .ok (.bool false) e1) q
  obtain ⟨F, B, e, s, p⟩ := q'
  refine ⟨F, B, e, s, p.mono fun B1 H1 e1 t s1 g1 p1 v d => ?_⟩
  obtain ⟨k, rfl, z⟩ := p1 v d
  refine ⟨k, rfl, ?_⟩
  cases k with
  | true => exact z
  | false => exact ok_c z fun _ => .bl false
theorem x_or {rest : List Expr} {m n : Mt} (ha : PE X a (tT X.K X.mg W m)) (hb : PE X (.BoolOp .Or (b :: rest) pos) (tT X.K X.mg W n)) : PE X (.BoolOp .Or (a :: b :: rest) pos) (tT X.K X.mg W (mOrV m n)) :=
  PE.imp (pe_or ha hb) fun σ H Q q => by
  have q' := bind_post (n := fun b e1 => if b = true then .ok (.bool true) e1 else n e1) q
  obtain ⟨F, B, e, s, p⟩ := q'
  refine ⟨F, B, e, s, p.mono fun B1 H1 e1 t s1 g1 p1 v d => ?_⟩
  obtain ⟨k, rfl, z⟩ := p1 v d
  refine ⟨k, rfl, ?_⟩
  cases k with
  | false => exact z
  | true => exact ok_c z fun _ => .bl true
theorem x_not {m : Mt} (ha : PE X a (tT X.K X.mg W m)) : PE X (.UnaryOp .Not a pos) (tT X.K X.mg W (mNotV m)) := PE.imp (pe_not ha) fun σ H Q q => by
  have q' := bind_post (n := fun b e1 => .ok (.bool (!b)) e1) q
  obtain ⟨F, B, e, s, p⟩ := q'
  refine ⟨F, B, e, s, p.mono fun B1 H1 e1 t s1 g1 p1 v d => ?_⟩
  obtain ⟨k, rfl, z⟩ := p1 v d
  exact ⟨k, rfl, ok_c z fun _ => .bl _⟩
/-! ### a if t else b -/
def mIf (t : Mb) (m n : Mv) : Mv := fun e => (t e).bind fun b e1 => if b = true then m e1 else n e1
theorem x_if {t : Mb} {m n : Mv} (hc : PT X c (tO X.K X.mg W t)) (ha : PE X a (tV X.K X.mg W m)) (hb : PE X b (tV X.K X.mg W n)) : PE X (.IfExp c a b pos) (tV X.K X.mg W (mIf t m n)) := PE.imp (pe_ifExp hc ha hb) fun σ H Q q => by
  obtain ⟨F, B, e, s, p⟩ := q
  refine ⟨F, B, e, s, (Post.unbind p).mono fun B1 H1 e1 t s1 g1 p1 => ?_⟩
  cases t with
  | true => exact ⟨F, B1, e1, s1, p1⟩
  | false => exact ⟨F, B1, e1, s1, p1⟩
end
end TL
end
section
set_option Elab.async false
set_option linter.all false
set_option autoImplicit false
set_option maxRecDepth 100000
namespace TL
open PySem PySem.Spec PyProof.Rows L2

inductive Out where
  | nx | rt (r : RV) | bk | ct
abbrev Ms := En → Res Out
/-- slots that stay: parameters whose lists the caller holds -/
def Kept (keep : List Nat) (σ σ' : L2.St) : Prop := ∀ i ∈ keep, σ'[i]? = σ[i]?
theorem Kept.refl {keep : List Nat} {σ : L2.St} : Kept keep σ σ := fun _ _ => rfl
theorem Kept.trans {keep : List Nat} {σ σ1 σ2 : L2.St} (a : Kept keep σ σ1) (b : Kept keep σ1 σ2) : Kept keep σ σ2 := fun i h => (b i h).trans (a i h)
def PostS (K : PySem.W.Frag) (mg : Str → Option Value) (W : WX) (keep : List Nat) (F B : Hp) (σ : L2.St) (D : Ends) : Res Out → Prop
  | .ok .nx e' => ∀ σ' B' H', Sta K F B' H' σ' e' → Grow F B B' → Kept keep σ σ' → D.nx σ' H'
  | .ok .bk e' => ∀ σ' B' H', Sta K F B' H' σ' e' → Grow F B B' → Kept keep σ σ' → D.bk σ' H'
  | .ok .ct e' => ∀ σ' B' H', Sta K F B' H' σ' e' → Grow F B B' → Kept keep σ σ' → D.ct σ' H'
  | .ok (.rt r) e' => ∀ σ' v B' H', Sta K F B' H' σ' e' → Grow F B B' → Kept keep σ σ' → RvOk K F B' H' σ' e' v r → D.rt v H'
  | .exc x e' => ∀ σ' c d B' H', Sta K F B' H' σ' e' → Grow F B B' → Kept keep σ σ' → XOk K mg B' H' x c d → W c d σ' H'
  | .bad => False
def tS (K : PySem.W.Frag) (mg : Str → Option Value) (W : WX) (keep : List Nat) (m : Ms) : TS := fun D σ H => ∃ F B e, Sta K F B H σ e ∧ PostS K mg W keep F B σ D (m e)
section
variable {K : PySem.W.Frag} {mg : Str → Option Value} {W : WX} {keep : List Nat} {F B B1 H : Hp} {σ σ1 : L2.St} {e : En} {D : Ends}
theorem PostS.up {r : Res Out} (h : PostS K mg W keep F B σ D r) (g : Grow F B B1) (k : Kept keep σ σ1) : PostS K mg W keep F B1 σ1 D r := by
  cases r with
  | ok o e' =>
    cases o with
    | nx => exact fun σ' B' H' s g' k' => h σ' B' H' s (g.trans g') (k.trans k')
    | bk => exact fun σ' B' H' s g' k' => h σ' B' H' s (g.trans g') (k.trans k')
    | ct => exact fun σ' B' H' s g' k' => h σ' B' H' s (g.trans g') (k.trans k')
    | rt r => exact fun σ' v B' H' s g' k' => h σ' v B' H' s (g.trans g') (k.trans k')
  | exc x e' => exact fun σ' c d B' H' s g' k' => h σ' c d B' H' s (g.trans g') (k.trans k')
  | bad => exact h
/-- an expression within a statement -/
theorem PostS.unbind {α : Type} {r : Res α} {f : α → Ms} (h : PostS K mg W keep F B σ D (r.bind f)) : Post K mg W F B σ (fun B1 _ e1 a => PostS K mg W keep F B1 σ D (f a e1)) r := by
  cases r with
  | ok a e' => exact fun B' H' s g' => PostS.up (r := f a e') h g' .refl
  | exc x e' => exact fun c d B' H' s g' x => h σ c d B' H' s g' .refl x
  | bad => exact h
end
section
variable {X : Cx} {W : WX} {keep : List Nat} {a b c : Expr} {pos : Pos} {st : Stmt} {rest : List Stmt}
def mNx : Ms := fun e => .ok .nx e
def mSeq (m n : Ms) : Ms := fun e => match m e with
  | .ok .nx e1 => n e1
  | r => r
theorem ss_nil : PSs X [] (tS X.K X.mg W keep mNx) := PSs.imp pss_nil fun D σ H q => by
  obtain ⟨F, B, e, s, p⟩ := q
  exact p σ B H s .refl .refl
theorem seq_ok {K : PySem.W.Frag} {mg : Str → Option Value} {m n : Ms} {D : Ends} {σ : L2.St} {H : Hp} (q : tS K mg W keep (mSeq m n) D σ H) : tS K mg W keep m { D with nx := tS K mg W keep n D } σ H := by
  obtain ⟨F, B, e, s, p⟩ := q
  refine ⟨F, B, e, s, ?_⟩
  unfold mSeq at p
  cases hm : m e with
  | ok o e1 =>
    rw [hm] at p
    cases o with
    | nx => exact fun σ' B' H' s' g k => ⟨F, B', e1, s', PostS.up (r := n e1) p g k⟩
    | bk => exact p
    | ct => exact p
    | rt r => exact p
  | exc x e1 => rw [hm] at p; exact p
  | bad => rw [hm] at p; exact p
theorem ss_cons {m n : Ms} (h1 : PS X st (tS X.K X.mg W keep m)) (h2 : PSs X rest (tS X.K X.mg W keep n)) : PSs X (st :: rest) (tS X.K X.mg W keep (mSeq m n)) := PSs.imp (pss_cons h1 h2) fun _ _ _ => seq_ok
theorem ss_one {m : Ms} (h : PS X st (tS X.K X.mg W keep m)) : PSs X [st] (tS X.K X.mg W keep m) := pss_one h
theorem s_pass : PS X (.Pass pos) (tS X.K X.mg W keep mNx) := PS.imp ps_pass fun D σ H q => by
  obtain ⟨F, B, e, s, p⟩ := q
  exact p σ B H s .refl .refl
theorem s_break : PS X (.Break pos) (tS X.K X.mg W keep fun e => .ok .bk e) := PS.imp ps_break fun D σ H q => by
  obtain ⟨F, B, e, s, p⟩ := q
  exact p σ B H s .refl .refl
theorem s_continue : PS X (.Continue pos) (tS X.K X.mg W keep fun e => .ok .ct e) := PS.imp ps_continue fun D σ H q => by
  obtain ⟨F, B, e, s, p⟩ := q
  exact p σ B H s .refl .refl
/-- an expression as a statement -/
def mDrop (m : Mv) : Ms := fun e => (m e).bind fun _ e1 => .ok .nx e1
theorem s_expr {m : Mv} (he : PE X a (tV X.K X.mg W m)) (hs : swapsWith a none pos.line X.env = pure false := by rfl) : PS X (.Expr a pos) (tS X.K X.mg W keep (mDrop m)) := PS.imp (ps_expr he hs) fun D σ H q => by
  obtain ⟨F, B, e, s, p⟩ := q
  exact ⟨F, B, e, s, (PostS.unbind p).mono fun B' H' e' r s' g p' v o => p' σ B' H' s' .refl .refl⟩
def mRet (m : Mv) : Ms := fun e => (m e).bind fun r e1 => .ok (.rt r) e1
theorem s_ret {m : Mv} (he : PE X a (tV X.K X.mg W m)) : PS X (.Return (some a) pos) (tS X.K X.mg W keep (mRet m)) := PS.imp (ps_ret he) fun D σ H q => by
  obtain ⟨F, B, e, s, p⟩ := q
  exact ⟨F, B, e, s, (PostS.unbind p).mono fun B' H' e' r s' g p' v o => p' σ v B' H' s' .refl .refl o⟩
theorem s_retN : PS X (.Return none pos) (tS X.K X.mg W keep fun e => .ok (.rt (.val .none)) e) := PS.imp ps_retN fun D σ H q => by
  obtain ⟨F, B, e, s, p⟩ := q
  exact p σ .non B H s .refl .refl ⟨.non, fun _ z => nomatch z⟩
/-- a name's own list, given up -/
def mTake (i : Nat) : Mv := fun e => match e[i]? with
  | some (some r) => .ok r (e.set i none)
  | _ => .bad
theorem Sta.drop {K : PySem.W.Frag} {F B H : Hp} {σ : L2.St} {e : En} (s : Sta K F B H σ e) (i : Nat) : Sta K F B H σ (e.set i none) :=
  have get : ∀ (j : Nat) (r : RV), (e.set i none)[j]? = some (some r) → e[j]? = some (some r) ∧ i ≠ j := fun j r h => by
    by_cases hj : i = j
    · subst hj
      by_cases hl : i < e.length
      · rw [List.getElem?_set_self hl] at h
        cases h
      · rw [List.getElem?_eq_none (by simpa using hl)] at h
        cases h
    · rw [List.getElem?_set_ne hj] at h
      exact ⟨h, hj⟩
  ⟨s.fh, s.bh, fun j r h => s.ent j r (get j r h).1, by rw [List.length_set]; exact s.ln, fun j k v ts us h1 h2 => s.dj j k v ts us (get j _ h1).1 (get k _ h2).1⟩
theorem x_take {i : Nat} {x : Str} (hN : X.N[i]? = some x) (hv : Vis X.env.scope x) (hd : (x == ("__debug__" : Str)) = false := by decide) (hcd : (x == ("__classdict__" : Str)) = false := by decide) :
    PE X (.Name x pos) (tV X.K X.mg W (mTake i)) := PE.imp (pe_var hN hv hd hcd) fun σ H Q q => by
  obtain ⟨F, B, e, s, p⟩ := q
  unfold mTake at p
  cases he : e[i]? with
  | none => rw [he] at p; exact p.elim
  | some o =>
    cases o with
    | none => rw [he] at p; exact p.elim
    | some r =>
      obtain ⟨v, h1, h2⟩ := s.ent i r he
      rw [he] at p
      refine ⟨v, h1, p B H (s.drop i) .refl v ⟨h2, fun ts er j us hj hs => ?_⟩⟩
      subst er
      have hi := (List.getElem?_eq_some_iff.mp he).1
      by_cases hij : i = j
      · subst hij
        rw [List.getElem?_set_self hi] at hj
        cases hj
      · rw [List.getElem?_set_ne hij] at hj
        exact hij (s.dj i j v ts us he hj h1 hs)
/-! ### if -/
def mIfS (t : Mb) (m n : Ms) : Ms := fun e => (t e).bind fun b e1 => if b = true then m e1 else n e1
theorem s_if {t : Mb} {m n : Ms} {b1 b2 : List Stmt} (hc : PT X c (tO X.K X.mg W t)) (ha : PSs X b1 (tS X.K X.mg W keep m)) (hb : PSs X b2 (tS X.K X.mg W keep n)) : PS X (.If c b1 b2 pos) (tS X.K X.mg W keep (mIfS t m n)) :=
  PS.imp (ps_if hc ha hb) fun D σ H q => by
  obtain ⟨F, B, e, s, p⟩ := q
  refine ⟨F, B, e, s, (PostS.unbind p).mono fun B1 H1 e1 t s1 g1 p1 => ?_⟩
  cases t with
  | true => exact ⟨F, B1, e1, s1, p1⟩
  | false => exact ⟨F, B1, e1, s1, p1⟩
/-! ### names stored -/
theorem Sta.put {K : PySem.W.Frag} {F B H : Hp} {σ : L2.St} {e : En} {i : Nat} {v : V} {r : RV} (s : Sta K F B H σ e) (o : RvOk K F B H σ e v r) : Sta K F B H (σ.set i (some v)) (e.set i (some r)) := by
  have ln := s.ln
  have get : ∀ (j : Nat) (q : RV), (e.set i (some r))[j]? = some (some q) → (i = j ∧ j < e.length ∧ q = r) ∨ (i ≠ j ∧ e[j]? = some (some q)) := fun j q h => by
    by_cases hj : i = j
    · subst hj
      by_cases hl : i < e.length
      · rw [List.getElem?_set_self hl] at h
        cases h
        exact .inl ⟨rfl, hl, rfl⟩
      · rw [List.getElem?_eq_none (by simpa using hl)] at h
        cases h
    · rw [List.getElem?_set_ne hj] at h
      exact .inr ⟨hj, h⟩
  refine ⟨s.fh, s.bh, fun j q h => ?_, by rw [List.length_set, List.length_set]; exact ln, fun j k w ts us h1 h2 h3 h4 => ?_⟩
  · rcases get j q h with ⟨rfl, hl, rfl⟩ | ⟨hj, h⟩
    · exact ⟨v, by rw [List.getElem?_set_self (by omega)], o.1⟩
    · obtain ⟨w, h1, h2⟩ := s.ent j q h
      exact ⟨w, by rw [List.getElem?_set_ne hj]; exact h1, h2⟩
  · rcases get j _ h1 with ⟨rfl, hl, e1⟩ | ⟨hj, h1⟩
    · rw [List.getElem?_set_self (by omega)] at h3
      cases h3
      rcases get k _ h2 with ⟨rfl, _, _⟩ | ⟨hk, h2⟩
      · rfl
      · rw [List.getElem?_set_ne hk] at h4
        exact absurd h4 (o.2 ts e1.symm k us h2)
    · rw [List.getElem?_set_ne hj] at h3
      rcases get k _ h2 with ⟨rfl, hl, e2⟩ | ⟨hk, h2⟩
      · rw [List.getElem?_set_self (by omega)] at h4
        cases h4
        exact absurd h3 (o.2 us e2.symm j ts h1)
      · rw [List.getElem?_set_ne hk] at h4
        exact s.dj j k w ts us h1 h2 h3 h4
theorem Kept.set {i : Nat} {σ : L2.St} {v : Option V} (h : i ∉ keep) : Kept keep σ (σ.set i v) := fun j hj => by
  by_cases e : i = j
  · subst e
    exact absurd hj h
  · rw [List.getElem?_set_ne e]
def mSet (i : Nat) (m : Mv) : Ms := fun e => (m e).bind fun r e1 => .ok .nx (e1.set i (some r))
theorem s_set {i : Nat} {x : Str} {m : Mv} {pos' : Pos} (hN : X.N.Nodup) (hi : X.N[i]? = some x) (hx : Loc X.env.scope x) (hk : keep.contains i = false) (he : PE X a (tV X.K X.mg W m))
    (hs : swapsWith a (some (.Name x pos')) pos.line X.env = pure false := by rfl) (hf : X.fn x = true ∨ X.env.scope.names.lookup x = some .local := by first | exact .inl rfl | exact .inr rfl | assumption) :
    PS X (.Assign [.Name x pos'] a pos) (tS X.K X.mg W keep (mSet i m)) := PS.imp (ps_set hN hi hx he hs hf) fun D σ H q => by
  obtain ⟨F, B, e, s, p⟩ := q
  have hk' : i ∉ keep := fun z => by
    rw [List.contains_iff_mem.mpr z] at hk
    cases hk
  exact ⟨F, B, e, s, (PostS.unbind p).mono fun B' H' e' r s' g p' v o => p' _ B' H' (s'.put o) .refl (.set hk')⟩

/-! ### targets -/
abbrev Mg := T → En → Option En
/-- but the slots sl nothing is changed -/
def Off (sl : List Nat) (σ σ' : L2.St) : Prop := σ'.length = σ.length ∧ ∀ i, i ∉ sl → σ'[i]? = σ[i]?
theorem Off.refl {sl : List Nat} {σ : L2.St} : Off sl σ σ := ⟨rfl, fun _ _ => rfl⟩
theorem Off.trans {sl : List Nat} {σ σ1 σ2 : L2.St} (a : Off sl σ σ1) (b : Off sl σ1 σ2) : Off sl σ σ2 := ⟨b.1.trans a.1, fun i h => (b.2 i h).trans (a.2 i h)⟩
theorem Off.kept {sl : List Nat} {σ σ' : L2.St} (a : Off sl σ σ') (h : ∀ i ∈ keep, i ∉ sl) : Kept keep σ σ' := fun i hi => a.2 i (h i hi)
theorem Off.mono {sl sl' : List Nat} {σ σ' : L2.St} (a : Off sl σ σ') (h : ∀ i ∈ sl, i ∈ sl') : Off sl' σ σ' := ⟨a.1, fun i hi => a.2 i fun z => hi (h i z)⟩
def tG (K : PySem.W.Frag) (sl : List Nat) (f : Mg) : TG := fun v σ H Q => ∃ F B e t e', Sta K F B H σ e ∧ Dq K B v t ∧ f t e = some e' ∧ ∀ σ', Sta K F B H σ' e' → Off sl σ σ' → Q σ' H
abbrev Mgs := List T → En → Option En
def tGs (K : PySem.W.Frag) (sl : List Nat) (f : Mgs) : TGs := fun vs σ H Q => ∃ F B e ts e', Sta K F B H σ e ∧ DqAll K B vs ts ∧ f ts e = some e' ∧ ∀ σ', Sta K F B H σ' e' → Off sl σ σ' → Q σ' H
theorem PG.imp {t t' : TG} (h : PG X a t) (f : ∀ v σ H Q, t' v σ H Q → t v σ H Q) : PG X a t' := ⟨fun pins s σ H v u Q I r q => h.run pins s σ H v u Q I r (f v σ H Q q)⟩
theorem PGs.imp {es : List Expr} {t t' : TGs} (h : PGs X es t) (f : ∀ v σ H Q, t' v σ H Q → t v σ H Q) : PGs X es t' := ⟨fun pins s σ H v u Q I r q => h.run pins s σ H v u Q I r (f v σ H Q q)⟩
def gN (i : Nat) : Mg := fun t e => some (e.set i (some (.val t)))
theorem g_name {i : Nat} {x : Str} (hN : X.N.Nodup) (hi : X.N[i]? = some x) (hx : Loc X.env.scope x) (hf : X.fn x = true ∨ X.env.scope.names.lookup x = some .local := by first | exact .inl rfl | exact .inr rfl | assumption) :
    PG X (.Name x pos) (tG X.K [i] (gN i)) := PG.imp (pg_name hN hi hx hf) fun v σ H Q q => by
  obtain ⟨F, B, e, t, e', s, d, hf, k⟩ := q
  cases hf
  refine k _ (s.put ⟨d, fun _ z => nomatch z⟩) ⟨by rw [List.length_set], fun j hj => ?_⟩
  rw [List.getElem?_set_ne (fun z => hj (by rw [z]; exact List.mem_singleton_self _))]
def gsNil : Mgs := fun ts e => match ts with
  | [] => some e
  | _ => none
def gsCons (f : Mg) (fs : Mgs) : Mgs := fun ts e => match ts with
  | t :: ts => (f t e).bind fun e1 => fs ts e1
  | [] => none
theorem gs_nil : PGs X [] (tGs X.K [] gsNil) := PGs.imp pgs_nil fun vs σ H Q q => by
  obtain ⟨F, B, e, ts, e', s, d, hf, k⟩ := q
  cases ts with
  | nil =>
    cases d
    cases hf
    exact ⟨rfl, k σ s .refl⟩
  | cons t ts => cases hf
theorem gs_cons {es : List Expr} {s1 s2 : List Nat} {f : Mg} {fs : Mgs} (h1 : PG X a (tG X.K s1 f)) (h2 : PGs X es (tGs X.K s2 fs)) (hs : (assignEach (a :: es) X.env).map (·.2) = assign a X.env :: (assignEach es X.env).map (·.2) := by rfl) : PGs X (a :: es) (tGs X.K (s1 ++ s2) (gsCons f fs)) := PGs.imp (pgs_cons h1 h2 hs) fun vs σ H Q q => by
  obtain ⟨F, B, e, ts, e', s, d, hf, k⟩ := q
  cases ts with
  | nil => cases hf
  | cons t ts =>
    cases d with
    | cons d1 d2 =>
      have hf' : ((f t e).bind fun e1 => fs ts e1) = some e' := hf
      cases h : f t e with
      | none => rw [h] at hf'; cases hf'
      | some e1 =>
        rw [h] at hf'
        exact ⟨_, _, rfl, F, B, e, t, e1, s, d1, h, fun σ1 sa o1 => ⟨F, B, e1, ts, e', sa, d2, hf', fun σ2 sb o2 => k σ2 sb ((o1.mono fun i hi => List.mem_append_left _ hi).trans (o2.mono fun i hi => List.mem_append_right _ hi))⟩⟩
def gT (fs : Mgs) (n : Nat) : Mg := fun t e => match t with
  | .tuple ts => if ts.length = n then fs ts e else none
  | .dict [(d, u), (.bool true, .none)] => if n = 2 then fs [d, u] e else none
  | _ => none
/-- a loop's pair -/
def pair (d u : T) : T := .dict [(d, u), (.bool true, .none)]
theorem scr_no {fs : Mgs} {n : Nat} {e e' : En} (ns : List Int) (h : gT fs n (.dict (ns.map fun n => (.int n, .none))) e = some e') : False := by
  unfold gT at h
  split at h
  · rename_i q
    cases q
  · rename_i q
    injection q with q
    match ns, q with
    | [], q => cases q
    | [_], q => cases q
    | [_, _], q => cases q
    | _ :: _ :: _ :: _, q => cases q
  · cases h
theorem g_tup {es : List Expr} {k n : Nat} {sl : List Nat} {fs : Mgs} (hc : X.calm = true) (h : PGs X es (tGs X.K sl fs)) (hn : (assignEach es X.env).length = n := by rfl) (hst : (assignEach es X.env).findIdx? (·.1) = none := by rfl) : PG X (.Tuple es k pos) (tG X.K sl (gT fs n)) := PG.imp (pg_tup hc h hn hst) fun v σ H Q q => by
  obtain ⟨F, B, e, t, e', s, d, hf, kk⟩ := q
  have two : ∀ (w z : T), (if n = 2 then fs [w, z] e else none) = some e' → ∀ {c : Addr} {x y : V}, v = .ref c → SqT X.K B c [x, y] → Dq X.K B x w → Dq X.K B y z → gTup X.K n (tGs X.K sl fs) v σ H Q := fun w z hw {c x y} ev hs h1 h2 => by
    subst ev
    by_cases h2n : n = 2
    · rw [if_pos h2n] at hw
      exact ⟨_, _, rfl, ex_t s.bh hs, h2n.symm, F, B, e, [w, z], e', s, .cons h1 (.cons h2 .nil), hw, kk⟩
    · rw [if_neg h2n] at hw
      cases hw
  cases d with
  | @tup _ _ ts hs ha =>
    have hf' : (if ts.length = n then fs ts e else none) = some e' := hf
    by_cases hl : ts.length = n
    · rw [if_pos hl] at hf'
      exact ⟨_, _, rfl, ex_t s.bh hs.t, by rw [ha.len, hl], F, B, e, ts, e', s, ha, hf', kk⟩
    · rw [if_neg hl] at hf'
      cases hf'
  | @prs _ _ _ w z hs h1 h2 => exact two w z hf rfl hs h1 h2
  | @scr _ ns hs =>
    exact (scr_no ns hf).elim
  | @exn _ dx gs fs h1 h2 h3 =>
    exfalso
    unfold gT at hf
    split at hf
    · rename_i q
      cases q
    · rename_i q
      injection q with q
      injection q with q1 q2
      injection q2 with q3 q4
      cases q3
    · cases hf
  | _ => cases hf
def mAsg (g : Mg) (m : Mt) : Ms := fun e => (m e).bind fun t e1 => match g t e1 with
  | some e2 => .ok .nx e2
  | none => .bad
theorem off_keep {sl keep : List Nat} (h : (keep.all fun i => !sl.contains i) = true) : ∀ i ∈ keep, i ∉ sl := fun i hi z => by
  have := List.all_eq_true.mp h i hi
  rw [List.contains_iff_mem.mpr z] at this
  cases this
theorem s_asg {g : Mg} {sl : List Nat} {m : Mt} {tg : Expr} (he : PE X a (tT X.K X.mg W m)) (hg : PG X tg (tG X.K sl g)) (hk : (keep.all fun i => !sl.contains i) = true) (hs : swapsWithSole [tg] a pos.line X.env = pure false := by rfl) (hw : swappedStores [tg] a X.env = pure none := by rfl) (h1 : (assignEach [tg] X.env).map (·.2) = [assign tg X.env] := by rfl) :
    PS X (.Assign [tg] a pos) (tS X.K X.mg W keep (mAsg g m)) := PS.imp (ps_asg he hg hs hw h1) fun D σ H q => by
  obtain ⟨F, B, e, s, p⟩ := q
  refine ⟨F, B, e, s, (PostS.unbind p).mono fun B' H' e' t s' g' p' v d => ?_⟩
  cases h : g t e' with
  | none => rw [h] at p'; exact p'.elim
  | some e2 =>
    rw [h] at p'
    exact ⟨F, B', e', t, e2, s', d, h, fun σ' s2 o => p' σ' B' H' s2 .refl (o.kept (off_keep hk))⟩

/-! ### what is walked -/
structure TW (K : PySem.W.Frag) (J : It) (B : Hp) (ts : List T) : Prop where
  goes : ∀ i H, i < ts.length → Ex B H → J.go i H
  stops : ∀ H, Ex B H → J.stop ts.length H
  yields : ∀ i H Bc x H' t, ts[i]? = some t → Ex B Bc → Ex Bc H → J.yld i H x H' → ∃ B', News Bc H B' H' ∧ Dq K B' x t
def tI (K : PySem.W.Frag) (mg : Str → Option Value) (W : WX) (m : Ml) : TI := fun σ H R => ∃ F B e, Sta K F B H σ e ∧ Post K mg W F B σ (fun B' H' _ ts => ∀ J, TW K J B' ts → R J H') (m e)
theorem PI.imp {tg it : Expr} {t t' : TI} (h : PI X tg it t) (f : ∀ σ H R, t' σ H R → t σ H R) : PI X tg it t' := ⟨fun pins s σ H R I q => h.run pins s σ H R I (f σ H R q)⟩
theorem PI.or {tg it : Expr} {t t' : TI} (h : PI X tg it t) (h' : PI X tg it t') : PI X tg it (fun σ H R => t σ H R ∨ t' σ H R) := ⟨fun pins s σ H R I q => q.elim (h.run pins s σ H R I) (h'.run pins s σ H R I)⟩
/-! ### for -/
def mLoop (g : Mg) (body : Ms) : List T → Ms
  | [], e => .ok .nx e
  | t :: ts, e => match g t e with
    | none => .bad
    | some e1 => match body e1 with
      | .ok .nx e2 => mLoop g body ts e2
      | .ok .ct e2 => mLoop g body ts e2
      | .ok .bk e2 => .ok .nx e2
      | r => r
def mFor (mi : Ml) (g : Mg) (body : Ms) : Ms := fun e => (mi e).bind fun ts e1 => mLoop g body ts e1
theorem for_ok {K : PySem.W.Frag} {mg : Str → Option Value} {mi : Ml} {g : Mg} {sl : List Nat} {body : Ms} {D : Ends} {σ : L2.St} {H : Hp} (hk : (keep.all fun i => !sl.contains i) = true)
    (q : tS K mg W keep (mFor mi g body) D σ H) : tFor (tI K mg W mi) (tG K sl g) (tS K mg W keep body) D σ H := by
  obtain ⟨F, B, e, s, p⟩ := q
  refine ⟨F, B, e, s, (PostS.unbind p).mono fun B1 H1 e1 ts s1 g1 p1 J tw => ?_⟩
  refine ⟨fun i m σ' H' => m = ts.length - i ∧ i ≤ ts.length ∧ ∃ B2 e2, Sta K F B2 H' σ' e2 ∧ Grow F B1 B2 ∧ PostS K mg W keep F B2 σ' D (mLoop g body (ts.drop i) e2), ⟨ts.length, rfl, Nat.zero_le _, B1, e1, s1, .refl, p1⟩, ?_⟩
  rintro i m σ' H' ⟨rfl, hi, B2, e2, s2, g2, p2⟩
  by_cases hlt : i < ts.length
  · refine .inr ⟨tw.goes i H' hlt (g2.ex.trans s2.bh), fun σ'' H'' => ∃ B3 e3, Sta K F B3 H'' σ'' e3 ∧ Grow F B1 B3 ∧ PostS K mg W keep F B3 σ'' D (mLoop g body (ts.drop (i + 1)) e3), fun σ'' H'' p' => ⟨ts.length - (i + 1), by omega, rfl, hlt, p'⟩, fun x H3 y => ?_⟩
    have ht : ts[i]? = some ts[i] := List.getElem?_eq_getElem hlt
    obtain ⟨B3, n3, d3⟩ := tw.yields i H' B2 x H3 ts[i] ht g2.ex s2.bh y
    rw [List.drop_eq_getElem_cons hlt] at p2
    have s3 := s2.news n3
    have g3 := n3.grow s2.fh
    have p2' : PostS K mg W keep F B2 σ' D (match g ts[i] e2 with
      | none => .bad
      | some e1 => match body e1 with
        | .ok .nx e2 => mLoop g body (ts.drop (i + 1)) e2
        | .ok .ct e2 => mLoop g body (ts.drop (i + 1)) e2
        | .ok .bk e2 => .ok .nx e2
        | r => r) := p2
    cases hg : g ts[i] e2 with
    | none => rw [hg] at p2'; exact p2'.elim
    | some e3 =>
      rw [hg] at p2'
      dsimp only at p2'
      refine ⟨F, B3, e2, ts[i], e3, s3, d3, hg, fun σ2 s4 o4 => ⟨F, B3, e3, s4, ?_⟩⟩
      have k4 : Kept keep σ' σ2 := o4.kept (off_keep hk)
      cases hb : body e3 with
      | ok o e4 =>
        rw [hb] at p2'
        cases o with
        | nx => exact fun σ5 B5 H5 s5 g5 k5 => ⟨B5, e4, s5, (g2.trans g3).trans g5, PostS.up (r := mLoop g body (ts.drop (i + 1)) e4) p2' (g3.trans g5) (k4.trans k5)⟩
        | ct => exact fun σ5 B5 H5 s5 g5 k5 => ⟨B5, e4, s5, (g2.trans g3).trans g5, PostS.up (r := mLoop g body (ts.drop (i + 1)) e4) p2' (g3.trans g5) (k4.trans k5)⟩
        | bk => exact fun σ5 B5 H5 s5 g5 k5 => p2' σ5 B5 H5 s5 (g3.trans g5) (k4.trans k5)
        | rt r => exact fun σ5 v B5 H5 s5 g5 k5 o5 => p2' σ5 v B5 H5 s5 (g3.trans g5) (k4.trans k5) o5
      | exc x e4 =>
        rw [hb] at p2'
        exact fun σ5 c d B5 H5 s5 g5 k5 x5 => p2' σ5 c d B5 H5 s5 (g3.trans g5) (k4.trans k5) x5
      | bad => rw [hb] at p2'; exact p2'.elim
  · have ei : i = ts.length := by omega
    subst ei
    rw [List.drop_length] at p2
    exact .inl ⟨tw.stops H' (g2.ex.trans s2.bh), p2 σ' B2 H' s2 .refl .refl⟩
theorem s_for {iter tg : Expr} {body : List Stmt} {mi : Ml} {g : Mg} {sl : List Nat} {m : Ms} (hp : PassesOwn (model X.prog X.w) X.A X.env X.xe) (hc : X.calm = true) (hi : PI X tg iter (tI X.K X.mg W mi)) (hg : PG X tg (tG X.K sl g)) (hk : (keep.all fun i => !sl.contains i) = true)
    (hb : PSs X body (tS X.K X.mg W keep m)) (hs : ∀ x, foldedSetIterable iter X.env x = pure x := by intro _; rfl) : PS X (.For tg iter body [] pos) (tS X.K X.mg W keep (mFor mi g m)) := PS.imp (ps_for hp hc hi hg hb hs) fun _ _ _ => for_ok hk
end
end TL
end
section
set_option Elab.async false
set_option linter.all false
set_option autoImplicit false
set_option maxRecDepth 100000
namespace TL
open PySem PySem.Spec PyProof.Rows L2

/-! ### comprehensions -/
def wipeE (e : En) : List Nat → En
  | [] => e
  | v :: vs => (wipeE e vs).set v none
def backE (e1 e2 : En) : List Nat → En
  | [] => e2
  | v :: vs => (backE e1 e2 vs).set v (match e1[v]? with
    | some (some (.val t)) => some (.val t)
    | _ => none)
theorem wipeE_get {e : En} {i : Nat} {r : RV} : ∀ {vs : List Nat}, (wipeE e vs)[i]? = some (some r) → e[i]? = some (some r) ∧ i ∉ vs
  | [], h => ⟨h, by simp⟩
  | v :: vs, h => by
    unfold wipeE at h
    by_cases hi : v = i
    · subst hi
      by_cases hv : v < (wipeE e vs).length
      · rw [List.getElem?_set_self hv] at h; cases h
      · rw [List.getElem?_eq_none (by simpa using hv)] at h; cases h
    · rw [List.getElem?_set_ne hi] at h
      obtain ⟨h1, h2⟩ := wipeE_get h
      exact ⟨h1, by simp only [List.mem_cons, not_or]; exact ⟨fun e => hi e.symm, h2⟩⟩
theorem wipeE_len {e : En} : ∀ {vs : List Nat}, (wipeE e vs).length = e.length
  | [] => rfl
  | v :: vs => by unfold wipeE; rw [List.length_set, wipeE_len]
theorem backE_len {e1 e2 : En} : ∀ {vs : List Nat}, (backE e1 e2 vs).length = e2.length
  | [] => rfl
  | v :: vs => by unfold backE; rw [List.length_set, backE_len]
theorem backE_get {e1 e2 : En} {i : Nat} {r : RV} : ∀ {vs : List Nat}, (backE e1 e2 vs)[i]? = some (some r) → (i ∉ vs ∧ e2[i]? = some (some r)) ∨ (∃ t, r = .val t ∧ e1[i]? = some (some (.val t)))
  | [], h => .inl ⟨by simp, h⟩
  | v :: vs, h => by
    unfold backE at h
    by_cases hi : v = i
    · subst hi
      by_cases hv : v < (backE e1 e2 vs).length
      · rw [List.getElem?_set_self hv] at h
        cases he : e1[v]? with
        | none => rw [he] at h; cases h
        | some o =>
          cases o with
          | none => rw [he] at h; cases h
          | some q =>
            cases q with
            | val t => rw [he] at h; cases h; exact .inr ⟨t, rfl, rfl⟩
            | own ts => rw [he] at h; cases h
      · rw [List.getElem?_eq_none (by simpa using hv)] at h; cases h
    · rw [List.getElem?_set_ne hi] at h
      rcases backE_get h with ⟨h1, h2⟩ | h2
      · exact .inl ⟨by simp only [List.mem_cons, not_or]; exact ⟨fun e => hi e.symm, h1⟩, h2⟩
      · exact .inr h2
theorem wipe_get {σ : L2.St} {i : Nat} : ∀ {vs : List Nat}, i ∉ vs → (wipe σ vs)[i]? = σ[i]?
  | [], _ => rfl
  | v :: vs, h => by
    simp only [List.mem_cons, not_or] at h
    unfold wipe
    rw [List.getElem?_set_ne (Ne.symm h.1), wipe_get h.2]
theorem wipe_in {σ : L2.St} {i : Nat} : ∀ {vs : List Nat}, i ∈ vs → i < σ.length → (wipe σ vs)[i]? = some none
  | [], h, _ => by cases h
  | v :: vs, h, hl => by
    unfold wipe
    by_cases hi : v = i
    · subst hi
      rw [List.getElem?_set_self (by rw [wipe_length]; exact hl)]
    · rw [List.getElem?_set_ne hi]
      rcases List.mem_cons.mp h with e | h
      · exact absurd e.symm hi
      · exact wipe_in h hl
theorem wipe_off {vs : List Nat} {σ σ' : L2.St} (o : Off vs σ σ') : wipe σ' vs = wipe σ vs := by
  refine List.ext_getElem? fun i => ?_
  by_cases h : i ∈ vs
  · by_cases hl : i < σ.length
    · rw [wipe_in h hl, wipe_in h (by rw [o.1]; exact hl)]
    · rw [List.getElem?_eq_none (by rw [wipe_length, o.1]; omega), List.getElem?_eq_none (by rw [wipe_length]; omega)]
  · rw [wipe_get h, wipe_get h, o.2 i h]
theorem wipe_wipe {vs : List Nat} {σ : L2.St} : wipe (wipe σ vs) vs = wipe σ vs := by
  refine List.ext_getElem? fun i => ?_
  by_cases h : i ∈ vs
  · by_cases hl : i < σ.length
    · rw [wipe_in h hl, wipe_in h (by rw [wipe_length]; exact hl)]
    · rw [List.getElem?_eq_none (by rw [wipe_length, wipe_length]; omega), List.getElem?_eq_none (by rw [wipe_length]; omega)]
  · rw [wipe_get h]
section
variable {K : PySem.W.Frag} {mg : Str → Option Value} {W : WX} {F B H : Hp} {σ σ' : L2.St} {e : En}
theorem Sta.wiped {vs : List Nat} (s : Sta K F B H σ e) (hw : wipe σ vs = wipe σ' vs) (hl : σ.length = σ'.length) : Sta K F B H (wipe σ' vs) (wipeE e vs) := by
  have get : ∀ {i : Nat} {r : RV}, (wipeE e vs)[i]? = some (some r) → e[i]? = some (some r) ∧ (wipe σ' vs)[i]? = σ[i]? := fun {i r} h => by
    obtain ⟨h1, h2⟩ := wipeE_get h
    exact ⟨h1, by rw [← hw, wipe_get h2]⟩
  refine ⟨s.fh, s.bh, fun i r h => ?_, by rw [wipeE_len, wipe_length, ← hl]; exact s.ln, fun i j v ts us h1 h2 h3 h4 => ?_⟩
  · obtain ⟨h1, h2⟩ := get h
    rw [h2]
    exact s.ent i r h1
  · obtain ⟨g1, q1⟩ := get h1
    obtain ⟨g2, q2⟩ := get h2
    rw [q1] at h3
    rw [q2] at h4
    exact s.dj i j v ts us g1 g2 h3 h4
def mCompL (g : Mg) (tt : Mb) (te : Mt) (vs : List Nat) : List T → List T → En → Res (List T)
  | [], acc, e => .ok acc e
  | t :: ts, acc, e => match g t e with
    | none => .bad
    | some e1 => match tt e1 with
      | .ok true e2 => match te e2 with
        | .ok y e3 => if acc.length < 100000 then mCompL g tt te vs ts (acc ++ [y]) (wipeE e3 vs) else .bad
        | _ => .bad
      | .ok false e2 => mCompL g tt te vs ts acc (wipeE e2 vs)
      | _ => .bad
def mComp (mi : Ml) (g : Mg) (tt : Mb) (te : Mt) (vs : List Nat) : Mv := fun e => (mi e).bind fun ts e1 => match mCompL g tt te vs ts [] (wipeE e1 vs) with
  | .ok acc e2 => .ok (.own acc) (backE e1 e2 vs)
  | _ => .bad
/-- nothing is raised -/
abbrev W0 : WX := fun _ _ _ _ => False
theorem comp_ok {mi : Ml} {g : Mg} {sl vs : List Nat} {tt : Mb} {te : Mt} {Q : VK} (hk : (sl.all fun i => vs.contains i) = true)
    (q : tV K mg W (mComp mi g tt te vs) σ H Q) : tLc (tI K mg W mi) (tG K sl g) (tO K mg W0 tt) (tT K mg W0 te) vs σ H Q := by
  have hsub : ∀ i ∈ sl, i ∈ vs := fun i hi => List.contains_iff_mem.mp (List.all_eq_true.mp hk i hi)
  obtain ⟨F, B, e, s, p⟩ := q
  refine ⟨F, B, e, s, (Post.unbind p).mono fun B1 H1 e1 ts s1 g1 p1 J tw => fun D hD => ?_⟩
  have fD : F D = none := s1.fh.back hD
  refine ⟨fun i m H' => m = ts.length - i ∧ i ≤ ts.length ∧ ∃ B2 e2 acc xs, H' D = some (.lst xs) ∧ DqAll K B2 xs acc ∧ B2 D = none ∧ Sta K (upd F D (.lst xs)) B2 H' (wipe σ vs) e2 ∧ Grow F B1 B2 ∧
      Post K mg W F B1 σ (fun B' H' e' r => ∀ v, RvOk K F B' H' σ e' v r → Q v H') (match mCompL g tt te vs (ts.drop i) acc e2 with
        | .ok acc e2 => .ok (.own acc) (backE e1 e2 vs)
        | _ => .bad), ⟨ts.length, rfl, Nat.zero_le _, B1, wipeE e1 vs, [], [], upd_same, .nil, s1.bh.back hD, ?_, .refl, p1⟩, ?_⟩
  · have s2 := s1.wiped (vs := vs) (σ' := σ) rfl rfl
    refine ⟨s1.fh.both, (s1.bh.trans (Ex.new hD)), fun i r h => ?_, s2.ln, s2.dj⟩
    obtain ⟨v, h1, h2⟩ := s2.ent i r h
    refine ⟨v, h1, ?_⟩
    cases r with
    | val t => exact h2
    | own us =>
      obtain ⟨a, xs, rfl, q1, q2, q3, q4⟩ := h2
      have hne : a ≠ D := ne_of_none q3 hD
      exact ⟨a, xs, rfl, by rw [upd_ne hne]; exact q1, q2, by rw [upd_ne hne]; exact q3, q4⟩
  · rintro i m H' ⟨rfl, hi, B2, e2, acc, xs, hx, hd, bD, s2, g2, p2⟩
    have gr : ∀ {B3 : Hp}, Grow (upd F D (.lst xs)) B2 B3 → Grow F B2 B3 ∧ B3 D = none := fun {B3} gg => ⟨⟨gg.ex, fun a h1 h2 => by
      have := gg.new a h1 h2
      by_cases ha : a = D
      · rw [ha]; exact fD
      · rw [upd_ne ha] at this
        exact this⟩, gg.none bD upd_same⟩
    by_cases hlt : i < ts.length
    · have ht : ts[i]? = some ts[i] := List.getElem?_eq_getElem hlt
      rw [List.drop_eq_getElem_cons hlt] at p2
      have p2' : Post K mg W F B1 σ (fun B' H' e' r => ∀ v, RvOk K F B' H' σ e' v r → Q v H') (match (match g ts[i] e2 with
          | none => Res.bad
          | some e1 => match tt e1 with
            | .ok true e2 => match te e2 with
              | .ok y e3 => if acc.length < 100000 then mCompL g tt te vs (ts.drop (i + 1)) (acc ++ [y]) (wipeE e3 vs) else .bad
              | _ => .bad
            | .ok false e2 => mCompL g tt te vs (ts.drop (i + 1)) acc (wipeE e2 vs)
            | _ => .bad) with
        | .ok acc e2 => .ok (.own acc) (backE e1 e2 vs)
        | _ => .bad) := p2
      refine .inr ⟨tw.goes i H' hlt (g2.ex.trans s2.bh), fun H'' => i + 1 ≤ ts.length ∧ ∃ B2 e2 acc xs, H'' D = some (.lst xs) ∧ DqAll K B2 xs acc ∧ B2 D = none ∧ Sta K (upd F D (.lst xs)) B2 H'' (wipe σ vs) e2 ∧ Grow F B1 B2 ∧
        Post K mg W F B1 σ (fun B' H' e' r => ∀ v, RvOk K F B' H' σ e' v r → Q v H') (match mCompL g tt te vs (ts.drop (i + 1)) acc e2 with
          | .ok acc e2 => .ok (.own acc) (backE e1 e2 vs)
          | _ => .bad), fun H'' p' => ⟨ts.length - (i + 1), by omega, rfl, p'⟩, fun x H3 y => ?_⟩
      obtain ⟨B3, n3, d3⟩ := tw.yields i H' B2 x H3 ts[i] ht g2.ex s2.bh y
      have s3 := s2.news n3
      obtain ⟨gB3, bD3⟩ := gr (n3.grow s2.fh)
      cases hg : g ts[i] e2 with
      | none => rw [hg] at p2'; exact p2'.elim
      | some e3 =>
        rw [hg] at p2'
        dsimp only at p2'
        refine ⟨upd F D (.lst xs), B3, e2, ts[i], e3, s3, d3, hg, fun σ2 s4 o4 => ?_⟩
        have ow : Off vs (wipe σ vs) σ2 := o4.mono hsub
        have ww : wipe σ2 vs = wipe σ vs := (wipe_off ow).trans wipe_wipe
        refine ⟨ww, upd F D (.lst xs), B3, e3, s4, ?_⟩
        cases htt : tt e3 with
        | ok b e4 =>
          rw [htt] at p2'
          intro B4 H4 s5 g5
          obtain ⟨gB4, bD4⟩ : Grow F B3 B4 ∧ B4 D = none := ⟨⟨g5.ex, fun a h1 h2 => by
            have := g5.new a h1 h2
            by_cases ha : a = D
            · rw [ha]; exact fD
            · rw [upd_ne ha] at this
              exact this⟩, g5.none bD3 upd_same⟩
          cases b with
          | false =>
            refine ⟨hlt, B4, wipeE e4 vs, acc, xs, s5.fh D _ upd_same, dqs_ex (gB3.ex.trans gB4.ex) _ _ hd, bD4, s5.wiped (ww.trans wipe_wipe.symm |>.trans wipe_wipe) (by rw [ow.1, wipe_length]), (g2.trans gB3).trans gB4, p2'⟩
          | true =>
            refine ⟨upd F D (.lst xs), B4, e4, s5, ?_⟩
            dsimp only at p2'
            cases hte : te e4 with
            | ok yt e5 =>
              rw [hte] at p2'
              dsimp only at p2'
              intro B5 H5 s6 g6 y6 d6
              obtain ⟨gB5, bD5⟩ : Grow F B4 B5 ∧ B5 D = none := ⟨⟨g6.ex, fun a h1 h2 => by
                have := g6.new a h1 h2
                by_cases ha : a = D
                · rw [ha]; exact fD
                · rw [upd_ne ha] at this
                  exact this⟩, g6.none bD4 upd_same⟩
              by_cases hz : acc.length < 100000
              · rw [if_pos hz] at p2'
                have hx5 : H5 D = some (.lst xs) := s6.fh D _ upd_same
                have hd5 := dqs_ex ((gB3.ex.trans gB4.ex).trans gB5.ex) _ _ hd
                refine ⟨xs, hx5, bigL (by rw [hd.len]; exact hz), hlt, B5, wipeE e5 vs, acc ++ [yt], xs ++ [y6], upd_same, hd5.app (.one d6), bD5, ?_, ((g2.trans gB3).trans gB4).trans gB5, p2'⟩
                have s7 := s6.wiped (vs := vs) (σ' := σ) ww (by rw [ow.1, wipe_length])
                refine ⟨fun a o h => ?_, fun a o h => ?_, fun j r h => ?_, s7.ln, s7.dj⟩
                · by_cases ha : a = D
                  · subst ha
                    rw [upd_same] at h ⊢
                    exact h
                  · rw [upd_ne ha] at h ⊢
                    exact s7.fh a o (by rw [upd_ne ha]; exact h)
                · rw [upd_ne (ne_of_none h bD5)]
                  exact s7.bh a o h
                · obtain ⟨v, h1, h2⟩ := s7.ent j r h
                  refine ⟨v, h1, ?_⟩
                  cases r with
                  | val t => exact h2
                  | own us =>
                    obtain ⟨a, ys, rfl, q1, q2, q3, q4⟩ := h2
                    have hne : a ≠ D := fun z => by
                      rw [z, upd_same] at q1
                      cases q1
                    exact ⟨a, ys, rfl, by rw [upd_ne hne]; rw [upd_ne hne] at q1; exact q1, q2, by rw [upd_ne hne]; exact q3, q4⟩
              · rw [if_neg hz] at p2'
                exact p2'.elim
            | exc x e5 => rw [hte] at p2'; exact p2'.elim
            | bad => rw [hte] at p2'; exact p2'.elim
        | exc x e4 => rw [htt] at p2'; exact p2'.elim
        | bad => rw [htt] at p2'; exact p2'.elim
    · have ei : i = ts.length := by omega
      subst ei
      rw [List.drop_length] at p2
      refine .inl ⟨tw.stops H' (g2.ex.trans s2.bh), p2 B2 H' ⟨fun a o h => s2.fh a o (by rw [upd_ne (ne_of_none h fD)]; exact h), s2.bh, fun i r h => ?_, ?_, fun i j v ts us h1 h2 h3 h4 => ?_⟩ g2 _ ⟨⟨D, xs, rfl, fD, bD, hx, hd⟩, fun ts' _ i us h1 h2 => ?_⟩⟩
      · rcases backE_get h with ⟨hn, h⟩ | ⟨t, rfl, hh⟩
        · obtain ⟨v, h1, h2⟩ := s2.ent i r h
          rw [wipe_get hn] at h1
          refine ⟨v, h1, ?_⟩
          cases r with
          | val t => exact h2
          | own us =>
            obtain ⟨a, ys, rfl, q1, q2, q3, q4⟩ := h2
            have hne : a ≠ D := fun z => by
              rw [z, upd_same] at q1
              cases q1
            exact ⟨a, ys, rfl, by rw [upd_ne hne] at q1; exact q1, q2, q3, q4⟩
        · obtain ⟨v, h1, h2⟩ := s1.ent i _ hh
          exact ⟨v, h1, dq_ex g2.ex _ _ h2⟩
      · rw [backE_len]
        have := s2.ln
        rw [wipe_length] at this
        exact this
      · rcases backE_get h1 with ⟨n1, h1⟩ | ⟨t, z, _⟩
        · rcases backE_get h2 with ⟨n2, h2⟩ | ⟨t, z, _⟩
          · exact s2.dj i j v ts us h1 h2 (by rw [wipe_get n1]; exact h3) (by rw [wipe_get n2]; exact h4)
          · cases z
        · cases z
      · rcases backE_get h1 with ⟨n1, h1⟩ | ⟨t, z, _⟩
        · obtain ⟨v, h3, a, ys, rfl, q1, _⟩ := s2.ent i _ h1
          rw [wipe_get n1, h2] at h3
          cases h3
          rw [upd_same] at q1
          cases q1
        · cases z
end
section
variable {X : Cx} {W : WX}
theorem x_lc {elt tg iter : Expr} {ifs : List Expr} {scope : Scope} {own : List (Str × Nat)} {pos : Pos} {mi : Ml} {g : Mg} {sl : List Nat} {tt : Mb} {te : Mt} (hc : X.calm = true) (hN : X.N.Nodup) (hi : PI X tg iter (tI X.K X.mg W mi)) (ok : BlkOk X.N X.env.scope scope own)
    (hk : (sl.all fun i => (own.map (·.2)).contains i) = true)
    (hg : ∀ (s : Shared) (H : Hp) (C : Addr) (cl : List (Str × Addr)) (fp : List Addr), PG (X.blk s H scope (compEnvC scope cl C X.env) fp) tg (tG X.K sl g))
    (ht : ∀ (s : Shared) (H : Hp) (C : Addr) (cl : List (Str × Addr)) (fp : List Addr), PTs (X.blk s H scope (compEnvC scope cl C X.env) fp) ifs (tO X.K X.mg W0 tt))
    (he : ∀ (s : Shared) (H : Hp) (C : Addr) (cl : List (Str × Addr)) (fp : List Addr), PE (X.blk s H scope (compEnvC scope cl C X.env) fp) elt (tT X.K X.mg W0 te))
    (hs : ∀ x, foldedSetIterable iter X.env x = pure x := by intro _; rfl) :
    PE X (.ListComp elt [⟨tg, iter, ifs, 0⟩] scope pos) (tV X.K X.mg W (mComp mi g tt te (own.map (·.2)))) := PE.imp (pe_lc hc hN hi ok hg ht he hs) fun _ _ _ => comp_ok hk
theorem s_setLc {keep : List Nat} {i : Nat} {y : Str} {py spos : Pos} {elt tg iter : Expr} {ifs : List Expr} {scope : Scope} {own : List (Str × Nat)} {pos : Pos} {mi : Ml} {g : Mg} {sl : List Nat} {tt : Mb} {te : Mt} (hc : X.calm = true) (hN : X.N.Nodup) (hy : X.N[i]? = some y) (hyl : X.env.scope.names.lookup y = some .local) (hkeep : keep.contains i = false)
    (hsw : swapsWith (.ListComp elt [⟨tg, iter, ifs, 0⟩] scope pos) (some (.Name y py)) spos.line X.env = pure true) (hi : PI X tg iter (tI X.K X.mg W mi)) (ok : BlkOk X.N X.env.scope scope own)
    (hk : (sl.all fun i => (own.map (·.2)).contains i) = true)
    (hg : ∀ (s : Shared) (H : Hp) (C : Addr) (cl : List (Str × Addr)) (fp : List Addr), PG (X.blk s H scope (compEnvC scope cl C X.env) fp) tg (tG X.K sl g))
    (ht : ∀ (s : Shared) (H : Hp) (C : Addr) (cl : List (Str × Addr)) (fp : List Addr), PTs (X.blk s H scope (compEnvC scope cl C X.env) fp) ifs (tO X.K X.mg W0 tt))
    (he : ∀ (s : Shared) (H : Hp) (C : Addr) (cl : List (Str × Addr)) (fp : List Addr), PE (X.blk s H scope (compEnvC scope cl C X.env) fp) elt (tT X.K X.mg W0 te))
    (hs : ∀ x, foldedSetIterable iter X.env x = pure x := by intro _; rfl) :
    PS X (.Assign [.Name y py] (.ListComp elt [⟨tg, iter, ifs, 0⟩] scope pos) spos) (tS X.K X.mg W keep (mSet i (mComp mi g tt te (own.map (·.2))))) := PS.imp (ps_setLc hc hN hy hyl hsw hi ok hg ht he hs) fun D σ H q => by
  have hk' : i ∉ keep := fun z => by
    rw [List.contains_iff_mem.mpr z] at hkeep
    cases hkeep
  refine comp_ok hk (σ := σ) (H := H) (Q := fun x H1 => gName i x σ H1 D.nx) ?_
  obtain ⟨F, B, e, s, p⟩ := q
  exact ⟨F, B, e, s, (PostS.unbind p).mono fun B' H' e' r s' g p' v o => p' _ B' H' (s'.put o) .refl (.set hk')⟩
def mYes : Mb := fun e => .ok true e
theorem o_yes : PTs X [] (tO X.K X.mg W mYes) := ⟨fun pins s σ H Q I q => pts_nil.run pins s σ H Q I (by
  obtain ⟨F, B, e, s', p⟩ := q
  exact p B H s' .refl)⟩
theorem o_one {c : Expr} {m : Mb} (h : PT X c (tO X.K X.mg W m)) : PTs X [c] (tO X.K X.mg W m) := pts_one h
end

/-! ### defs -/
/-- what a def does: the arguments (a list that the caller's name owns, or a value) to the answer and to what became of them -/
abbrev DF := List RV → Res RV
def spD (K : PySem.W.Frag) (mg : Str → Option Value) (D : DF) : Sp := fun vs H Q E => ∃ F B args, vs.length = args.length ∧ Sta K F B H (vs.map some) (args.map some) ∧
  Post K mg (fun c d _ H => E c d H) F B (vs.map some) (fun B' H' e' r => ∀ v, RvOk K F B' H' (vs.map some) e' v r → Q v H') (D args)
/-- the parameters' entries as they are left; those that were stored anew are not told -/
def keepE (keep : List Nat) (np : Nat) (e : En) : En := (List.range np).map fun i => if keep.contains i then (e[i]?).join else none
def runDef (n np : Nat) (keep : List Nat) (m : Ms) : DF := fun args => if args.length = np then match m (args.map some ++ List.replicate (n - np) none) with
    | .ok (.rt r) e => .ok r (keepE keep np e)
    | .ok .nx e => .ok (.val .none) (keepE keep np e)
    | .exc x e => .exc x (keepE keep np e)
    | _ => .bad
  else .bad
theorem keepE_get {keep : List Nat} {np : Nat} {e : En} {i : Nat} {r : RV} (h : (keepE keep np e)[i]? = some (some r)) : i < np ∧ i ∈ keep ∧ e[i]? = some (some r) := by
  unfold keepE at h
  rw [List.getElem?_map] at h
  by_cases hi : i < np
  · rw [List.getElem?_range hi] at h
    have h' : (if keep.contains i then (e[i]?).join else none) = some r := Option.some.inj h
    by_cases hk : keep.contains i
    · rw [if_pos hk] at h'
      refine ⟨hi, List.contains_iff_mem.mp hk, ?_⟩
      cases he : e[i]? with
      | none => rw [he] at h'; cases h'
      | some o => rw [he] at h'; exact congrArg some h'
    · rw [if_neg hk] at h'
      cases h'
  · rw [List.getElem?_eq_none (by rw [List.length_range]; omega)] at h
    cases h
theorem Sta.out {K : PySem.W.Frag} {F B H : Hp} {σ : L2.St} {e : En} {vs : List V} {keep : List Nat} {np : Nat} {N : List Str} (s : Sta K F B H σ e) (hl : vs.length = np) (k : Kept keep (L2.start N vs) σ) :
    Sta K F B H (vs.map some) (keepE keep np e) ∧ ∀ i, i < np → i ∈ keep → (vs.map some)[i]? = σ[i]? := by
  have same : ∀ i, i < np → i ∈ keep → (vs.map some)[i]? = σ[i]? := fun i hi hk => by
    rw [k i hk]
    unfold L2.start
    rw [List.getElem?_append_left (by rw [List.length_map]; omega)]
  refine ⟨⟨s.fh, s.bh, fun i r h => ?_, ?_, fun i j v ts us h1 h2 h3 h4 => ?_⟩, same⟩
  · obtain ⟨h1, h2, h3⟩ := keepE_get h
    rw [same i h1 h2]
    exact s.ent i r h3
  · unfold keepE
    rw [List.length_map, List.length_range, List.length_map]
    omega
  · obtain ⟨a1, a2, a3⟩ := keepE_get h1
    obtain ⟨b1, b2, b3⟩ := keepE_get h2
    rw [same i a1 a2] at h3
    rw [same j b1 b2] at h4
    exact s.dj i j v ts us a3 b3 h3 h4
/-- THE RULE: a def keeps what its body does -/
theorem def_ok {P : Program} {w : World} {K : PySem.W.Frag} {mg : Str → Option Value} {base : Heap} {x qual : Str} {st : Stmt} {f : Addr} {fd : FuncData} {N ps : List Str} {k : Nat} {keep : List Nat} {m : Ms} (F : Fun K x qual st f fd) (S : FnScope N ps (defScope st))
    (hb : ∀ (cdv : Value) (A : Around) (outer : List Env) (s : Shared) (H : Hp) (E : XK), Room k (A.deeper (envOfC qual (defScope st) s.heap.objs.size f cdv)) →
      Takes (cxOf (L2.CX P w) P w K mg base N qual (defScope st) f cdv A outer s H E) (fun c d _ H => E c d H) → PSs (cxOf (L2.CX P w) P w K mg base N qual (defScope st) f cdv A outer s H E) (defBody st) (tS K mg (fun c d _ H => E c d H) keep m)) :
    FnOk P w K mg base (L2.CX P w) (k + 1) f fd ps (spD K mg (runDef N.length ps.length keep m)) := by
  refine F.okX S (fun vs H Q E h => ?_) (fun cdv A outer s H vs Q E hr h => ⟨_, hb cdv A outer s H E hr (takes_of rfl rfl rfl rfl), ?_⟩)
  · obtain ⟨F, B, args, hl, s, p⟩ := h
    unfold runDef at p
    by_cases ha : args.length = ps.length
    · exact hl.trans ha
    · rw [if_neg ha] at p
      exact p.elim
  · obtain ⟨F, B, args, hl, s, p⟩ := h
    unfold runDef at p
    by_cases ha : args.length = ps.length
    · rw [if_pos ha] at p
      have hlv : vs.length = ps.length := hl.trans ha
      have hNl : ps.length ≤ N.length := by
        have := congrArg List.length S.pre
        rw [List.length_take] at this
        omega
      refine ⟨F, B, args.map some ++ List.replicate (N.length - ps.length) none, ⟨s.fh, s.bh, fun i r h => ?_, ?_, fun i j v ts us h1 h2 h3 h4 => ?_⟩, ?_⟩
      · have hi : i < args.length := by
          by_cases hi : i < args.length
          · exact hi
          · rw [List.getElem?_append_right (by simpa using hi)] at h
            rw [List.getElem?_replicate] at h
            split at h <;> cases h
        rw [List.getElem?_append_left (by simpa using hi)] at h
        obtain ⟨v, h1, h2⟩ := s.ent i r h
        refine ⟨v, ?_, h2⟩
        unfold L2.start
        rw [List.getElem?_append_left (by rw [List.length_map]; omega)]
        exact h1
      · unfold L2.start
        rw [List.length_append, List.length_append, List.length_map, List.length_map, List.length_replicate, List.length_replicate]
        omega
      · have cut : ∀ (i : Nat) (r : RV), (args.map some ++ List.replicate (N.length - ps.length) none)[i]? = some (some r) → i < args.length ∧ (args.map some)[i]? = some (some r) := fun i r h => by
          have hi : i < args.length := by
            by_cases hi : i < args.length
            · exact hi
            · rw [List.getElem?_append_right (by simpa using hi)] at h
              rw [List.getElem?_replicate] at h
              split at h <;> cases h
          rw [List.getElem?_append_left (by simpa using hi)] at h
          exact ⟨hi, h⟩
        obtain ⟨a1, a2⟩ := cut i _ h1
        obtain ⟨b1, b2⟩ := cut j _ h2
        unfold L2.start at h3 h4
        rw [List.getElem?_append_left (by rw [List.length_map]; omega)] at h3 h4
        exact s.dj i j v ts us a2 b2 h3 h4
      · cases hm : m (args.map some ++ List.replicate (N.length - ps.length) none) with
        | ok o e' =>
          rw [hm] at p
          cases o with
          | nx =>
            intro σ' B' H' s' g k'
            obtain ⟨s2, same⟩ := s'.out hlv k'
            exact p B' H' s2 g .non ⟨.non, fun _ z => nomatch z⟩
          | rt r =>
            intro σ' v B' H' s' g k' o'
            obtain ⟨s2, same⟩ := s'.out hlv k'
            refine p B' H' s2 g v ⟨o'.1, fun ts er i us h1 h2 => ?_⟩
            obtain ⟨q1, q2, q3⟩ := keepE_get h1
            rw [same i q1 q2] at h2
            exact o'.2 ts er i us q3 h2
          | bk => exact p.elim
          | ct => exact p.elim
        | exc x e' =>
          rw [hm] at p
          intro σ' c d B' H' s' g k' x'
          obtain ⟨s2, same⟩ := s'.out hlv k'
          exact p c d B' H' s2 g x'
        | bad => rw [hm] at p; exact p.elim
    · rw [if_neg ha] at p
      exact p.elim
end TL
end
section
set_option Elab.async false
set_option linter.all false
set_option autoImplicit false
set_option maxRecDepth 100000
namespace TL
open PySem PySem.Spec PyProof.Rows L2

/-! ### calls of defs -/
def mCall (D : DF) (ms : Ml) : Mv := fun e => (ms e).bind fun ts e1 => match D (ts.map .val) with
  | .ok r _ => .ok r e1
  | .exc x _ => .exc x e1
  | .bad => .bad
theorem sta_vals {K : PySem.W.Frag} {F B H : Hp} {vs : List V} {ts : List T} (fh : Ex F H) (bh : Ex B H) (d : DqAll K B vs ts) : Sta K F B H (vs.map some) ((ts.map RV.val).map some) := by
  refine ⟨fh, bh, fun i r h => ?_, ?_, fun i j v us ws h1 => ?_⟩
  · rw [List.getElem?_map, List.getElem?_map] at h
    cases ht : ts[i]? with
    | none => rw [ht] at h; cases h
    | some t =>
      rw [ht] at h
      cases h
      obtain ⟨v, h1, h2⟩ := d.get ht
      exact ⟨v, by rw [List.getElem?_map, h1]; rfl, h2⟩
  · rw [List.length_map, List.length_map, List.length_map, d.len]
    exact Nat.le_refl _
  · rw [List.getElem?_map, List.getElem?_map] at h1
    cases ht : ts[i]? with
    | none => rw [ht] at h1; cases h1
    | some t => rw [ht] at h1; cases h1
section
variable {X : Cx} {W : WX} {k : Nat} {f : Addr} {fd : FuncData} {ps : List Str} {D : DF} {x : Str} {p pos : Pos} {a : Expr} {es : List Expr}
/-- behind a def that was handed values alone -/
theorem call_vals {K : PySem.W.Frag} {mg : Str → Option Value} {F B1 H1 : Hp} {σ : L2.St} {e1 : En} {vs : List V} {ts : List T} {Q : VK} (s1 : Sta K F B1 H1 σ e1) (ds : DqAll K B1 vs ts)
    (p1 : Post K mg W F B1 σ (fun B' H' e' r => ∀ v, RvOk K F B' H' σ e' v r → Q v H') (match D (ts.map .val) with
      | .ok r _ => .ok r e1
      | .exc x _ => .exc x e1
      | .bad => .bad)) : spD K mg D vs H1 Q (WE W σ) := by
  refine ⟨H1, B1, ts.map .val, by rw [List.length_map, ds.len], sta_vals (Ex.refl _) s1.bh ds, ?_⟩
  have nw : ∀ {B' H' : Hp} {e' : En}, Sta K H1 B' H' (vs.map some) e' → Grow H1 B1 B' → News B1 H1 B' H' := fun {B' H' e'} s g => ⟨g.ex, s.bh, s.fh, g.new⟩
  cases hD : D (ts.map .val) with
  | ok r e' =>
    rw [hD] at p1
    intro B' H' s' g' v o
    have n := nw s' g'
    obtain ⟨s2, g2, o2⟩ := NewOk.rv (z := r) (v := v) s1 ⟨n, by
      cases r with
      | val t => exact o.1
      | own us =>
        obtain ⟨b, xs, e, q1, q2, q3, q4⟩ := o.1
        exact ⟨b, xs, e, q1, q2, q3, q4⟩⟩
    exact p1 B' H' s2 g2 v o2
  | exc x e' =>
    rw [hD] at p1
    intro c d B' H' s' g' xo
    have n := nw s' g'
    exact p1 c d B' H' (s1.news n) (n.grow s1.fh) xo
  | bad => rw [hD] at p1; exact p1.elim
theorem x_call {ms : Ml} (F : FnOk X.prog X.w X.K X.mg X.base (L2.CX X.prog X.w) k f fd ps (spD X.K X.mg D)) (hr : Room k X.A) (tk : Takes X W) (hg : Gl X x) (hm : X.mg x = some (.ref f)) (hk : PySem.W.keepIn X.K (.ref f) = true) (hb : Binds X.K fd ps [])
    (ha : PA X (a :: es) (tL X.K X.mg W ms)) (hdb : (x == ("__debug__" : Str)) = false := by decide) (he : starEach (a :: es) X.env = (false, eval a X.env) :: starEach es X.env := by rfl) (hpl : (backTo pos (starEach es X.env)).any (·.1) = false := by rfl) :
    PE X (.Call (.Name x p) (a :: es) [] pos) (tV X.K X.mg W (mCall D ms)) := PE.imp (pe_callS (E := WE W) F hr hg hm hk hb (passAt tk) ha hdb he hpl) fun σ H Q q => by
  obtain ⟨F, B, e, s, p⟩ := q
  exact ⟨F, B, e, s, (Post.unbind p).mono fun B1 H1 e1 ts s1 g1 p1 vs ds => call_vals s1 ds p1⟩
/-- f(): no argument -/
def mCall00 (D : DF) : Mv := mCall D mNil
theorem x_call0 (F : FnOk X.prog X.w X.K X.mg X.base (L2.CX X.prog X.w) k f fd ps (spD X.K X.mg D)) (hr : Room k X.A) (tk : Takes X W) (hg : Gl X x) (hm : X.mg x = some (.ref f)) (hk : PySem.W.keepIn X.K (.ref f) = true) (hb : Binds X.K fd ps [])
    (hdb : (x == ("__debug__" : Str)) = false := by decide) :
    PE X (.Call (.Name x p) [] [] pos) (tV X.K X.mg W (mCall00 D)) := by
  refine ⟨fun pins s σ H Q I q => ?_⟩
  refine wpAny_Call_Name_kw (ld_glob I hg hm ?_ hdb)
  refine PySem.W.callWith_K0 I.kIn hk (run_fnS (E := WE W) (us := []) (vs := []) F hr hb (passAt tk σ) I .nil ?_)
  obtain ⟨F, B, e, s, p⟩ := q
  exact call_vals (ts := []) s .nil p
/-- the first argument a name, whose list may be changed -/
def afterP (D : DF) (i : Nat) (ts : List T) (e1 : En) : Res RV := match e1[i]? with
  | some (some r0) => match D (r0 :: ts.map .val) with
    | .ok r e' => .ok r (match r0 with
      | .own _ => e1.set i (e'[0]?).join
      | _ => e1)
    | .exc x e' => .exc x (match r0 with
      | .own _ => e1.set i (e'[0]?).join
      | _ => e1)
    | .bad => .bad
  | _ => .bad
def mCallP (D : DF) (i : Nat) (ms : Ml) : Mv := fun e => match e[i]? with
  | some (some _) => (ms e).bind fun ts e1 => afterP D i ts e1
  | _ => .bad
theorem Sta.own_cons {K : PySem.W.Frag} {F B H : Hp} {b : Addr} {xs vs : List V} {us : List T} {ts : List T} (fh : Ex F H) (bh : Ex B H) (q1 : F (b : Addr) = none) (q2 : B b = none) (q3 : H b = some (.lst xs)) (q4 : DqAll K B xs us) (d : ∃ ws, vs = .ref b :: ws ∧ DqAll K B ws ts) :
    Sta K F B H (vs.map some) ((RV.own us :: ts.map RV.val).map some) := by
  obtain ⟨ws, rfl, d⟩ := d
  have s0 := sta_vals fh bh d
  refine ⟨fh, bh, fun i r h => ?_, ?_, fun i j v us' ws' h1 h2 _ _ => ?_⟩
  · cases i with
    | zero =>
      cases h
      exact ⟨_, rfl, b, xs, rfl, q1, q2, q3, q4⟩
    | succ i => exact s0.ent i r h
  · have := s0.ln
    simp only [List.map_cons, List.length_cons]
    omega
  · have none' : ∀ (j : Nat) us, ((ts.map RV.val).map some)[j]? ≠ some (some (RV.own us)) := fun j us h => by
      rw [List.getElem?_map, List.getElem?_map] at h
      cases ht : ts[j]? with
      | none => rw [ht] at h; cases h
      | some t => rw [ht] at h; cases h
    cases i with
    | zero =>
      cases j with
      | zero => rfl
      | succ j => exact absurd h2 (none' j _)
    | succ i => exact absurd h1 (none' i _)
def except (H : Hp) (p : Addr) : Hp := fun a => if a = p then none else H a
theorem call_own {K : PySem.W.Frag} {mg : Str → Option Value} {F B1 H1 : Hp} {σ : L2.St} {e1 : En} {i : Nat} {v0 : V} {ws : List V} {us ts : List T} {Q : VK} (s1 : Sta K F B1 H1 σ e1) (he : e1[i]? = some (some (.own us))) (hv : σ[i]? = some (some v0)) (ds : DqAll K B1 ws ts)
    (p1 : Post K mg W F B1 σ (fun B' H' e' r => ∀ v, RvOk K F B' H' σ e' v r → Q v H') (match D (.own us :: ts.map .val) with
      | .ok r e' => .ok r (e1.set i (e'[0]?).join)
      | .exc x e' => .exc x (e1.set i (e'[0]?).join)
      | .bad => .bad)) : spD K mg D (v0 :: ws) H1 Q (WE W σ) := by
  obtain ⟨v, hv', b, xs, rfl, q1, q2, q3, q4⟩ := s1.ent i _ he
  rw [hv] at hv'
  cases hv'
  have hi := (List.getElem?_eq_some_iff.mp he).1
  have fh : Ex (except H1 b) H1 := fun a o h => by
    unfold except at h
    split at h
    · cases h
    · exact h
  have fb : except H1 b b = none := if_pos rfl
  have fo : ∀ {a : Addr} {o : HO}, a ≠ b → H1 a = some o → except H1 b a = some o := fun {a o} hne h => by
    unfold except
    rw [if_neg hne]
    exact h
  have fn : ∀ {a : Addr}, except H1 b a = none → F a = none := fun {a} h => by
    by_cases hab : a = b
    · rw [hab]; exact q1
    · unfold except at h
      rw [if_neg hab] at h
      exact s1.fh.back h
  refine ⟨except H1 b, B1, .own us :: ts.map .val, by rw [List.length_cons, List.length_cons, List.length_map, ds.len], Sta.own_cons fh s1.bh fb q2 q3 q4 ⟨ws, rfl, ds⟩, ?_⟩
  -- behind the call
  have aft : ∀ {B' H' : Hp} {e' : En}, Sta K (except H1 b) B' H' ((V.ref b :: ws).map some) e' → Grow (except H1 b) B1 B' → Sta K F B' H' σ (e1.set i (e'[0]?).join) ∧ Grow F B1 B' := fun {B' H' e'} s g => by
    have get : ∀ (j : Nat) (r : RV), (e1.set i (e'[0]?).join)[j]? = some (some r) → (j = i ∧ e'[0]? = some (some r)) ∨ (j ≠ i ∧ e1[j]? = some (some r)) := fun j r h => by
      by_cases hj : i = j
      · subst hj
        rw [List.getElem?_set_self hi] at h
        refine .inl ⟨rfl, ?_⟩
        cases h0 : e'[0]? with
        | none => rw [h0] at h; cases h
        | some o => rw [h0] at h; exact h
      · rw [List.getElem?_set_ne hj] at h
        exact .inr ⟨Ne.symm hj, h⟩
    have apart : ∀ (j : Nat) (ys : List T) (v : V), j ≠ i → e1[j]? = some (some (.own ys)) → σ[j]? = some (some v) → v ≠ .ref b := fun j ys v hj h1 h2 z => by
      subst z
      exact hj (s1.dj j i _ _ _ h1 he h2 hv)
    refine ⟨⟨fun a o h => ?_, s.bh, fun j r h => ?_, by rw [List.length_set]; exact s1.ln, fun j k v ys zs h1 h2 h3 h4 => ?_⟩, ⟨g.ex, fun a h1 h2 => fn (g.new a h1 h2)⟩⟩
    · have hne : a ≠ b := fun z => by
        rw [z, q1] at h
        cases h
      exact s.fh a o (fo hne (s1.fh a o h))
    · rcases get j r h with ⟨rfl, h0⟩ | ⟨hj, h⟩
      · obtain ⟨v, h1, h2⟩ := s.ent 0 r h0
        cases h1
        refine ⟨_, hv, ?_⟩
        cases r with
        | val t => exact h2
        | own ys =>
          obtain ⟨c, zs, e, r1, r2, r3, r4⟩ := h2
          cases e
          exact ⟨_, zs, rfl, q1, r2, r3, r4⟩
      · obtain ⟨v, h1, h2⟩ := s1.ent j r h
        refine ⟨v, h1, ?_⟩
        cases r with
        | val t => exact dq_ex g.ex _ _ h2
        | own ys =>
          have hne := apart j ys v hj h h1
          obtain ⟨c, zs, rfl, r1, r2, r3, r4⟩ := h2
          have hcb : c ≠ b := fun z => hne (by rw [z])
          have hF := fo hcb r3
          exact ⟨c, zs, rfl, r1, g.none r2 hF, s.fh c _ hF, dqs_ex g.ex _ _ r4⟩
    · rcases get j _ h1 with ⟨rfl, h1'⟩ | ⟨hj, h1'⟩
      · rcases get k _ h2 with ⟨rfl, _⟩ | ⟨hk, h2'⟩
        · rfl
        · rw [hv] at h3
          cases h3
          exact absurd rfl (apart k zs _ hk h2' h4)
      · rcases get k _ h2 with ⟨rfl, _⟩ | ⟨hk, h2'⟩
        · rw [hv] at h4
          cases h4
          exact absurd rfl (apart j ys _ hj h1' h3)
        · exact s1.dj j k v ys zs h1' h2' h3 h4
  cases hD : D (.own us :: ts.map .val) with
  | ok r e' =>
    rw [hD] at p1
    intro B' H' s' g' v o
    obtain ⟨s2, g2⟩ := aft s' g'
    refine p1 B' H' s2 g2 v ⟨?_, fun ys er j zs h1 h2 => ?_⟩
    · cases r with
      | val t => exact o.1
      | own ys =>
        obtain ⟨c, zs, e, r1, r2, r3, r4⟩ := o.1
        exact ⟨c, zs, e, fn r1, r2, r3, r4⟩
    · subst er
      obtain ⟨c, xs', e, r1, r2, r3, r4⟩ := o.1
      by_cases hj : i = j
      · subst hj
        rw [List.getElem?_set_self hi] at h1
        rw [hv] at h2
        cases h2
        refine o.2 ys rfl 0 zs ?_ rfl
        cases h0 : e'[0]? with
        | none => rw [h0] at h1; cases h1
        | some o => rw [h0] at h1; exact h1
      · rw [List.getElem?_set_ne hj] at h1
        obtain ⟨w, w1, c', xs2, e2, t1, t2, t3, t4⟩ := s1.ent j _ h1
        rw [h2] at w1
        cases w1
        rw [e] at e2
        cases e2
        have hcb : c ≠ b := fun z => by
          subst z
          subst e
          exact hj (s1.dj i j _ _ _ he h1 hv h2)
        rw [fo hcb t3] at r1
        cases r1
  | exc x e' =>
    rw [hD] at p1
    intro c d B' H' s' g' xo
    obtain ⟨s2, g2⟩ := aft s' g'
    exact p1 c d B' H' s2 g2 xo
  | bad => rw [hD] at p1; exact p1.elim
theorem sp_cons {K : PySem.W.Frag} {mg : Str → Option Value} {F B1 H1 : Hp} {σ : L2.St} {e1 : En} {i : Nat} {v0 : V} {ws : List V} {ts : List T} {Q : VK} (s1 : Sta K F B1 H1 σ e1) (hv : σ[i]? = some (some v0)) (ds : DqAll K B1 ws ts)
    (p1 : Post K mg W F B1 σ (fun B' H' e' r => ∀ v, RvOk K F B' H' σ e' v r → Q v H') (afterP D i ts e1)) : spD K mg D (v0 :: ws) H1 Q (WE W σ) := by
  unfold afterP at p1
  cases he : e1[i]? with
  | none => rw [he] at p1; exact p1.elim
  | some o =>
    cases o with
    | none => rw [he] at p1; exact p1.elim
    | some r0 =>
      rw [he] at p1
      cases r0 with
      | val t =>
        obtain ⟨v, h1, h2⟩ := s1.ent i _ he
        rw [hv] at h1
        cases h1
        refine call_vals (vs := v0 :: ws) (ts := t :: ts) s1 (.cons h2 ds) ?_
        dsimp only at p1
        exact p1
      | own us => exact call_own s1 he hv ds p1
theorem x_callP {ms : Ml} {i : Nat} {y : Str} {yp : Pos} (F : FnOk X.prog X.w X.K X.mg X.base (L2.CX X.prog X.w) k f fd ps (spD X.K X.mg D)) (hr : Room k X.A) (tk : Takes X W) (hg : Gl X x) (hm : X.mg x = some (.ref f)) (hk : PySem.W.keepIn X.K (.ref f) = true) (hb : Binds X.K fd ps [])
    (hN : X.N[i]? = some y) (hv : Vis X.env.scope y) (ha : PA X es (tL X.K X.mg W ms)) (hd : (y == ("__debug__" : Str)) = false := by decide) (hcd : (y == ("__classdict__" : Str)) = false := by decide) (hdb : (x == ("__debug__" : Str)) = false := by decide)
    (he : starEach (Expr.Name y yp :: es) X.env = (false, eval (Expr.Name y yp) X.env) :: starEach es X.env := by rfl) (hpl : (backTo pos (starEach es X.env)).any (·.1) = false := by rfl) :
    PE X (.Call (.Name x p) (.Name y yp :: es) [] pos) (tV X.K X.mg W (mCallP D i ms)) := PE.imp (pe_callS (E := WE W) F hr hg hm hk hb (passAt tk) (pa_cons (pe_var hN hv hd hcd) ha he) hdb he hpl) fun σ H Q q => by
  obtain ⟨F, B, e, s, p⟩ := q
  unfold mCallP at p
  cases hei : e[i]? with
  | none => rw [hei] at p; exact p.elim
  | some o =>
    cases o with
    | none => rw [hei] at p; exact p.elim
    | some r0 =>
      rw [hei] at p
      obtain ⟨v0, hv0, _⟩ := s.ent i _ hei
      exact ⟨v0, hv0, F, B, e, s, (Post.unbind (f := fun ts e1 => afterP D i ts e1) p).mono fun B1 H1 e1 ts s1 g1 p1 vs ds => sp_cons s1 hv0 ds p1⟩
def ints? : List (T × T) → Option (List Int)
  | [] => some []
  | (.int i, .none) :: r => (ints? r).map (i :: ·)
  | _ => none
theorem ints_ok : ∀ {ns ms : List Int}, ints? (ns.map fun n => (.int n, .none)) = some ms → ms = ns
  | [], _, h => by cases h; rfl
  | n :: ns, ms, h => by
    have h' : (ints? (ns.map fun n => (PyData.int n, PyData.none))).map (n :: ·) = some ms := h
    cases q : ints? (ns.map fun n => (PyData.int n, PyData.none)) with
    | none => rw [q] at h'; cases h'
    | some r =>
      rw [q] at h'
      cases h'
      rw [ints_ok q]
/-- the items of what is walked, or asked for its length -/
def items : T → Option (List T)
  | .list ts => some ts
  | .tuple ts => some ts
  | .dict kvs => (ints? kvs).map fun ns => ns.map .int
  | _ => none
theorem dq_ints {K : PySem.W.Frag} {B : Hp} : ∀ ns : List Int, DqAll K B (ns.map V.int) (ns.map PyData.int)
  | [] => .nil
  | n :: ns => .cons (.int n) (dq_ints ns)
theorem items_ok {K : PySem.W.Frag} {B : Hp} {x : V} {t : T} {ts : List T} (d : Dq K B x t) (h : items t = some ts) : ∃ a xs, x = .ref a ∧ DqAll K B xs ts ∧ ((∀ H, Ex B H → SqL K H a xs) ∨ ∀ H, Ex B H → SqT K H a xs) := by
  cases d with
  | lst hs ha => cases h; exact ⟨_, _, rfl, ha, .inl fun H ex => .inl (ex_rd ex hs)⟩
  | tup hs ha => cases h; exact ⟨_, _, rfl, ha, .inr fun H ex => ex_t ex hs.t⟩
  | prs hs h1 h2 =>
    exfalso
    have h' : (ints? [(_, _), (.bool true, .none)]).map (fun ns => ns.map PyData.int) = some ts := h
    unfold ints? at h'
    split at h'
    · rename_i q
      cases q
    · rename_i q
      injection q with q1 q2
      subst q2
      cases h'
    · cases h'
  | @scr a ns hs =>
    have h' : (ints? (ns.map fun n => (.int n, .none))).map (fun ns => ns.map PyData.int) = some ts := h
    cases q : ints? (ns.map fun n => (PyData.int n, PyData.none)) with
    | none => rw [q] at h'; cases h'
    | some r =>
      rw [q] at h'
      cases h'
      rw [ints_ok q]
      exact ⟨a, _, rfl, dq_ints ns, .inl fun H ex => ex_l ex hs⟩
  | exn h1 h2 h3 => cases h
  | _ => cases h
/-! ### a name's list: read, changed -/
/-- the data of a name, nothing laid down -/
def peek (e : En) (i : Nat) : Option (List T) := match e[i]? with
  | some (some (.own ts)) => some ts
  | some (some (.val t)) => items t
  | _ => none
theorem peek_ok {K : PySem.W.Frag} {F B H : Hp} {σ : L2.St} {e : En} {i : Nat} {ts : List T} (s : Sta K F B H σ e) (h : peek e i = some ts) : ∃ a xs, σ[i]? = some (some (.ref a)) ∧ (SqL K H a xs ∨ SqT K H a xs) ∧ DqAll K B xs ts := by
  unfold peek at h
  cases he : e[i]? with
  | none => rw [he] at h; cases h
  | some o =>
    cases o with
    | none => rw [he] at h; cases h
    | some r =>
      obtain ⟨v, h1, h2⟩ := s.ent i r he
      rw [he] at h
      cases r with
      | own us =>
        cases h
        obtain ⟨a, xs, rfl, q1, q2, q3, q4⟩ := h2
        exact ⟨a, xs, h1, .inl (.inl (.inl q3)), q4⟩
      | val t =>
        obtain ⟨a, xs, rfl, q1, q2⟩ := items_ok (B := B) h2 h
        rcases q2 with q2 | q2
        · exact ⟨a, xs, h1, .inl (q2 H s.bh), q1⟩
        · exact ⟨a, xs, h1, .inr (q2 H s.bh), q1⟩
def mLenV (i : Nat) : Mt := fun e => match peek e i with
  | some ts => .ok (.int (ts.length : Int)) e
  | none => .bad
theorem x_lenV {i : Nat} {y : Str} {yp : Pos} (hg : Gl X "len") (hm : X.mg "len" = none) (hN : X.N[i]? = some y) (hv : Vis X.env.scope y) (hd : (y == ("__debug__" : Str)) = false := by decide) (hcd : (y == ("__classdict__" : Str)) = false := by decide)
    (he : starEach [Expr.Name y yp] X.env = (false, eval (Expr.Name y yp) X.env) :: starEach [] X.env := by rfl) (hpl : (backTo pos (starEach [] X.env)).any (·.1) = false := by rfl) :
    PE X (.Call (.Name "len" p) [.Name y yp] [] pos) (tT X.K X.mg W (mLenV i)) := PE.imp (pe_callB call_len_seq hg hm PySem.boot_len (pa_cons (pe_var hN hv hd hcd) pa_nil he) (by decide) (by decide) he hpl) fun σ H Q q => by
  obtain ⟨F, B, e, s, p⟩ := q
  unfold mLenV at p
  cases h : peek e i with
  | none => rw [h] at p; exact p.elim
  | some ts =>
    rw [h] at p
    obtain ⟨a, xs, h1, h2, h3⟩ := peek_ok s h
    refine ⟨_, h1, a, xs, rfl, h2, ?_⟩
    rw [h3.len]
    exact p B H s .refl _ (.int _)
/-- x[e] of a name -/
def mIxV (i : Nat) (m : Mt) : Mt := fun e => match e[i]? with
  | some (some _) => (m e).bind fun t e1 => match peek e1 i, t with
    | some ts, .int j => match atI ts j with
      | some u => .ok u e1
      | none => .bad
    | _, _ => .bad
  | _ => .bad
theorem atI_rel {K : PySem.W.Frag} {B : Hp} {xs : List V} {ts : List T} {j : Int} {u : T} (d : DqAll K B xs ts) (h : atI ts j = some u) : ∃ v, atI xs j = some v ∧ Dq K B v u := by
  unfold atI at h ⊢
  rw [d.len]
  cases hi : ixN ts.length j with
  | none => rw [hi] at h; cases h
  | some n =>
    rw [hi] at h
    exact d.get h
theorem x_ixV {i : Nat} {y : Str} {yp : Pos} {m : Mt} (hN : X.N[i]? = some y) (hv : Vis X.env.scope y) (hb : PE X a (tT X.K X.mg W m)) (hs : PlainIx a) (hd : (y == ("__debug__" : Str)) = false := by decide) (hcd : (y == ("__classdict__" : Str)) = false := by decide) :
    PE X (.Subscript (.Name y yp) a pos) (tT X.K X.mg W (mIxV i m)) := PE.imp (pe_ix (ix_list.or ix_tup) (pe_var hN hv hd hcd) hb hs) fun σ H Q q => by
  obtain ⟨F, B, e, s, p⟩ := q
  unfold mIxV at p
  cases hei : e[i]? with
  | none => rw [hei] at p; exact p.elim
  | some o =>
    cases o with
    | none => rw [hei] at p; exact p.elim
    | some r0 =>
      rw [hei] at p
      obtain ⟨v0, hv0, _⟩ := s.ent i _ hei
      refine ⟨v0, hv0, F, B, e, s, (Post.unbind p).mono fun B1 H1 e1 t s1 g1 p1 v d => ?_⟩
      cases h : peek e1 i with
      | none => rw [h] at p1; exact p1.elim
      | some ts =>
        rw [h] at p1
        obtain ⟨b, xs, h1, h2, h3⟩ := peek_ok s1 h
        rw [hv0] at h1
        cases h1
        cases t with
        | int j =>
          cases d
          dsimp only at p1
          cases ha : atI ts j with
          | none => rw [ha] at p1; exact p1.elim
          | some u =>
            rw [ha] at p1
            obtain ⟨w, w1, w2⟩ := atI_rel h3 ha
            have fin := p1 B1 H1 s1 .refl w w2
            rcases h2 with h2 | h2
            · exact .inl ⟨b, xs, j, w, rfl, rfl, h2, w1, fin⟩
            · exact .inr ⟨b, xs, j, w, rfl, rfl, h2, w1, fin⟩
        | _ => exact p1.elim
theorem Sta.write {K : PySem.W.Frag} {F B H : Hp} {σ : L2.St} {e : En} {i : Nat} {b : Addr} {ts us : List T} {ys : List V} (s : Sta K F B H σ e) (he : e[i]? = some (some (.own ts))) (hv : σ[i]? = some (some (.ref b))) (d : DqAll K B ys us) :
    Sta K F B (upd H b (.lst ys)) σ (e.set i (some (.own us))) := by
  obtain ⟨v, h1, b', xs, e1, q1, q2, q3, q4⟩ := s.ent i _ he
  rw [hv] at h1
  cases h1
  cases e1
  have hi := (List.getElem?_eq_some_iff.mp he).1
  have get : ∀ (j : Nat) (r : RV), (e.set i (some (.own us)))[j]? = some (some r) → (j = i ∧ r = .own us) ∨ (j ≠ i ∧ e[j]? = some (some r)) := fun j r h => by
    by_cases hj : i = j
    · subst hj
      rw [List.getElem?_set_self hi] at h
      cases h
      exact .inl ⟨rfl, rfl⟩
    · rw [List.getElem?_set_ne hj] at h
      exact .inr ⟨Ne.symm hj, h⟩
  refine ⟨fun a o h => ?_, fun a o h => ?_, fun j r h => ?_, by rw [List.length_set]; exact s.ln, fun j k v ws zs h1 h2 h3 h4 => ?_⟩
  · rw [upd_ne (ne_of_none h q1)]
    exact s.fh a o h
  · rw [upd_ne (ne_of_none h q2)]
    exact s.bh a o h
  · rcases get j r h with ⟨rfl, rfl⟩ | ⟨hj, h⟩
    · exact ⟨_, hv, b, ys, rfl, q1, q2, upd_same, d⟩
    · obtain ⟨v, h1, h2⟩ := s.ent j r h
      refine ⟨v, h1, ?_⟩
      cases r with
      | val t => exact h2
      | own ws =>
        obtain ⟨c, zs, rfl, r1, r2, r3, r4⟩ := h2
        have hne : c ≠ b := fun z => by
          subst z
          exact hj (s.dj j i _ _ _ h he h1 hv)
        exact ⟨c, zs, rfl, r1, r2, by rw [upd_ne hne]; exact r3, r4⟩
  · rcases get j _ h1 with ⟨rfl, _⟩ | ⟨hj, h1'⟩
    · rcases get k _ h2 with ⟨rfl, _⟩ | ⟨hk, h2'⟩
      · rfl
      · exact s.dj j k v ts zs he h2' h3 h4
    · rcases get k _ h2 with ⟨rfl, _⟩ | ⟨hk, h2'⟩
      · exact s.dj j k v ws ts h1' he h3 h4
      · exact s.dj j k v ws zs h1' h2' h3 h4
/-- x.append(e) -/
def mApp (i : Nat) (m : Mt) : Mv := fun e => match e[i]? with
  | some (some (.own _)) => (m e).bind fun t e1 => match e1[i]? with
    | some (some (.own ts)) => if ts.length < 100000 then .ok (.val .none) (e1.set i (some (.own (ts ++ [t])))) else .bad
    | _ => .bad
  | _ => .bad
theorem x_app {i : Nat} {y : Str} {yp apos : Pos} {m : Mt} (hN : X.N[i]? = some y) (hv : Vis X.env.scope y) (ha : PE X a (tT X.K X.mg W m)) (hd : (y == ("__debug__" : Str)) = false := by decide) (hcd : (y == ("__classdict__" : Str)) = false := by decide)
    (hbase : attributeBase (.Name y yp) "append" X.env (eval (.Name y yp) X.env) = eval (.Name y yp) X.env := by rfl)
    (hfew : ((backTo pos (starEach [a] X.env)).all (fun x => !x.1) && (backToKw pos (keywordEach [] X.env)).all (fun x => x.1.isSome)
      && decide (([a] : List Expr).length + ([] : List Keyword).length + (if ([] : List Keyword).isEmpty then 0 else 1) < 30)) = true := by rfl)
    (hline : (apos.endLine == pos.line) = true := by rfl) (hs : starEach [a] X.env = (false, eval a X.env) :: starEach [] X.env := by rfl) (hplain : (backTo pos (starEach [] X.env)).any (·.1) = false := by rfl) :
    PE X (.Call (.Attribute (.Name y yp) "append" apos) [a] [] pos) (tV X.K X.mg W (mApp i m)) :=
  PE.imp (pe_bm PySem.F.plainAttrs_list PySem.F.slot_list_append PySem.F.type_list_append mt_append (pe_var hN hv hd hcd) (pa_cons ha pa_nil hs) hbase hfew hline hs hplain) fun σ H Q q => by
  obtain ⟨F, B, e, s, p⟩ := q
  unfold mApp at p
  cases hei : e[i]? with
  | none => rw [hei] at p; exact p.elim
  | some o =>
    cases o with
    | none => rw [hei] at p; exact p.elim
    | some r0 =>
      rw [hei] at p
      cases r0 with
      | val t => exact p.elim
      | own ts0 =>
        obtain ⟨v0, hv0, b, xs, rfl, q1, q2, q3, q4⟩ := s.ent i _ hei
        refine ⟨.ref b, hv0, .inl ⟨rfl, xs, .inl (.inl q3)⟩, F, B, e, s, (Post.unbind p).mono fun B1 H1 e1 t s1 g1 p1 v d => ?_⟩
        cases h : e1[i]? with
        | none => rw [h] at p1; exact p1.elim
        | some o1 =>
          cases o1 with
          | none => rw [h] at p1; exact p1.elim
          | some r1 =>
            rw [h] at p1
            cases r1 with
            | val t => exact p1.elim
            | own ts =>
              dsimp only at p1
              by_cases hz : ts.length < 100000
              · rw [if_pos hz] at p1
                obtain ⟨v1, hv1, c, ys, rfl, t1, t2, t3, t4⟩ := s1.ent i _ h
                rw [hv0] at hv1
                cases hv1
                exact ⟨b, ys, v, rfl, rfl, t3, bigL (by rw [t4.len]; exact hz), p1 B1 _ (s1.write h hv0 (t4.app (.one d))) .refl _ ⟨.non, fun _ z => nomatch z⟩⟩
              · rw [if_neg hz] at p1
                exact p1.elim
/-- x.pop() -/
def mPop (i : Nat) : Mt := fun e => match e[i]? with
  | some (some (.own ts)) => match ts[ts.length - 1]? with
    | some t => .ok t (e.set i (some (.own ts.dropLast)))
    | none => .bad
  | _ => .bad
theorem DqAll.dropLast {K : PySem.W.Frag} {H : Hp} {vs : List V} {ds : List T} (h : DqAll K H vs ds) : DqAll K H vs.dropLast ds.dropLast := by
  rw [List.dropLast_eq_take, List.dropLast_eq_take, h.len]
  exact h.take _
theorem x_pop {i : Nat} {y : Str} {yp apos : Pos} (hN : X.N[i]? = some y) (hv : Vis X.env.scope y) (hd : (y == ("__debug__" : Str)) = false := by decide) (hcd : (y == ("__classdict__" : Str)) = false := by decide)
    (hbase : attributeBase (.Name y yp) "pop" X.env (eval (.Name y yp) X.env) = eval (.Name y yp) X.env := by rfl) (hline : (apos.endLine == pos.line) = true := by rfl) :
    PE X (.Call (.Attribute (.Name y yp) "pop" apos) [] [] pos) (tT X.K X.mg W (mPop i)) :=
  PE.imp (pe_bm0 PySem.F.plainAttrs_list PySem.F.slot_list_pop PySem.F.type_list_pop mt_pop (pe_var hN hv hd hcd) hbase hline) fun σ H Q q => by
  obtain ⟨F, B, e, s, p⟩ := q
  unfold mPop at p
  cases hei : e[i]? with
  | none => rw [hei] at p; exact p.elim
  | some o =>
    cases o with
    | none => rw [hei] at p; exact p.elim
    | some r0 =>
      rw [hei] at p
      cases r0 with
      | val t => exact p.elim
      | own ts =>
        obtain ⟨v0, hv0, b, xs, rfl, q1, q2, q3, q4⟩ := s.ent i _ hei
        dsimp only at p
        cases ht : ts[ts.length - 1]? with
        | none => rw [ht] at p; exact p.elim
        | some t =>
          rw [ht] at p
          obtain ⟨v, h1, h2⟩ := q4.get ht
          exact ⟨.ref b, hv0, .inl ⟨rfl, xs, .inl (.inl q3)⟩, b, xs, v, rfl, rfl, q3, by rw [q4.len]; exact h1, p B _ (s.write hei hv0 q4.dropLast) .refl v h2⟩
/-- x[e] = e' -/
def mSetIx (i : Nat) (mi me : Mt) : Ms := fun e => (me e).bind fun t e1 => match e1[i]? with
  | some (some (.own _)) => (mi e1).bind fun j e2 => match e2[i]?, j with
    | some (some (.own ts)), .int j => match ixN ts.length j with
      | some n => .ok .nx (e2.set i (some (.own (ts.set n t))))
      | none => .bad
    | _, _ => .bad
  | _ => .bad
theorem s_setIx {keep : List Nat} {ie : Expr} {i : Nat} {y : Str} {yp spos : Pos} {mi me : Mt} (hN : X.N[i]? = some y) (hv : Vis X.env.scope y) (hi : PE X ie (tT X.K X.mg W mi)) (he : PE X a (tT X.K X.mg W me)) (hd : (y == ("__debug__" : Str)) = false := by decide) (hcd : (y == ("__classdict__" : Str)) = false := by decide)
    (ha : ∀ v, assign (.Subscript (.Name y yp) ie pos) X.env v = (do
      let ov ← holding [v] (eval (.Name y yp) X.env)
      let iv ← holding [v, ov] (eval ie X.env)
      standAt pos
      holding [v, ov, iv] (setItem ov iv v)
      release [v, ov, iv] []) := by intro _; rfl)
    (hs : swapsWithSole [.Subscript (.Name y yp) ie pos] a spos.line X.env = pure false := by rfl) (hw : swappedStores [.Subscript (.Name y yp) ie pos] a X.env = pure none := by rfl) (h1 : (assignEach [.Subscript (.Name y yp) ie pos] X.env).map (·.2) = [assign (.Subscript (.Name y yp) ie pos) X.env] := by rfl) :
    PS X (.Assign [.Subscript (.Name y yp) ie pos] a spos) (tS X.K X.mg W keep (mSetIx i mi me)) := PS.imp (ps_asg he (pg_sub (pe_var hN hv hd hcd) hi set_list ha) hs hw h1) fun D σ H q => by
  obtain ⟨F, B, e, s, p⟩ := q
  refine ⟨F, B, e, s, (PostS.unbind p).mono fun B1 H1 e1 t s1 g1 p1 v d => ?_⟩
  cases hei : e1[i]? with
  | none => rw [hei] at p1; exact p1.elim
  | some o =>
    cases o with
    | none => rw [hei] at p1; exact p1.elim
    | some r0 =>
      rw [hei] at p1
      cases r0 with
      | val t => exact p1.elim
      | own ts0 =>
        obtain ⟨v0, hv0, b, xs, rfl, q1, q2, q3, q4⟩ := s1.ent i _ hei
        refine ⟨.ref b, hv0, F, B1, e1, s1, (PostS.unbind p1).mono fun B2 H2 e2 j s2 g2 p2 jv jd => ?_⟩
        cases h : e2[i]? with
        | none => rw [h] at p2; exact p2.elim
        | some o1 =>
          cases o1 with
          | none => rw [h] at p2; exact p2.elim
          | some r1 =>
            rw [h] at p2
            cases r1 with
            | val t => exact p2.elim
            | own ts =>
              cases j with
              | int j =>
                cases jd
                dsimp only at p2
                cases hn : ixN ts.length j with
                | none => rw [hn] at p2; exact p2.elim
                | some n =>
                  rw [hn] at p2
                  obtain ⟨v1, hv1, c, ys, rfl, t1, t2, t3, t4⟩ := s2.ent i _ h
                  rw [hv0] at hv1
                  cases hv1
                  exact ⟨b, ys, j, n, rfl, rfl, t3, by rw [t4.len]; exact hn, p2 σ B2 _ (s2.write h hv0 (DqAll.set (dq_ex g2.ex _ _ d) n t4)) .refl .refl⟩
              | _ => exact p2.elim
end
end TL
end
section
set_option Elab.async false
set_option linter.all false
set_option autoImplicit false
set_option maxRecDepth 100000
/-! enumerate of a tuple over the layer -/
namespace TL
open PySem PySem.Spec PyProof.Rows L2

set_option maxHeartbeats 1000000 in
theorem meets_enumerate_new1 {v : Value} {o : Obj} {H : Heap → Prop} (B : Begins v o H) :
    Meets (Builtin.«enumerate.__new__» ⟨[.type "enumerate", v], []⟩) (fun _ R s => H s.heap ∧
      R (.ok (.ret (.ref (s.heap.push o).objs.size))) { s with heap := (s.heap.push o).push { cls := .type "enumerate", data := .fields #[.none, .bool false, .ref s.heap.objs.size, rawInt 0, .none, .none] } }) :=
  .of_wp fun prog w A R s h => by
    obtain ⟨hp, g, d, tk, os⟩ := s; obtain ⟨h1, h⟩ := h
    have hsub := sub_enumerate
    have q1 : ∀ {A' : Around} {E : Value → Shared → Prop} {Q : Value → Shared → Prop}, Q (.ref hp.objs.size) ⟨hp.push o, g, d, tk, os⟩ → wpAny (model prog w) A' (pyIter v) Q E ⟨hp, g, d, tk, os⟩ :=
      fun q => B.iter prog w _ _ ⟨hp, g, d, tk, os⟩ _ h1 q
    wp_walk using q1
    refine wpAny_stack_any fun st => wpAny_pure ?_
    split
    · rename_i c _ _ _ _ _
      cases (c == Value.type "enumerate")
      · wp_walk using q1
        exact ⟨_, rfl, h⟩
      · wp_walk using q1
        exact ⟨_, rfl, h⟩
    · wp_walk using q1
      exact ⟨_, rfl, h⟩
section
variable {prog : Program} {w : World} {A : Around} {E : Value → Shared → Prop} {s : Shared}
theorem enum_begins1 {v : Value} {o : Obj} {H : Heap → Prop} {Q : Value → Shared → Prop} (B : Begins v o H) (h1 : H s.heap)
    (h : ∀ h', IsEnum h' (s.heap.objs.size + 1) s.heap.objs.size 0 .none → h'.get? s.heap.objs.size = some o → h'.objs.size = s.heap.objs.size + 2 →
      (∀ b o, s.heap.get? b = some o → h'.get? b = some o) → Q (.ref (s.heap.objs.size + 1)) { s with heap := h' }) :
    wpAny (model prog w) A (call (.type "enumerate") [v]) Q E s := by
  refine callType_new F.called_enumerate (by decide) (F.typeCall_enumerate_1 _) (F.newCall_enumerate_1 _) (fun obj => F.args_object_init_2 obj _) F.entry_enumerate_new
    (meets_enumerate_new1 B) ⟨h1, ?_⟩
  have hz : (s.heap.push o).objs.size = s.heap.objs.size + 1 := Heap.size_push ..
  show _ ∧ _
  rw [hz]
  have he : IsEnum ((s.heap.push o).push { cls := .type "enumerate", data := .fields #[.none, .bool false, .ref s.heap.objs.size, rawInt 0, .none, .none] }) (s.heap.objs.size + 1) s.heap.objs.size 0 .none := by
    have := Heap.get?_push_size (s.heap.push o) (o := { cls := .type "enumerate", data := .fields #[.none, .bool false, .ref s.heap.objs.size, rawInt 0, .none, .none] }) rfl
    rw [hz] at this; exact this
  refine ⟨⟨_, he, rfl⟩, h _ he (Heap.get?_push_of_some _ (Heap.get?_push_size _ B.free)) (by rw [Heap.size_push, hz]) fun b o x => Heap.get?_push_of_some _ (Heap.get?_push_of_some _ x)⟩
end
def IteT (K : PySem.W.Frag) (a : Addr) : It :=
  ⟨fun i H => ∃ (xs : List V) (x : V), SqT K H a xs ∧ xs[i]? = some x, fun i H v H' => ∃ T x, v = .ref T ∧ H T = none ∧ H' = upd H T (.tup [.int (i : Nat), x]) ∧ ∀ xs, SqT K H a xs → xs[i]? = some x, fun i H => ∃ xs : List V, SqT K H a xs ∧ xs.length = i⟩
theorem turn_enumT {P : Program} {w : World} {K : PySem.W.Frag} {elts : List Expr} {kk : Nat} {tpos : Pos} (a e it : Addr) :
    Turn P w K (.Tuple elts kk tpos) (IteT K a) [e, it] e (fun i h => (∃ old, IsEnum h e it ((i : Nat) : Int) old) ∧ h.IsTupleIter it a i ∧ e ≠ it ∧ a ≠ it ∧ a ≠ e) where
  mem := by simp
  obj := fun i h st b hb => by
    obtain ⟨⟨old, he⟩, ⟨o, ho, hc, hd⟩, _⟩ := st
    have e' : b = e ∨ b = it := by simpa using hb
    rcases e' with z | z
    · rw [z]; exact ⟨_, he, fun v q => nomatch q⟩
    · rw [z]; exact ⟨o, ho, fun v q => by rw [hd] at q; cases q⟩
  keep := fun i h h' st k => let ⟨⟨old, he⟩, hi, hne⟩ := st; ⟨⟨old, k e (by simp) _ he⟩, hi.at fun o q => k it (by simp) o q, hne⟩
  item := by
    intro X hP hw hK hc i pins s σ H E I hf st hg
    subst hP hw hK
    obtain ⟨⟨old, he⟩, hit, hne, hat, hae⟩ := st
    obtain ⟨xs, x, hq, hx⟩ := hg
    obtain ⟨its, rv, p, hz⟩ := I.tuple hq
    obtain ⟨u, hu, ru⟩ := rv.get hx
    have hel : e < s.heap.objs.size := Heap.lt_size he
    have hil : it < s.heap.objs.size := by obtain ⟨_, q, _⟩ := hit; exact Heap.lt_size q
    have hlt : i < its.toArray.size := by
      rw [List.size_toArray]
      exact (List.getElem?_eq_some_iff.mp hu).1
    refine wpAny_pyNext_enum_itemD (Draws.tuple (prog := X.prog) (w := X.w) (A := X.A.in1) (I.ok.hd hc) it a hat its.toArray) he ⟨hit, p⟩ hlt hne (by simp only [List.mem_cons, List.not_mem_nil, or_false, not_or]; exact ⟨hne, Ne.symm hae⟩) fun u' h' tk hu' ho hst hT hsz hk => ?_
    have eu : u' = u := by
      have : its[i]? = some u' := by simpa using hu'
      rw [hu] at this
      exact (Option.some.inj this).symm
    subst eu
    refine ⟨_, rfl, wpAny_letOwnedTupleGo_enum (s := { s with heap := h', toks := tk + 1 }) ho fun h'' he' sb => ?_⟩
    have hT2 : h''.get? s.heap.objs.size = some { cls := .type "tuple", data := .seq #[.int i tk, u'] } := (sb.2 _ (Nat.ne_of_gt hel)).trans hT
    have new : ObjOk X.prog X.w (upd H s.heap.objs.size (.tup [.int (i : Nat), x])) h'' s.heap.objs.size (.tup [.int (i : Nat), x]) :=
      ⟨by show 2 ≤ sizeLine; decide, [.int i tk, u'], .cons ⟨_, rfl⟩ (.cons ru .nil), ⟨_, hT2, rfl, _, rfl⟩⟩
    have I1 : Inv X pins σ (upd H s.heap.objs.size (.tup [.int (i : Nat), x])) { s with heap := h'', toks := tk + 1 } :=
      I.turnedNew (ch := [e, it]) (fun b ob hb q => (sb.2 b (fun z => hb (by simp [z]))).trans (hk b ob (fun z => hb (by simp [z])) (fun z => hb (by simp [z])) q)) hf (Nat.le_refl _) new
    refine ⟨.ref s.heap.objs.size, _, I1, rfl, ⟨_, x, rfl, I.hok.fresh (Nat.le_refl _), rfl, fun ys hy => by rw [I.tuple_inj hy hq]; exact hx⟩, ⟨⟨u', ?_⟩, hst.1.at fun o q => (sb.2 it (Ne.symm hne)).trans q, hne, hat, hae⟩, fun b hb => ?_⟩
    · have e1 : ((i + 1 : Nat) : Int) = (i : Int) + 1 := by omega
      rw [e1]; exact he'
    · have hb' : b < s.heap.objs.size := by
        have e' : b = e ∨ b = it := by simpa using hb
        rcases e' with z | z
        · rw [z]; exact hel
        · rw [z]; exact hil
      rw [upd_ne (Nat.ne_of_lt hb')]
      exact (hf b hb).1
  done := by
    intro X hP hw hK hc i pins s σ H E I hf st hg
    subst hP hw hK
    obtain ⟨⟨old, he⟩, hit, hne, hat, hae⟩ := st
    obtain ⟨xs, hq, hx⟩ := hg
    obtain ⟨its, rv, p, hz⟩ := I.tuple hq
    obtain ⟨f0, f1, f2, f3, f4, f5⟩ := hf it (by simp)
    have hl := rv.length
    have hn : its.toArray.size = i := by rw [List.size_toArray]; omega
    refine wpAny_pyNext_enum_endD (Draws.tuple (prog := X.prog) (w := X.w) (A := X.A.in1) (I.ok.hd hc) it a hat its.toArray) he (by rw [hn]; exact ⟨hit, p⟩) fun h' eb => ⟨rfl, I.turned (t' := s.toks) (fun b o hb q => eb b o hb q) f0 f1 f3 f4 f5⟩
  self := fun A i s Q E st h => let ⟨⟨_, he⟩, _⟩ := st; wpAny_pyIter_enum he h
def iEnumT (K : PySem.W.Frag) (ta : TA) : TI := fun σ H R => ta σ H fun vs H1 => ∃ a xs, vs = [.ref a] ∧ SqT K H1 a xs ∧ R (IteT K a) H1
theorem pi_enumT {X : Cx} {e : Expr} {ta : TA} {p pos tpos : Pos} {elts : List Expr} {kk : Nat} (hg : Gl X "enumerate") (hm : X.mg "enumerate" = none) (ha : PA X [e] ta) (hs : starEach [e] X.env = [(false, eval e X.env)] := by rfl) :
    PI X (.Tuple elts kk tpos) (.Call (.Name "enumerate" p) [e] [] pos) (iEnumT X.K ta) := by
  refine ⟨fun pins s σ H R I h => ?_⟩
  refine Call_ (ld_blt I hg hm boot_enumerate (PyProof.Rows.callWith_type1 (thn (ha.run pos pins s σ H _ I h) fun us s1 ⟨vs, H1, I1, r1, q1⟩ => ?_) hs rfl))
  obtain ⟨a, xs, ex, hq, q⟩ := q1
  subst ex
  cases r1 with
  | cons r rr =>
    cases rr
    cases r
    obtain ⟨its, rv, p', hz⟩ := I1.tuple hq
    have hal : a < s1.heap.objs.size := p'.lt
    refine enum_begins1 (begins_tuple a its.toArray) p' fun h' he hit hsz hk => wpAny_pyIter_enum he ?_
    have I2 : Inv X pins σ H1 { s1 with heap := h' } := I1.kept (t' := s1.toks) hk
    refine ⟨s1.heap.objs.size + 1, [s1.heap.objs.size + 1, s1.heap.objs.size], _, _, H1, rfl, I2, turn_enumT a (s1.heap.objs.size + 1) s1.heap.objs.size, ⟨⟨.none, he⟩, ⟨_, hit, rfl, rfl⟩, Nat.succ_ne_self _, Nat.ne_of_lt hal, Nat.ne_of_lt (Nat.lt_succ_of_lt hal)⟩, fun b hb => ?_, q⟩
    have e' : b = s1.heap.objs.size + 1 ∨ b = s1.heap.objs.size := by simpa using hb
    have hle : s1.heap.objs.size ≤ b := by
      rcases e' with z | z
      · rw [z]; exact Nat.le_add_right _ _
      · rw [z]; exact Nat.le_refl _
    exact I1.fpOk hle (I1.hok.fresh hle)
end TL
end
section
set_option Elab.async false
set_option linter.all false
set_option autoImplicit false
set_option maxRecDepth 100000
namespace TL
open PySem PySem.Spec PyProof.Rows L2

/-! ### arithmetic -/
def small (i : Int) : Bool := decide (i.natAbs.log2 < 8000)
def fAdd : T → T → Option RV
  | .int i, .int j => some (.val (.int (i + j)))
  | .tuple xs, .tuple ys => if xs.length + ys.length ≤ 100000 then some (.val (.tuple (xs ++ ys))) else none
  | .list xs, .list ys => if xs.length + ys.length ≤ 100000 then some (.own (xs ++ ys)) else none
  | _, _ => none
def fSub : T → T → Option RV
  | .int i, .int j => some (.val (.int (i - j)))
  | _, _ => none
def fMul : T → T → Option RV
  | .int i, .int j => if small i && small j then some (.val (.int (i * j))) else none
  | _, _ => none
def fDiv : T → T → Option RV
  | .int i, .int j => if 0 < j && small j then some (.val (.int (i / j))) else none
  | _, _ => none
def fMod : T → T → Option RV
  | .int i, .int j => if 0 < j then some (.val (.int (i % j))) else none
  | _, _ => none
def fPow : T → T → Option RV
  | .int i, .int j => if 0 ≤ j ∧ j ≤ 4000 ∧ i.natAbs < 2 ^ 64 then some (.val (.int (i ^ j.toNat))) else none
  | _, _ => none
def fNeg : T → Option RV
  | .int i => some (.val (.int (-i)))
  | _ => none
section
variable {X : Cx} {K : PySem.W.Frag}
theorem int2 {f : T → T → Option RV} {C : Int → Int → Prop} {g : Int → Int → T} {gv : Int → Int → V} (hg : ∀ i j B, Dq K B (gv i j) (g i j)) (h : ∀ t u z, f t u = some z → ∃ i j, t = .int i ∧ u = .int j ∧ C i j ∧ z = .val (g i j)) : Op2 K f (rI C gv) :=
  fun x y t u z B H Q ex d1 d2 hf k => by
  obtain ⟨i, j, rfl, rfl, hc, rfl⟩ := h t u z hf
  cases d1
  cases d2
  exact ⟨i, j, rfl, rfl, hc, k _ B H (.val ex (hg i j B))⟩
theorem Op2.or1 {f : T → T → Option RV} {r r' : R2} (h : Op2 K f r) : Op2 K f (fun x y H Q => r x y H Q ∨ r' x y H Q) := fun x y t u z B H Q ex d1 d2 hf k => .inl (h x y t u z B H Q ex d1 d2 hf k)
/-- list + list, list * int: tracked or locked -/
def rCatL : R2 := fun x y H Q => ∃ l b xs zs, x = .ref l ∧ y = .ref b ∧ Rd H l (.lst xs) ∧ Rd H b (.lst zs) ∧ xs.length + zs.length ≤ sizeLine ∧ ∀ p, H p = none → Q (.ref p) (upd H p (.lst (xs ++ zs)))
theorem layL {pins : List (Addr × Obj)} {σ : L2.St} {H : Hp} {s : Shared} {us : List Value} {xs : List V} (I : Inv X pins σ H s) (r : Vals xs us) (hz : xs.length ≤ sizeLine) :
    Inv X pins σ (upd H s.heap.objs.size (.lst xs)) { s with heap := s.heap.push { cls := .type "list", data := .seq us.toArray } } :=
  I.laid (t' := s.toks) (fun b u e => Heap.get?_push_of_some _ e) (Nat.le_refl _) ⟨hz, us, 0, r, Heap.get?_push_size _ rfl⟩
theorem op_catL : OpR X (binaryOp .Add) rCatL := by
  intro pins s σ H x y v u Q I rx ry h
  obtain ⟨l, b, xs, zs, rfl, rfl, h1, h2, hz, q⟩ := h
  obtain ⟨_, us, n, r1, e1⟩ := h1.ok I.hok
  obtain ⟨_, ws, m, r2, e2⟩ := h2.ok I.hok
  cases rx
  cases ry
  have hl := (r1.append r2).length
  refine PySem.P.add_list e1 e2 ?_ (by simp only [List.size_toArray]; rw [List.length_append, List.length_append] at hl; omega)
  rw [List.append_toArray]
  exact ⟨.ref _, _, layL I (r1.append r2) (by rw [List.length_append]; exact hz), rfl, q _ (I.hok.fresh (Nat.le_refl _))⟩
def rCatX (K : PySem.W.Frag) : R2 := fun x y H Q => ∃ a b xs ys, x = .ref a ∧ y = .ref b ∧ SqT K H a xs ∧ SqT K H b ys ∧ xs.length + ys.length ≤ sizeLine ∧
  (xs = [] → Q (.ref b) H) ∧ (ys = [] → Q (.ref a) H) ∧ ∀ p o, H p = none → Bare1 o → Q (.ref p) (upd H p (.frz o (.tup (xs ++ ys))))
theorem op_catX : OpR X (binaryOp .Add) (rCatX X.K) := by
  intro pins s σ H x y v u Q I rx ry h
  obtain ⟨a, b, xs, ys, rfl, rfl, h1, h2, hz, q0, q1, q2⟩ := h
  by_cases hx : xs = []
  · exact op_catA pins s σ H _ _ v u Q I rx ry ⟨a, b, xs, ys, rfl, rfl, h1, h2, hz, fun _ => q0 hx, fun z => absurd hx z, fun z => absurd hx z⟩
  · obtain ⟨us, r1, p1, _⟩ := I.tuple h1
    obtain ⟨ws, r2, p2, _⟩ := I.tuple h2
    cases rx
    cases ry
    have hl := (r1.append r2).length
    refine HT.cat_tup p1 p2 (fun z => hx (r1.nil_iff.mp z)) (fun z => ⟨.ref a, H, I, rfl, q1 (r2.nil_iff.mp z)⟩) (fun z => ?_) (by rw [List.length_append, List.length_append] at hl; omega)
    exact ⟨.ref _, _, Inv.layX I (r1.append r2) (by rw [List.length_append]; exact hz), rfl, q2 _ _ (I.hok.fresh (Nat.le_refl _)) ⟨rfl, rfl⟩⟩
theorem o_add : OpR X (binaryOp .Add) (fun x y H Q => rI0 (fun i j => .int (i + j)) x y H Q ∨ rCatL x y H Q ∨ rCatX X.K x y H Q) := op_add.or (op_catL.or op_catX)
theorem f_add : Op2 X.K fAdd (fun x y H Q => rI0 (fun i j => .int (i + j)) x y H Q ∨ rCatL x y H Q ∨ rCatX X.K x y H Q) := fun x y t u z B H Q ex d1 d2 hf k => by
  unfold fAdd at hf
  split at hf
  · cases hf
    cases d1
    cases d2
    exact .inl ⟨_, _, rfl, rfl, k _ B H (.val ex (.int _))⟩
  · split at hf
    · rename_i hz
      cases hf
      cases d1 with
      | tup s1 a1 =>
        cases d2 with
        | tup s2 a2 =>
          refine .inr (.inr ⟨_, _, _, _, rfl, rfl, ex_t ex s1.t, ex_t ex s2.t, big (by rw [a1.len, a2.len]; exact hz), fun e => ?_, fun e => ?_, fun p o hp hb => k _ _ _ (.tup ex hp hb (a1.app a2))⟩)
          · subst e
            have := a1.len
            cases a1
            exact k _ B H (.val ex (.tup s2 a2))
          · subst e
            cases a2
            rw [List.append_nil] at k
            exact k _ B H (.val ex (.tup s1 a1))
    · cases hf
  · split at hf
    · rename_i hz
      cases hf
      cases d1 with
      | lst s1 a1 =>
        cases d2 with
        | lst s2 a2 => exact .inr (.inl ⟨_, _, _, _, rfl, rfl, ex_rd ex s1, ex_rd ex s2, big (by rw [a1.len, a2.len]; exact hz), fun p hp => k _ _ _ (.lst ex hp (a1.app a2))⟩)
    · cases hf
  · cases hf
theorem f_sub : Op2 X.K fSub (rI0 fun i j => .int (i - j)) := fun x y t u z B H Q ex d1 d2 hf k => by
  unfold fSub at hf
  split at hf
  · cases hf
    cases d1
    cases d2
    exact ⟨_, _, rfl, rfl, k _ B H (.val ex (.int _))⟩
  · cases hf
theorem f_mul : Op2 X.K fMul (rI CMulW fun i j => .int (i * j)) := fun x y t u z B H Q ex d1 d2 hf k => by
  unfold fMul at hf
  split at hf
  · split at hf
    · rename_i hs
      cases hf
      cases d1
      cases d2
      rw [Bool.and_eq_true] at hs
      have h1 := of_decide_eq_true hs.1
      have h2 := of_decide_eq_true hs.2
      exact ⟨_, _, rfl, rfl, by unfold CMulW; omega, k _ B H (.val ex (.int _))⟩
    · cases hf
  · cases hf
/-- a new list, guarded while something else is reckoned -/
theorem Sta.guard {K : PySem.W.Frag} {F B H : Hp} {σ : L2.St} {e : En} {a : Addr} {xs : List V} {ts : List T} (s : Sta K F B H σ e) (o : RvOk K F B H σ e (.ref a) (.own ts)) (hh : H a = some (.lst xs)) : Sta K (upd F a (.lst xs)) B H σ e := by
  obtain ⟨⟨a', xs', e', hf, hb, hh', hd⟩, hn⟩ := o
  cases e'
  refine ⟨fun b u q => ?_, s.bh, fun i r h => ?_, s.ln, s.dj⟩
  · by_cases hba : b = a
    · subst hba
      rw [upd_same] at q
      cases q
      exact hh
    · rw [upd_ne hba] at q
      exact s.fh b u q
  · obtain ⟨v, h1, h2⟩ := s.ent i r h
    refine ⟨v, h1, ?_⟩
    cases r with
    | val t => exact h2
    | own us =>
      obtain ⟨c, ys, rfl, q1, q2, q3, q4⟩ := h2
      have hne : c ≠ a := fun z => by
        subst z
        exact hn ts rfl i us h h1
      exact ⟨c, ys, rfl, by rw [upd_ne hne]; exact q1, q2, q3, q4⟩
theorem Sta.free {K : PySem.W.Frag} {F B H : Hp} {σ : L2.St} {e : En} {a : Addr} {o : HO} (s : Sta K (upd F a o) B H σ e) (hf : F a = none) : Sta K F B H σ e := by
  refine ⟨fun b u q => s.fh b u (by rw [upd_ne (ne_of_none q hf)]; exact q), s.bh, fun i r h => ?_, s.ln, s.dj⟩
  obtain ⟨v, h1, h2⟩ := s.ent i r h
  refine ⟨v, h1, ?_⟩
  cases r with
  | val t => exact h2
  | own us =>
    obtain ⟨c, ys, rfl, q1, q2, q3, q4⟩ := h2
    by_cases hca : c = a
    · rw [hca, upd_same] at q1
      cases q1
    · exact ⟨c, ys, rfl, by rw [upd_ne hca] at q1; exact q1, q2, q3, q4⟩
theorem Grow.free {F B B' : Hp} {a : Addr} {o : HO} (g : Grow (upd F a o) B B') (hf : F a = Option.none) : Grow F B B' := ⟨g.ex, fun b h1 h2 => by
  by_cases hba : b = a
  · rw [hba]; exact hf
  · have := g.new b h1 h2
    rw [upd_ne hba] at this
    exact this⟩
/-- [..] * k -/
def mRep (ma : Mv) (mb : Mt) : Mv := fun e => (ma e).bind fun r e1 => match r with
  | .own ts => (mb e1).bind fun u e2 => match u with
    | .int k => if 0 ≤ k ∧ k ≤ 100000 ∧ ts.length * k.toNat ≤ 100000 then .ok (.own (List.replicate k.toNat ts).flatten) e2 else .bad
    | _ => .bad
  | _ => .bad
theorem dq_rep {K : PySem.W.Frag} {B : Hp} {xs : List V} {ts : List T} (d : DqAll K B xs ts) : ∀ n : Nat, DqAll K B (List.replicate n xs).flatten (List.replicate n ts).flatten
  | 0 => .nil
  | n + 1 => by
    rw [List.replicate_succ, List.replicate_succ, List.flatten_cons, List.flatten_cons]
    exact d.app (dq_rep d n)
theorem x_rep {W : WX} {a b : Expr} {pos : Pos} {ma : Mv} {mb : Mt} (ha : PE X a (tV X.K X.mg W ma)) (hb : PE X b (tT X.K X.mg W mb)) : PE X (.BinOp a .Mult b pos) (tV X.K X.mg W (mRep ma mb)) := PE.imp (pe_op op_rep ha hb) fun σ H Q q => by
  obtain ⟨F, B, e, s, p⟩ := q
  refine ⟨F, B, e, s, (Post.unbind p).mono fun B1 H1 e1 r s1 g1 p1 v o => ?_⟩
  cases r with
  | val t => exact p1.elim
  | own ts =>
    obtain ⟨c, xs, rfl, q1, q2, q3, q4⟩ := id o.1
    refine ⟨upd F c (.lst xs), B1, e1, s1.guard o q3, ?_⟩
    dsimp only at p1
    cases hm : mb e1 with
    | ok u e2 =>
      rw [hm] at p1
      intro B2 H2 s2 g2 w d
      cases u with
      | int k =>
        cases d
        have p1' := p1
        dsimp only [Res.bind] at p1'
        by_cases hk : 0 ≤ k ∧ k ≤ 100000 ∧ ts.length * k.toNat ≤ 100000
        · rw [if_pos hk] at p1'
          have s3 := s2.free q1
          have g3 := g2.free q1
          refine ⟨c, k, xs, rfl, rfl, s2.fh c _ upd_same, by omega, by omega, big (by rw [q4.len]; exact hk.2.2), fun p hp => ?_⟩
          obtain ⟨s4, g4, o4⟩ := (NewOk.lst s3.bh hp (dq_rep (dqs_ex g3.ex _ _ q4) k.toNat)).rv s3
          exact p1' _ _ s4 (g3.trans g4) _ o4
        · rw [if_neg hk] at p1'
          exact p1'.elim
      | _ => exact p1.elim
    | exc x e2 =>
      rw [hm] at p1
      exact fun cc dd B2 H2 s2 g2 xo => p1 cc dd B2 H2 (s2.free q1) (g2.free q1) xo
    | bad => rw [hm] at p1; exact p1.elim
theorem f_div : Op2 X.K fDiv (rI CDivW fun i j => .int (i / j)) := fun x y t u z B H Q ex d1 d2 hf k => by
  unfold fDiv at hf
  split at hf
  · split at hf
    · rename_i hs
      cases hf
      cases d1
      cases d2
      rw [Bool.and_eq_true] at hs
      have h1 := of_decide_eq_true hs.1
      have h2 := of_decide_eq_true hs.2
      exact ⟨_, _, rfl, rfl, ⟨h1, by omega⟩, k _ B H (.val ex (.int _))⟩
    · cases hf
  · cases hf
theorem f_mod : Op2 X.K fMod (rI (fun _ j => 0 < j) fun i j => .int (i % j)) := fun x y t u z B H Q ex d1 d2 hf k => by
  unfold fMod at hf
  split at hf
  · split at hf
    · cases hf
      cases d1
      cases d2
      exact ⟨_, _, rfl, rfl, by assumption, k _ B H (.val ex (.int _))⟩
    · cases hf
  · cases hf
theorem f_pow : Op2 X.K fPow (rI CPow fun i j => .int (i ^ j.toNat)) := fun x y t u z B H Q ex d1 d2 hf k => by
  unfold fPow at hf
  split at hf
  · split at hf
    · rename_i h
      cases hf
      cases d1
      cases d2
      exact ⟨_, _, rfl, rfl, ⟨h.1, by omega, h.2.2⟩, k _ B H (.val ex (.int _))⟩
    · cases hf
  · cases hf
theorem f_neg : Op1 X.K fNeg (rU fun i => .int (-i)) := fun x t z B H Q ex d hf k => by
  unfold fNeg at hf
  split at hf
  · cases hf
    cases d
    exact ⟨_, rfl, k _ B H (.val ex (.int _))⟩
  · cases hf

/-! ### comparisons -/
def fCmp (p : Int → Int → Bool) : T → T → Option RV
  | .int i, .int j => some (.val (.bool (p i j)))
  | _, _ => none
theorem f_cmp {p : Int → Int → Bool} : Op2 X.K (fCmp p) (rI0 fun i j => .bl (p i j)) := fun x y t u z B H Q ex d1 d2 hf k => by
  unfold fCmp at hf
  split at hf
  · cases hf
    cases d1
    cases d2
    exact ⟨_, _, rfl, rfl, k _ B H (.val ex (.bl _))⟩
  · cases hf
abbrev fLt := fCmp fun i j => decide (i < j)
abbrev fLe := fCmp fun i j => decide (i ≤ j)
abbrev fGt := fCmp fun i j => decide (j < i)
abbrev fGe := fCmp fun i j => decide (j ≤ i)
/-- == of two of one kind -/
def same : T → T → Option Bool
  | .none, .none => some true
  | .bool a, .bool b => some (decide (a = b))
  | .int i, .int j => some (decide (i = j))
  | .str a, .str b => some (decide (a = b))
  | .tuple xs, .tuple ys => if noDict (.tuple xs) && noDict (.tuple ys) && SeqAt.shaped (.tuple xs) && SeqAt.shaped (.tuple ys) then some (PyData.eqv (.tuple xs) (.tuple ys)) else none
  | .list xs, .list ys => if noDict (.list xs) && noDict (.list ys) && SeqAt.shaped (.list xs) && SeqAt.shaped (.list ys) then some (PyData.eqv (.list xs) (.list ys)) else none
  | _, _ => none
def fEq (t u : T) : Option RV := (same t u).map fun b => .val (.bool b)
def fNe (t u : T) : Option RV := (same t u).map fun b => .val (.bool (!b))
theorem same_ok {t u : T} {b : Bool} {x y : V} {B H : Hp} {K : PySem.W.Frag} (ex : Ex B H) (h : same t u = some b) (d1 : Dq K B x t) (d2 : Dq K B y u) :
    (scal x y = true ∧ decide (x = y) = b) ∨ ∃ d e, Dp K H x d ∧ Dp K H y e ∧ SeqAt.shaped d = true ∧ SeqAt.shaped e = true ∧ PyData.eqv d e = b := by
  unfold same at h
  split at h
  · cases h
    cases d1
    cases d2
    exact .inl ⟨rfl, rfl⟩
  · rename_i p q
    cases h
    cases d1
    cases d2
    refine .inl ⟨rfl, ?_⟩
    cases p <;> cases q <;> rfl
  · rename_i p q
    cases h
    cases d1
    cases d2
    refine .inl ⟨rfl, ?_⟩
    by_cases e : p = q
    · subst e
      rw [decide_eq_true rfl, decide_eq_true rfl]
    · rw [decide_eq_false e, decide_eq_false fun z => e (V.int.inj z)]
  · rename_i p q
    cases h
    cases d1
    cases d2
    refine .inl ⟨rfl, ?_⟩
    by_cases e : p = q
    · subst e
      rw [decide_eq_true rfl, decide_eq_true rfl]
    · rw [decide_eq_false e, decide_eq_false fun z => e (V.str.inj z)]
  · split at h
    · rename_i hs
      cases h
      simp only [Bool.and_eq_true] at hs
      exact .inr ⟨_, _, dq_dp _ _ hs.1.1.1 (dq_ex ex _ _ d1), dq_dp _ _ hs.1.1.2 (dq_ex ex _ _ d2), hs.1.2, hs.2, rfl⟩
    · cases h
  · split at h
    · rename_i hs
      cases h
      simp only [Bool.and_eq_true] at hs
      exact .inr ⟨_, _, dq_dp _ _ hs.1.1.1 (dq_ex ex _ _ d1), dq_dp _ _ hs.1.1.2 (dq_ex ex _ _ d2), hs.1.2, hs.2, rfl⟩
    · cases h
  · cases h
theorem f_eq : Op2 X.K fEq (fun x y H Q => rEq x y H Q ∨ rEqD X.K x y H Q) := fun x y t u z B H Q ex d1 d2 hf k => by
  unfold fEq at hf
  cases hs : same t u with
  | none => rw [hs] at hf; cases hf
  | some b =>
    rw [hs] at hf
    cases hf
    have fin := k (.bl b) B H (.val ex (.bl b))
    rcases same_ok ex hs d1 d2 with ⟨h1, h2⟩ | ⟨d, e, h1, h2, h3, h4, h5⟩
    · exact .inl ⟨h1, by rw [h2]; exact fin⟩
    · exact .inr ⟨d, e, h1, h2, h3, h4, by rw [h5]; exact fin⟩
theorem f_ne : Op2 X.K fNe (fun x y H Q => rNe x y H Q ∨ rNeD X.K x y H Q) := fun x y t u z B H Q ex d1 d2 hf k => by
  unfold fNe at hf
  cases hs : same t u with
  | none => rw [hs] at hf; cases hf
  | some b =>
    rw [hs] at hf
    cases hf
    have fin := k (.bl (!b)) B H (.val ex (.bl (!b)))
    rcases same_ok ex hs d1 d2 with ⟨h1, h2⟩ | ⟨d, e, h1, h2, h3, h4, h5⟩
    · exact .inl ⟨h1, by rw [h2]; exact fin⟩
    · exact .inr ⟨d, e, h1, h2, h3, h4, by rw [h5]; exact fin⟩
/-- is of None, of a bool -/
def isT : T → T → Option Bool
  | .none, .none => some true
  | .bool a, .bool b => some (decide (a = b))
  | _, .none => some false
  | _, .bool _ => some false
  | _, _ => none
def fIs (t u : T) : Option RV := (isT t u).map fun b => .val (.bool b)
def fIsN (t u : T) : Option RV := (isT t u).map fun b => .val (.bool (!b))
def rIsG : R2 := fun x y H Q => (y = .non ∨ ∃ b, y = .bl b) ∧ Q (.bl (decide (x = y))) H
def rIsGN : R2 := fun x y H Q => (y = .non ∨ ∃ b, y = .bl b) ∧ Q (.bl (!decide (x = y))) H
theorem isB {x : V} {v : Value} {b : Bool} (r : RelV x v) : (v == Value.bool b) = decide (x = .bl b) := by
  cases x with
  | bl c => cases r; cases b <;> cases c <;> rfl
  | non => cases r; rfl
  | int i => obtain ⟨t, rfl⟩ := r; rfl
  | str i => obtain ⟨t, rfl⟩ := r; rfl
  | byt i => obtain ⟨t, rfl⟩ := r; rfl
  | flt i => obtain ⟨t, rfl⟩ := r; rfl
  | ref a => cases r; rfl
  | ty n => cases r; rfl
theorem op_isG : OpR X (compareOp .Is) rIsG := by
  intro pins s σ H x y v u Q I rx ry h
  obtain ⟨rfl | ⟨b, rfl⟩, q⟩ := h
  · cases ry
    exact is_none_gen ⟨.bl _, H, I, by rw [rx.none_iff]; rfl, q⟩
  · cases ry
    have z : EP X pins σ Q (.bool (v == Value.bool b)) s := ⟨.bl _, H, I, by rw [isB rx]; rfl, q⟩
    cases x with
    | ref a => cases rx; exact wpAny_pure z
    | ty n => cases rx; exact wpAny_pure z
    | non => cases rx; exact wpAny_pure z
    | bl c => cases rx; exact wpAny_pure z
    | int i => obtain ⟨t, rfl⟩ := rx; exact wpAny_pure z
    | str i => obtain ⟨t, rfl⟩ := rx; exact wpAny_pure z
    | byt i => obtain ⟨t, rfl⟩ := rx; exact wpAny_pure z
    | flt i => obtain ⟨t, rfl⟩ := rx; exact wpAny_pure z
theorem op_isGN : OpR X (compareOp .IsNot) rIsGN := by
  intro pins s σ H x y v u Q I rx ry h
  obtain ⟨rfl | ⟨b, rfl⟩, q⟩ := h
  · cases ry
    exact isnot_none_gen ⟨.bl _, H, I, by rw [rx.none_iff]; rfl, q⟩
  · cases ry
    have z : EP X pins σ Q (.bool (!(v == Value.bool b))) s := ⟨.bl _, H, I, by rw [isB rx]; rfl, q⟩
    cases x with
    | ref a => cases rx; exact wpAny_pure z
    | ty n => cases rx; exact wpAny_pure z
    | non => cases rx; exact wpAny_pure z
    | bl c => cases rx; exact wpAny_pure z
    | int i => obtain ⟨t, rfl⟩ := rx; exact wpAny_pure z
    | str i => obtain ⟨t, rfl⟩ := rx; exact wpAny_pure z
    | byt i => obtain ⟨t, rfl⟩ := rx; exact wpAny_pure z
    | flt i => obtain ⟨t, rfl⟩ := rx; exact wpAny_pure z
theorem isT_ok {t u : T} {b : Bool} {x y : V} {B : Hp} {K : PySem.W.Frag} (h : isT t u = some b) (d1 : Dq K B x t) (d2 : Dq K B y u) : (y = .non ∨ ∃ b, y = .bl b) ∧ decide (x = y) = b := by
  unfold isT at h
  split at h
  · cases h; cases d1; cases d2; exact ⟨.inl rfl, rfl⟩
  · rename_i p q
    cases h; cases d1; cases d2
    refine ⟨.inr ⟨_, rfl⟩, ?_⟩
    cases p <;> cases q <;> rfl
  · rename_i hn
    cases h; cases d2
    refine ⟨.inl rfl, decide_eq_false fun z => ?_⟩
    subst z
    cases d1
    exact hn rfl
  · rename_i hn
    cases h; cases d2
    refine ⟨.inr ⟨_, rfl⟩, decide_eq_false fun z => ?_⟩
    subst z
    cases d1
    exact hn _ rfl
  · cases h
theorem f_is : Op2 X.K fIs rIsG := fun x y t u z B H Q ex d1 d2 hf k => by
  unfold fIs at hf
  cases hs : isT t u with
  | none => rw [hs] at hf; cases hf
  | some b =>
    rw [hs] at hf
    cases hf
    obtain ⟨h1, h2⟩ := isT_ok hs d1 d2
    exact ⟨h1, by rw [h2]; exact k _ B H (.val ex (.bl _))⟩
theorem f_isN : Op2 X.K fIsN rIsGN := fun x y t u z B H Q ex d1 d2 hf k => by
  unfold fIsN at hf
  cases hs : isT t u with
  | none => rw [hs] at hf; cases hf
  | some b =>
    rw [hs] at hf
    cases hf
    obtain ⟨h1, h2⟩ := isT_ok hs d1 d2
    exact ⟨h1, by rw [h2]; exact k _ B H (.val ex (.bl _))⟩
/-! ### a list, a tuple by place -/
def fIx : T → T → Option RV
  | .list ts, .int j => (atI ts j).map .val
  | .tuple ts, .int j => (atI ts j).map .val
  | _, _ => none
theorem f_ix : Op2 X.K fIx (fun x y H Q => rIxL X.K x y H Q ∨ rIxT X.K x y H Q) := fun x y t u z B H Q ex d1 d2 hf k => by
  unfold fIx at hf
  split at hf
  · rename_i ts j
    cases d2
    cases d1 with
    | lst hs ha =>
      cases h : atI ts j with
      | none => rw [h] at hf; cases hf
      | some w =>
        rw [h] at hf
        cases hf
        obtain ⟨v, h1, h2⟩ := atI_rel ha h
        exact .inl ⟨_, _, _, v, rfl, rfl, .inl (ex_rd ex hs), h1, k v B H (.val ex h2)⟩
  · rename_i ts j
    cases d2
    cases d1 with
    | tup hs ha =>
      cases h : atI ts j with
      | none => rw [h] at hf; cases hf
      | some w =>
        rw [h] at hf
        cases hf
        obtain ⟨v, h1, h2⟩ := atI_rel ha h
        exact .inr ⟨_, _, _, v, rfl, rfl, ex_t ex hs.t, h1, k v B H (.val ex h2)⟩
  · cases hf
end
end TL
end
section
set_option Elab.async false
set_option linter.all false
set_option autoImplicit false
set_option maxRecDepth 100000
namespace TL
open PySem PySem.Spec PyProof.Rows L2

/-! ### isinstance -/
inductive Ty where
  | int | bool | tup | str | lst
  deriving DecidableEq
def Ty.name : Ty → String
  | .int => "int"
  | .bool => "bool"
  | .tup => "tuple"
  | .str => "str"
  | .lst => "list"
def isK : Ty → T → Option Bool
  | .int, .int _ => some true
  | .int, .bool _ => some true
  | .bool, .bool _ => some true
  | .tup, .tuple _ => some true
  | .str, .str _ => some true
  | .lst, .list _ => some true
  | _, .dict _ => none
  | _, _ => some false
theorem isK_ok {K : PySem.W.Frag} {B H : Hp} {x : V} {t : T} {y : Ty} {b : Bool} (ex : Ex B H) (d : Dq K B x t) (h : isK y t = some b) : ∃ u, TyX K H x u ∧ PySem.W.kitOne K u (.type y.name) = some b := by
  cases t with
  | dict kvs => cases y <;> cases h
  | none => cases d; exact ⟨_, .base .non, by cases y <;> cases h <;> exact kit_ty (by decide +kernel)⟩
  | bool c => cases d; exact ⟨_, .base (.bl c), by cases y <;> cases h <;> exact kit_ty (by decide +kernel)⟩
  | int c => cases d; exact ⟨_, .base (.int c), by cases y <;> cases h <;> exact kit_ty (by decide +kernel)⟩
  | str c => cases d; exact ⟨_, .base (.str c), by cases y <;> cases h <;> exact kit_ty (by decide +kernel)⟩
  | list ts =>
    cases d with
    | lst hs ha =>
      have kk : PySem.W.kitOne K (.type "list") (.type y.name) = some b := by cases y <;> cases h <;> exact kit_ty (by decide +kernel)
      rcases ex_rd ex hs with q | ⟨o, q⟩
      · exact ⟨_, .base (.lst q), kk⟩
      · exact ⟨_, .base (.frz q), kk⟩
  | tuple ts =>
    cases d with
    | tup hs ha =>
      have kk : PySem.W.kitOne K (.type "tuple") (.type y.name) = some b := by cases y <;> cases h <;> exact kit_ty (by decide +kernel)
      rcases ex_x ex hs with ⟨o, q, _⟩ | ⟨o, its, n, q, c, _⟩
      · exact ⟨_, .fTuple q, kk⟩
      · exact ⟨_, .kTuple q c.1, kk⟩
def mIsi (y : Ty) (m : Mt) : Mt := fun e => (m e).bind fun t e1 => match isK y t with
  | some b => .ok (.bool b) e1
  | none => .bad
section
variable {X : Cx} {W : WX} {a b c : Expr} {pos p q : Pos}
theorem bootT (y : Ty) : bootBuiltins y.name = some (.type y.name) := by cases y <;> decide +kernel
theorem x_isi {y : Ty} {m : Mt} (hg : Gl X "isinstance") (hm : X.mg "isinstance" = none) (hg2 : Gl X y.name) (hm2 : X.mg y.name = none) (ha : PE X a (tT X.K X.mg W m))
    (he : starEach [a, .Name y.name q] X.env = (false, eval a X.env) :: starEach [.Name y.name q] X.env := by rfl) (hpl : (backTo pos (starEach [.Name y.name q] X.env)).any (·.1) = false := by rfl) :
    PE X (.Call (.Name "isinstance" p) [a, .Name y.name q] [] pos) (tT X.K X.mg W (mIsi y m)) :=
  PE.imp (pe_callB call_isi hg hm (by decide +kernel) (pa_cons ha (pa_cons (pe_bltn hg2 hm2 (bootT y) (v := .ty y.name) rfl (by cases y <;> decide) (by cases y <;> decide)) pa_nil (by rfl)) he) (by decide) (by decide) he hpl) fun σ H Q q => by
  obtain ⟨F, B, e, s, p⟩ := q
  refine ⟨F, B, e, s, (Post.unbind p).mono fun B1 H1 e1 t s1 g1 p1 v d => ?_⟩
  cases h : isK y t with
  | none => rw [h] at p1; exact p1.elim
  | some b =>
    rw [h] at p1
    obtain ⟨u, h1, h2⟩ := isK_ok s1.bh d h
    exact ⟨v, .ty y.name, u, .type y.name, b, rfl, .ty _, h1, h2, p1 B1 H1 s1 .refl _ (.bl b)⟩

/-! ### built-ins -/
def fLen : List T → Option RV
  | [t] => (items t).map fun ts => .val (.int (ts.length : Int))
  | _ => none
theorem f_len : OpN X.K fLen (fun xs H Q => ∃ p ys, xs = [.ref p] ∧ (SqL X.K H p ys ∨ SqT X.K H p ys) ∧ Q (.int ys.length) H) := fun xs ts z B H Q ex d hf k => by
  unfold fLen at hf
  split at hf
  · rename_i t
    cases d with
    | cons d dn =>
      cases dn
      cases h : items t with
      | none => rw [h] at hf; cases hf
      | some us =>
        rw [h] at hf
        cases hf
        obtain ⟨a, ys, rfl, da, sq⟩ := items_ok d h
        refine ⟨a, ys, rfl, sq.elim (fun f => .inl (f H ex)) (fun f => .inr (f H ex)), ?_⟩
        rw [da.len]
        exact k _ B H (.val ex (.int _))
  · cases hf
def fList : List T → Option RV
  | [.list ts] => some (.own ts)
  | [.tuple ts] => some (.own ts)
  | _ => none
theorem f_list : OpN X.K fList (fun xs H Q => ∃ p ys, xs = [.ref p] ∧ (SqL X.K H p ys ∨ SqT X.K H p ys) ∧ ∀ l, H l = none → Q (.ref l) (upd H l (.lst ys))) := fun xs ts z B H Q ex d hf k => by
  unfold fList at hf
  split at hf
  · cases hf
    cases d with
    | cons d dn =>
      cases dn
      cases d with
      | lst hs ha => exact ⟨_, _, rfl, .inl (.inl (ex_rd ex hs)), fun l hl => k _ _ _ (.lst ex hl ha)⟩
  · cases hf
    cases d with
    | cons d dn =>
      cases dn
      cases d with
      | tup hs ha => exact ⟨_, _, rfl, .inr (ex_t ex hs.t), fun l hl => k _ _ _ (.lst ex hl ha)⟩
  · cases hf
def fTuple : List T → Option RV
  | [.list ts] => some (.val (.tuple ts))
  | [.tuple ts] => some (.val (.tuple ts))
  | _ => none
def rTupX (K : PySem.W.Frag) : List V → Hp → VK → Prop := fun xs H Q => ∃ p ys, xs = [.ref p] ∧ ((SqL K H p ys ∧ ∀ l o, H l = none → Bare1 o → Q (.ref l) (upd H l (.frz o (.tup ys)))) ∨ (SqT K H p ys ∧ Q (.ref p) H))
theorem call_tupX : CallR X (.type "tuple") (rTupX X.K) := by
  intro pins s σ H xs us Q I r h
  obtain ⟨l, ys, rfl, ⟨hq, k⟩ | ⟨hq, k⟩⟩ := h
  · obtain ⟨u, rfl, rx⟩ := vals1 r
    cases rx
    obtain ⟨ws, rw', pl, hz⟩ := I.list hq
    have hl := rw'.length
    refine call_tuple_list pl.isList (fun h' kp => ?_) (by rw [List.size_toArray]; omega)
    have I1 : Inv X pins σ H { s with heap := h' } := I.kept (t' := s.toks) kp
    exact ⟨.ref h'.objs.size, _, Inv.layX I1 rw' hz, rfl, k _ _ (I1.hok.fresh (Nat.le_refl _)) ⟨rfl, rfl⟩⟩
  · exact call_tuple_of pins s σ H _ us Q I r ⟨l, ys, rfl, .inr ⟨hq, k⟩⟩
theorem f_tuple : OpN X.K fTuple (rTupX X.K) := fun xs ts z B H Q ex d hf k => by
  unfold fTuple at hf
  split at hf
  · cases hf
    cases d with
    | cons d dn =>
      cases dn
      cases d with
      | lst hs ha => exact ⟨_, _, rfl, .inl ⟨.inl (ex_rd ex hs), fun l o hl hb => k _ _ _ (.tup ex hl hb ha)⟩⟩
  · cases hf
    cases d with
    | cons d dn =>
      cases dn
      cases d with
      | tup hs ha => exact ⟨_, _, rfl, .inr ⟨ex_t ex hs.t, k _ B H (.val ex (.tup hs ha))⟩⟩
  · cases hf
def fInt : List T → Option RV
  | [.int i] => some (.val (.int i))
  | [.bool k] => some (.val (.int (if k then 1 else 0)))
  | _ => none
theorem f_int : OpN X.K fInt (fun xs H Q => (∃ i, xs = [.int i] ∧ Q (.int i) H) ∨ ∃ k, xs = [.bl k] ∧ Q (.int (if k then 1 else 0)) H) := fun xs ts z B H Q ex d hf k => by
  unfold fInt at hf
  split at hf
  · cases hf
    cases d with
    | cons d dn => cases dn; cases d; exact .inl ⟨_, rfl, k _ B H (.val ex (.int _))⟩
  · cases hf
    cases d with
    | cons d dn => cases dn; cases d; exact .inr ⟨_, rfl, k _ B H (.val ex (.int _))⟩
  · cases hf
def fAbs : List T → Option RV
  | [.int i] => some (.val (.int (if i < 0 then -i else i)))
  | _ => none
theorem f_abs : OpN X.K fAbs (fun xs H Q => ∃ i, xs = [.int i] ∧ Q (.int (if i < 0 then -i else i)) H) := fun xs ts z B H Q ex d hf k => by
  unfold fAbs at hf
  split at hf
  · cases hf
    cases d with
    | cons d dn => cases dn; cases d; exact ⟨_, rfl, k _ B H (.val ex (.int _))⟩
  · cases hf
def fMin : List T → Option RV
  | [.int i, .int j] => some (.val (.int (if j < i then j else i)))
  | _ => none
def fMax : List T → Option RV
  | [.int i, .int j] => some (.val (.int (if j > i then j else i)))
  | _ => none
theorem f_min : OpN X.K fMin (fun xs H Q => ∃ i j, xs = [.int i, .int j] ∧ Q (.int (if j < i then j else i)) H) := fun xs ts z B H Q ex d hf k => by
  unfold fMin at hf
  split at hf
  · cases hf
    cases d with
    | cons d dn => cases dn with
      | cons d2 dn => cases dn; cases d; cases d2; exact ⟨_, _, rfl, k _ B H (.val ex (.int _))⟩
  · cases hf
theorem f_max : OpN X.K fMax (fun xs H Q => ∃ i j, xs = [.int i, .int j] ∧ Q (.int (if j > i then j else i)) H) := fun xs ts z B H Q ex d hf k => by
  unfold fMax at hf
  split at hf
  · cases hf
    cases d with
    | cons d dn => cases dn with
      | cons d2 dn => cases dn; cases d; cases d2; exact ⟨_, _, rfl, k _ B H (.val ex (.int _))⟩
  · cases hf
def fGcd : List T → Option RV
  | [.int i, .int j] => some (.val (.int (Nat.gcd i.natAbs j.natAbs : Nat)))
  | _ => none
theorem f_gcd : OpN X.K fGcd rGcd := fun xs ts z B H Q ex d hf k => by
  unfold fGcd at hf
  split at hf
  · cases hf
    cases d with
    | cons d dn => cases dn with
      | cons d2 dn => cases dn; cases d; cases d2; exact ⟨_, _, rfl, k _ B H (.val ex (.int _))⟩
  · cases hf
def bools : List T → Option (List Bool)
  | [] => some []
  | .bool b :: r => (bools r).map (b :: ·)
  | _ => none
theorem bools_ok {K : PySem.W.Frag} {B : Hp} : ∀ {ts : List T} {bs : List Bool} {xs : List V}, bools ts = some bs → DqAll K B xs ts → xs = bs.map V.bl
  | [], _, _, h, d => by cases h; cases d; rfl
  | t :: ts, bs, _, h, d => by
    cases d with
    | cons d1 d2 =>
      unfold bools at h
      split at h
      · rename_i q; cases q
      · rename_i q
        cases q
        cases hb : bools ts with
        | none => rw [hb] at h; cases h
        | some r =>
          rw [hb] at h
          cases h
          cases d1
          rw [bools_ok hb d2]
          rfl
      · cases h
def fAll : List T → Option RV
  | [.list ts] => (bools ts).map fun bs => .val (.bool (bs.all id))
  | _ => none
def fAny : List T → Option RV
  | [.list ts] => (bools ts).map fun bs => .val (.bool (bs.any id))
  | _ => none
theorem f_all : OpN X.K fAll (rAll X.K) := fun xs ts z B H Q ex d hf k => by
  unfold fAll at hf
  split at hf
  · rename_i us
    cases d with
    | cons d dn =>
      cases dn
      cases d with
      | lst hs ha =>
        cases hb : bools us with
        | none => rw [hb] at hf; cases hf
        | some bs =>
          rw [hb] at hf
          cases hf
          have := bools_ok hb ha
          subst this
          exact ⟨_, bs, rfl, .inl (ex_rd ex hs), k _ B H (.val ex (.bl _))⟩
  · cases hf
theorem f_any : OpN X.K fAny (rAny X.K) := fun xs ts z B H Q ex d hf k => by
  unfold fAny at hf
  split at hf
  · rename_i us
    cases d with
    | cons d dn =>
      cases dn
      cases d with
      | lst hs ha =>
        cases hb : bools us with
        | none => rw [hb] at hf; cases hf
        | some bs =>
          rw [hb] at hf
          cases hf
          have := bools_ok hb ha
          subst this
          exact ⟨_, bs, rfl, .inl (ex_rd ex hs), k _ B H (.val ex (.bl _))⟩
  · cases hf
section
variable {es : List Expr} {ms : Ml} {x : Str} {id TT : String} {f : List T → Option RV} {r : List V → Hp → VK → Prop}
theorem x_blt (hr : CallR X (.builtin id) r) (ho : OpN X.K f r) (hg : Gl X x) (hm : X.mg x = none) (hv : bootBuiltins x = some (.builtin id)) (ha : PA X (a :: es) (tL X.K X.mg W ms)) (hn : x ≠ "__name__" := by decide) (hdb : (x == ("__debug__" : Str)) = false := by decide)
    (he : starEach (a :: es) X.env = (false, eval a X.env) :: starEach es X.env := by rfl) (hpl : (backTo pos (starEach es X.env)).any (·.1) = false := by rfl) : PE X (.Call (.Name x p) (a :: es) [] pos) (tV X.K X.mg W (mN f ms)) :=
  PE.imp (pe_callB hr hg hm hv ha hn hdb he hpl) fun _ _ _ => toN ho
theorem x_typ (hr : CallR X (.type TT) r) (ho : OpN X.K f r) (hg : Gl X x) (hm : X.mg x = none) (hv : bootBuiltins x = some (.type TT)) (ha : PA X (a :: es) (tL X.K X.mg W ms)) (hn : x ≠ "__name__" := by decide) (hdb : (x == ("__debug__" : Str)) = false := by decide)
    (he : starEach (a :: es) X.env = (false, eval a X.env) :: starEach es X.env := by rfl) (hpl : (backTo pos (starEach es X.env)).any (·.1) = false := by rfl) : PE X (.Call (.Name x p) (a :: es) [] pos) (tV X.K X.mg W (mN f ms)) :=
  PE.imp (pe_callTy hr hg hm hv ha hn hdb he hpl) fun _ _ _ => toN ho
/-- a built-in that the module imported -/
theorem x_imp (hr : CallR X (.builtin id) r) (ho : OpN X.K f r) (hg : Gl X x) (hm : X.mg x = some (.builtin id)) (ha : PA X (a :: es) (tL X.K X.mg W ms)) (hdb : (x == ("__debug__" : Str)) = false := by decide)
    (he : starEach (a :: es) X.env = (false, eval a X.env) :: starEach es X.env := by rfl) (hpl : (backTo pos (starEach es X.env)).any (·.1) = false := by rfl) : PE X (.Call (.Name x p) (a :: es) [] pos) (tV X.K X.mg W (mN f ms)) :=
  PE.imp (pe_callBfun hr hg hm ha hdb he hpl) fun _ _ _ => toN ho
end
/-! ### in -/
def flatT : T → Bool
  | .none => true
  | .bool _ => true
  | .int _ => true
  | .str _ => true
  | _ => false
def eqT : T → T → Bool
  | .none, .none => true
  | .bool a, .bool b => a == b
  | .bool a, .int b => (if a then 1 else 0) == b
  | .int a, .bool b => a == (if b then 1 else 0)
  | .int a, .int b => a == b
  | .str a, .str b => a == b
  | _, _ => false
theorem flat_ok {K : PySem.W.Frag} {B : Hp} {x : V} {t : T} (d : Dq K B x t) (h : flatT t = true) : flatV x = true := by
  cases d <;> first | rfl | cases h
theorem eq_ok {K : PySem.W.Frag} {B : Hp} {x y : V} {t u : T} (d : Dq K B x t) (d2 : Dq K B y u) (h : flatT t = true) (h2 : flatT u = true) : eqV x y = eqT t u := by
  cases d <;> first | (cases h; done) | (cases d2 <;> first | rfl | cases h2)
theorem flats_ok {K : PySem.W.Frag} {B : Hp} : ∀ {xs : List V} {ts : List T}, DqAll K B xs ts → ts.all flatT = true → xs.all flatV = true
  | _, [], d, _ => by cases d; rfl
  | _, t :: ts, d, h => by
    cases d with
    | cons d1 d2 =>
      rw [List.all_cons, Bool.and_eq_true] at h ⊢
      exact ⟨flat_ok d1 h.1, flats_ok d2 h.2⟩
theorem inV_ok {K : PySem.W.Frag} {B : Hp} {x : V} {t : T} (d : Dq K B x t) (h : flatT t = true) : ∀ {xs : List V} {ts : List T}, DqAll K B xs ts → ts.all flatT = true → inV x xs = ts.any fun u => eqT u t
  | _, [], dd, _ => by cases dd; rfl
  | _, u :: ts, dd, hh => by
    cases dd with
    | cons d1 d2 =>
      rw [List.all_cons, Bool.and_eq_true] at hh
      have ih := inV_ok d h d2 hh.2
      unfold inV at ih ⊢
      rw [List.any_cons, List.any_cons, ih, eq_ok d1 d hh.1 h]
def fIn (neg : Bool) (t u : T) : Option RV := match items u with
  | some ts => if flatT t && ts.all flatT then some (.val (.bool (if neg then !ts.any (fun u => eqT u t) else ts.any fun u => eqT u t))) else none
  | none => none
theorem f_in {neg : Bool} : Op2 X.K (fIn neg) (rIn X.K neg) := fun x y t u z B H Q ex d1 d2 hf k => by
  unfold fIn at hf
  cases h : items u with
  | none => rw [h] at hf; cases hf
  | some ts =>
    rw [h] at hf
    dsimp only at hf
    split at hf
    · rename_i hz
      cases hf
      rw [Bool.and_eq_true] at hz
      obtain ⟨c, xs, rfl, da, sq⟩ := items_ok d2 h
      refine ⟨c, xs, rfl, sq.elim (fun f => .inl (f H ex)) (fun f => .inr (f H ex)), flat_ok d1 hz.1, flats_ok da hz.2, ?_⟩
      rw [inV_ok d1 hz.1 da hz.2]
      exact k _ B H (.val ex (.bl _))
    · cases hf
/-! ### slices -/
def asI : T → Option Int
  | .int i => some i
  | _ => none
def mPart (m : Option Mt) : En → Res (Option Int) := fun e => match m with
  | none => .ok none e
  | some m => (m e).bind fun t e1 => match t with
    | .int i => .ok (some i) e1
    | _ => .bad
def tP (K : PySem.W.Frag) (mg : Str → Option Value) (W : WX) (m : En → Res (Option Int)) : TO := fun σ H Q => ∃ F B e, Sta K F B H σ e ∧ Post K mg W F B σ (fun B' H' e' o => Q o H') (m e)
theorem PO.imp {e : Option Expr} {t t' : TO} (h : PO X e t) (f : ∀ σ H Q, t' σ H Q → t σ H Q) : PO X e t' := ⟨fun pins s σ H Q I q => h.run pins s σ H Q I (f σ H Q q)⟩
theorem p_none : PO X none (tP X.K X.mg W (mPart none)) := PO.imp po_none fun σ H Q q => by
  obtain ⟨F, B, e, s, p⟩ := q
  exact p B H s .refl
theorem p_some {m : Mt} (h : PE X a (tT X.K X.mg W m)) : PO X (some a) (tP X.K X.mg W (mPart (some m))) := PO.imp (po_some h) fun σ H Q q => by
  obtain ⟨F, B, e, s, p⟩ := q
  refine ⟨F, B, e, s, (Post.unbind p).mono fun B1 H1 e1 t s1 g1 p1 v d => ?_⟩
  cases t with
  | int i => cases d; exact ⟨i, rfl, p1 B1 H1 s1 .refl⟩
  | _ => exact p1.elim
def cutT (ts : List T) (lo hi : Option Int) : List T := (ts.drop (HT.sIx ts.length 0 lo)).take (HT.sIx ts.length ts.length hi - HT.sIx ts.length 0 lo)
theorem cut_ok {K : PySem.W.Frag} {B : Hp} {xs : List V} {ts : List T} (d : DqAll K B xs ts) (lo hi : Option Int) : DqAll K B (cutV xs lo hi) (cutT ts lo hi) := by
  unfold cutV cutT
  rw [d.len]
  exact (d.drop _).take _
def fSl (t : T) (lo hi : Option Int) : Option RV := match t with
  | .list ts => some (.own (cutT ts lo hi))
  | .tuple ts => some (.val (.tuple (cutT ts lo hi)))
  | _ => none
def mSl (m : Mt) (lo hi : Option Mt) : Mv := fun e => (m e).bind fun t e1 => (mPart lo e1).bind fun l e2 => (mPart hi e2).bind fun h e3 => give (fSl t l h) e3
/-- t[lo:hi], the new tuple known to its object -/
def rSlX (K : PySem.W.Frag) : V → Option Int → Option Int → Hp → VK → Prop := fun x lo hi H Q => ∃ a xs, x = .ref a ∧ SqT K H a xs ∧ (cutV xs lo hi = xs → Q (.ref a) H) ∧ ∀ p o, H p = none → Bare1 o → Q (.ref p) (upd H p (.frz o (.tup (cutV xs lo hi))))
theorem sl_tupX : SlR X (rSlX X.K) := by
  intro pins s σ H x v vl vu lo hi sl Q I rx hs pl pu h
  obtain ⟨c, xs, rfl, hx, q1, q2⟩ := h
  by_cases hw : HT.sIx xs.length 0 lo = 0 ∧ HT.sIx xs.length xs.length hi = xs.length
  · refine sl_tupA pins s σ H _ v vl vu lo hi sl Q I rx hs pl pu ⟨c, xs, rfl, hx, fun _ => q1 ?_, fun n => absurd hw n⟩
    unfold cutV
    rw [hw.1, hw.2, List.drop_zero, Nat.sub_zero, List.take_length]
  · cases rx
    obtain ⟨us, r, ht, hz⟩ := I.tuple hx
    have hlen : us.toArray.size = xs.length := by rw [List.size_toArray, r.length]
    refine ⟨"tuple", _, PyProof.Rows.slot_tuple_getitem.lookup, ht.typeIs, HT.getItem_tuple_cut ht hs pl pu (by rw [hlen]; exact hw) ?_ (by rw [hlen]; exact hz)⟩
    rw [hlen]
    exact ⟨.ref _, _, Inv.layX I ((r.drop (HT.sIx xs.length 0 lo)).take (HT.sIx xs.length xs.length hi - HT.sIx xs.length 0 lo)) (Nat.le_trans (cutV_length xs lo hi) hz), rfl, q2 _ _ (I.hok.fresh (Nat.le_refl _)) ⟨rfl, rfl⟩⟩
theorem x_sl {m : Mt} {lo hi : Option Expr} {ml mh : Option Mt} {p2 : Pos} (ha : PE X a (tT X.K X.mg W m)) (hl : PO X lo (tP X.K X.mg W (mPart ml))) (hh : PO X hi (tP X.K X.mg W (mPart mh))) :
    PE X (.Subscript a (.Slice lo hi none p2) pos) (tV X.K X.mg W (mSl m ml mh)) := PE.imp (pe_slice (sl_list.or sl_tupX) ha hl hh) fun σ H Q q => by
  obtain ⟨F, B, e, s, p⟩ := q
  refine ⟨F, B, e, s, (Post.unbind p).mono fun B1 H1 e1 t s1 g1 p1 v d => ?_⟩
  refine ⟨F, B1, e1, s1, (Post.unbind p1).mono fun B2 H2 e2 l s2 g2 p2 => ?_⟩
  refine ⟨F, B2, e2, s2, (Post.unbind p2).mono fun B3 H3 e3 u s3 g3 p3 => ?_⟩
  refine give_ok s3 p3 fun z hz k => ?_
  have d3 := dq_ex (g2.ex.trans g3.ex) _ _ d
  unfold fSl at hz
  split at hz
  · cases hz
    cases d3 with
    | lst hs ha => exact .inl ⟨_, _, rfl, .inl (ex_rd s3.bh hs), fun p hp => k _ _ _ (.lst s3.bh hp (cut_ok ha _ _))⟩
  · cases hz
    cases d3 with
    | tup hs ha =>
      refine .inr ⟨_, _, rfl, ex_t s3.bh hs.t, fun e => ?_, fun p o hp hb => k _ _ _ (.tup s3.bh hp hb (cut_ok ha _ _))⟩
      have c := cut_ok ha l u
      rw [e] at c
      exact k _ _ _ (.val s3.bh (.tup hs c))
  · cases hz
/-- x[::-1] of a list -/
def fRev : T → Option RV
  | .list ts => some (.own ts.reverse)
  | _ => none
theorem x_rev {m : Mt} {k : Nat} {p1 p2 p3 : Pos} (ha : PE X a (tT X.K X.mg W m)) : PE X (.Subscript a (.Slice none none (some (.UnaryOp .USub (.Constant (.int 1) k p1) p2)) p3) pos) (tV X.K X.mg W (m1 fRev m)) :=
  PE.imp (pe_revL ha) fun σ H Q q => by
  obtain ⟨F, B, e, s, p⟩ := q
  refine ⟨F, B, e, s, (Post.unbind p).mono fun B1 H1 e1 t s1 g1 p1 v d => ?_⟩
  refine give_ok s1 p1 fun z hz k => ?_
  unfold fRev at hz
  split at hz
  · cases hz
    cases d with
    | lst hs ha => exact ⟨_, _, rfl, .inl (ex_rd s1.bh hs), fun p hp => k _ _ _ (.lst s1.bh hp ha.rev)⟩
  · cases hz
end
end TL
end
section
set_option Elab.async false
set_option linter.all false
set_option autoImplicit false
set_option maxRecDepth 100000
namespace TL
open PySem PySem.Spec PyProof.Rows L2

/-! ### chains of comparisons, as tests -/
structure QT (X : Cx) (pos : Pos) (ops : List CmpOp) (rs : List Expr) (t : V → TT) : Prop where
  run : ∀ (pins : List (Addr × Obj)) (s : Shared) (σ : L2.St) (H : Hp) (x : V) (v : Value) (Q : Bool → Hp → Prop), Inv X pins σ H s → RelV x v → t x σ H Q → wpAny (model X.prog X.w) X.A (testChain pos v ops (evalEach rs X.env)) (TP X pins σ Q) X.xe s
structure QV (X : Cx) (pos : Pos) (ops : List CmpOp) (rs : List Expr) (t : V → TE) : Prop where
  run : ∀ (pins : List (Addr × Obj)) (s : Shared) (σ : L2.St) (H : Hp) (x : V) (v : Value) (Q : VK), Inv X pins σ H s → RelV x v → t x σ H Q → wpAny (model X.prog X.w) X.A (compareChain pos v ops (evalEach rs X.env)) (EP X pins σ Q) X.xe s
abbrev Mq := T → En → Res Bool
def asBool : Option RV → Option Bool
  | some (.val (.bool b)) => some b
  | _ => none
def yes (z : Option RV) (e : En) : Res Bool := match asBool z with
  | some b => .ok b e
  | none => .bad
def qLast (f : T → T → Option RV) (mb : Mt) : Mq := fun t e => (mb e).bind fun u e1 => yes (f t u) e1
def qLink (f : T → T → Option RV) (mb : Mt) (c : Mq) : Mq := fun t e => (mb e).bind fun u e1 => (yes (f t u) e1).bind fun b e2 => if b = true then c u e2 else .ok false e2
section
variable {K : PySem.W.Frag} {mg : Str → Option Value} {W : WX}
def tQ (K : PySem.W.Frag) (mg : Str → Option Value) (W : WX) (c : Mq) (x : V) : TT := fun σ H Q => ∃ F B e t, Sta K F B H σ e ∧ Dq K B x t ∧ Post K mg W F B σ (fun B' H' e' b => Q b H') (c t e)
theorem yes_ok {F B H : Hp} {σ : L2.St} {e : En} {z : Option RV} {R : Hp → Hp → En → Bool → Prop} {P : Prop} (s : Sta K F B H σ e) (p : Post K mg W F B σ R (yes z e))
    (h : ∀ b, z = some (.val (.bool b)) → (∀ v B' H', NewOk K B H B' H' v (.val (.bool b)) → v = .bl b ∧ Sta K F B' H' σ e ∧ Grow F B B' ∧ R B' H' e b) → P) : P := by
  unfold yes at p
  cases hz : asBool z with
  | none => rw [hz] at p; exact p.elim
  | some b =>
    rw [hz] at p
    have hz' : z = some (.val (.bool b)) := by
      unfold asBool at hz
      split at hz
      · cases hz; rfl
      · cases hz
    refine h b hz' fun v B' H' n => ?_
    obtain ⟨s', g, o⟩ := n.rv s
    have d := o.1
    cases d
    exact ⟨rfl, s', g, p B' H' s' g⟩
end
section
variable {X : Cx} {W : WX} {a b c : Expr} {pos : Pos} {op : CmpOp} {ops : List CmpOp} {rs : List Expr} {f : T → T → Option RV} {r : R2} {mb : Mt} {cq : Mq}
theorem q_last (hr : OpR X (compareOp op) r) (ho : Op2 X.K f r) (hb : PE X b (tT X.K X.mg W mb)) : QT X pos [op] [b] (tQ X.K X.mg W (qLast f mb)) := by
  refine ⟨fun pins s σ H x v Q I rx q => ?_⟩
  obtain ⟨F, B, e, t, st, d, p⟩ := q
  refine test_last ?_
  refine thn (hb.run pins s σ H (fun y H1 => r x y H1 fun z H2 => ∃ k, z = .bl k ∧ Q k H2) I ⟨F, B, e, st, (Post.unbind p).mono fun B1 H1 e1 u s1 g1 p1 w dw => ?_⟩) fun u s1 ⟨y, H1, I1, r1, q1⟩ => ?_
  · exact yes_ok s1 p1 fun k hk kk => ho x w t u _ B1 H1 _ s1.bh (dq_ex g1.ex _ _ d) dw hk fun v' B' H' n => let ⟨e1, _, _, e4⟩ := kk v' B' H' n; ⟨k, e1, e4⟩
  · refine thn (hr pins s1 σ H1 x y v u _ I1 rx r1 q1) fun c' s2 ⟨z, H2, I2, r2, k, e2, q2⟩ => ?_
    subst e2
    cases r2
    exact wpAny_truthy_bool ⟨H2, I2, q2⟩
theorem q_link {op' : CmpOp} {b' : Expr} (hr : OpR X (compareOp op) r) (ho : Op2 X.K f r) (hb : PE X b (tT X.K X.mg W mb)) (hc : QT X pos (op' :: ops) (b' :: rs) (tQ X.K X.mg W cq)) : QT X pos (op :: op' :: ops) (b :: b' :: rs) (tQ X.K X.mg W (qLink f mb cq)) := by
  refine ⟨fun pins s σ H x v Q I rx q => ?_⟩
  obtain ⟨F, B, e, t, st, d, p⟩ := q
  refine test_link ?_
  refine thn (hb.run pins s σ H (fun y H1 => r x y H1 fun z H2 => ∃ k, z = .bl k ∧ if k = true then tQ X.K X.mg W cq y σ H2 Q else Q false H2) I ⟨F, B, e, st, (Post.unbind p).mono fun B1 H1 e1 u s1 g1 p1 w dw => ?_⟩) fun u s1 ⟨y, H1, I1, r1, q1⟩ => ?_
  · exact yes_ok s1 (Post.unbind p1) fun k hk kk => ho x w t u _ B1 H1 _ s1.bh (dq_ex g1.ex _ _ d) dw hk fun v' B' H' n => by
      obtain ⟨e1', s2, g2, e4⟩ := kk v' B' H' n
      refine ⟨k, e1', ?_⟩
      cases k with
      | true => exact ⟨F, B', e1, u, s2, dq_ex g2.ex _ _ dw, e4⟩
      | false => exact e4 B' H' s2 .refl
  · refine thn (hr pins s1 σ H1 x y v u _ I1 rx r1 q1) fun c' s2 ⟨z, H2, I2, r2, k, e2, q2⟩ => ?_
    subst e2
    cases r2
    refine wpAny_truthy_bool ?_
    cases k with
    | true => exact hc.run pins s2 σ H2 y u Q I2 r1 q2
    | false => exact ⟨H2, I2, q2⟩
def mChainT (m : Mt) (c : Mq) : Mb := fun e => (m e).bind fun t e1 => c t e1
theorem o_chain {op' : CmpOp} {b' : Expr} {m : Mt} (ha : PE X a (tT X.K X.mg W m)) (hc : QT X pos (op :: op' :: ops) (b :: b' :: rs) (tQ X.K X.mg W cq)) (hm : lastMarks (op :: op' :: ops) (b :: b' :: rs) = false := by with_unfolding_all rfl) :
    PT X (.Compare a (op :: op' :: ops) (b :: b' :: rs) pos) (tO X.K X.mg W (mChainT m cq)) := by
  refine ⟨fun pins s σ H Q I q => isTrue_chain ?_ hm⟩
  obtain ⟨F, B, e, st, p⟩ := q
  refine thn (ha.run pins s σ H (fun x H1 => tQ X.K X.mg W cq x σ H1 Q) I ⟨F, B, e, st, (Post.unbind p).mono fun B1 H1 e1 t s1 g1 p1 v d => ⟨F, B1, e1, t, s1, d, p1⟩⟩) fun v s1 ⟨x, H1, I1, r1, q1⟩ => ?_
  exact hc.run pins s1 σ H1 x v Q I1 r1 q1
/-! the same as values -/
theorem v_last (hr : OpR X (compareOp op) r) (ho : Op2 X.K f r) (hb : PE X b (tT X.K X.mg W mb)) : QV X pos [op] [b] (fun x σ H Q => tQ X.K X.mg W (qLast f mb) x σ H fun k H' => Q (.bl k) H') := by
  refine ⟨fun pins s σ H x v Q I rx q => ?_⟩
  obtain ⟨F, B, e, t, st, d, p⟩ := q
  refine chain_last ?_
  refine thn (hb.run pins s σ H (fun y H1 => r x y H1 Q) I ⟨F, B, e, st, (Post.unbind p).mono fun B1 H1 e1 u s1 g1 p1 w dw => ?_⟩) fun u s1 ⟨y, H1, I1, r1, q1⟩ => hr pins s1 σ H1 x y v u _ I1 rx r1 q1
  exact yes_ok s1 p1 fun k hk kk => ho x w t u _ B1 H1 _ s1.bh (dq_ex g1.ex _ _ d) dw hk fun v' B' H' n => by
    obtain ⟨e1', _, _, e4⟩ := kk v' B' H' n
    rw [e1']
    exact e4
theorem v_link {op' : CmpOp} {b' : Expr} (hr : OpR X (compareOp op) r) (ho : Op2 X.K f r) (hb : PE X b (tT X.K X.mg W mb)) (hc : QV X pos (op' :: ops) (b' :: rs) (fun x σ H Q => tQ X.K X.mg W cq x σ H fun k H' => Q (.bl k) H')) :
    QV X pos (op :: op' :: ops) (b :: b' :: rs) (fun x σ H Q => tQ X.K X.mg W (qLink f mb cq) x σ H fun k H' => Q (.bl k) H') := by
  refine ⟨fun pins s σ H x v Q I rx q => ?_⟩
  obtain ⟨F, B, e, t, st, d, p⟩ := q
  refine chain_link ?_
  refine thn (hb.run pins s σ H (fun y H1 => r x y H1 fun z H2 => ∃ k, z = .bl k ∧ if k = true then tQ X.K X.mg W cq y σ H2 (fun k H' => Q (.bl k) H') else Q (.bl false) H2) I ⟨F, B, e, st, (Post.unbind p).mono fun B1 H1 e1 u s1 g1 p1 w dw => ?_⟩) fun u s1 ⟨y, H1, I1, r1, q1⟩ => ?_
  · exact yes_ok s1 (Post.unbind p1) fun k hk kk => ho x w t u _ B1 H1 _ s1.bh (dq_ex g1.ex _ _ d) dw hk fun v' B' H' n => by
      obtain ⟨e1', s2, g2, e4⟩ := kk v' B' H' n
      refine ⟨k, e1', ?_⟩
      cases k with
      | true => exact ⟨F, B', e1, u, s2, dq_ex g2.ex _ _ dw, e4⟩
      | false => exact e4 B' H' s2 .refl
  · refine thn (hr pins s1 σ H1 x y v u _ I1 rx r1 q1) fun c' s2 ⟨z, H2, I2, r2, k, e2, q2⟩ => ?_
    subst e2
    cases r2
    refine wpAny_truthy_bool ?_
    cases k with
    | true => exact hc.run pins s2 σ H2 y u Q I2 r1 q2
    | false => exact ⟨.bl false, H2, I2, rfl, q2⟩
def mBoolT (m : Mb) : Mt := fun e => (m e).bind fun b e1 => .ok (.bool b) e1
theorem x_chain {op' : CmpOp} {b' : Expr} {m : Mt} (ha : PE X a (tT X.K X.mg W m)) (hc : QV X pos (op :: op' :: ops) (b :: b' :: rs) (fun x σ H Q => tQ X.K X.mg W cq x σ H fun k H' => Q (.bl k) H')) (hm : lastMarks (op :: op' :: ops) (b :: b' :: rs) = false := by with_unfolding_all rfl) :
    PE X (.Compare a (op :: op' :: ops) (b :: b' :: rs) pos) (tT X.K X.mg W (mBoolT (mChainT m cq))) := by
  refine ⟨fun pins s σ H Q I q => Compare_chain ?_ hm⟩
  obtain ⟨F, B, e, st, p⟩ := q
  refine thn (ha.run pins s σ H (fun x H1 => tQ X.K X.mg W cq x σ H1 fun k H' => Q (.bl k) H') I ⟨F, B, e, st, (Post.unbind (Post.unbind p)).mono fun B1 H1 e1 t s1 g1 p1 v d => ⟨F, B1, e1, t, s1, d, p1.mono fun B2 H2 e2 k s2 g2 p2 => p2 B2 H2 s2 .refl _ (.bl k)⟩⟩) fun v s1 ⟨x, H1, I1, r1, q1⟩ => ?_
  exact hc.run pins s1 σ H1 x v Q I1 r1 q1

/-! ### what is walked -/
theorem tw_list {K : PySem.W.Frag} {B : Hp} {c : Addr} {xs : List V} {ts : List T} (h : ∀ H, Ex B H → SqL K H c xs) (d : DqAll K B xs ts) : TW K (Itl K c) B ts where
  goes := fun i H hi ex => ⟨xs, xs[i]'(by rw [d.len]; exact hi), h H ex, List.getElem?_eq_getElem _⟩
  stops := fun H ex => ⟨xs, h H ex, by rw [d.len]; exact Nat.le_refl _⟩
  yields := fun i H Bc x H' t ht e1 e2 y => by
    obtain ⟨rfl, y⟩ := y
    obtain ⟨v, h1, h2⟩ := d.get ht
    have h3 := y xs (h H' (e1.trans e2))
    rw [h1] at h3
    cases h3
    exact ⟨Bc, .refl e2, dq_ex e1 _ _ h2⟩
theorem tw_tup {K : PySem.W.Frag} {B : Hp} {c : Addr} {xs : List V} {ts : List T} (h : ∀ H, Ex B H → SqT K H c xs) (d : DqAll K B xs ts) : TW K (Itt K c) B ts where
  goes := fun i H hi ex => ⟨xs, xs[i]'(by rw [d.len]; exact hi), h H ex, List.getElem?_eq_getElem _⟩
  stops := fun H ex => ⟨xs, h H ex, by rw [d.len]; exact Nat.le_refl _⟩
  yields := fun i H Bc x H' t ht e1 e2 y => by
    obtain ⟨rfl, y⟩ := y
    obtain ⟨v, h1, h2⟩ := d.get ht
    have h3 := y xs (h H' (e1.trans e2))
    rw [h1] at h3
    cases h3
    exact ⟨Bc, .refl e2, dq_ex e1 _ _ h2⟩
def rngT (lo : Int) (n : Nat) : List T := (List.range n).map fun i => .int (lo + (i : Nat))
theorem tw_rng {K : PySem.W.Frag} {B : Hp} {lo : Int} {n : Nat} : TW K (Itr lo n) B (rngT lo n) where
  goes := fun i H hi _ => by
    unfold rngT at hi
    rw [List.length_map, List.length_range] at hi
    exact hi
  stops := fun H _ => by
    unfold rngT
    rw [List.length_map, List.length_range]
    exact Nat.le_refl n
  yields := fun i H Bc x H' t ht e1 e2 y => by
    obtain ⟨rfl, rfl⟩ := y
    unfold rngT at ht
    rw [List.getElem?_map] at ht
    cases hr : (List.range n)[i]? with
    | none => rw [hr] at ht; cases ht
    | some j =>
      rw [hr] at ht
      cases ht
      have hi := (List.getElem?_eq_some_iff.mp hr).1
      rw [List.length_range] at hi
      rw [List.getElem?_range hi] at hr
      cases hr
      exact ⟨Bc, .refl e2, .int _⟩
def mSeq1 (m : Mt) : Ml := fun e => (m e).bind fun t e1 => match items t with
  | some ts => .ok ts e1
  | none => .bad
theorem i_seq {tg : Expr} {m : Mt} (ha : PE X a (tT X.K X.mg W m)) : PI X tg a (tI X.K X.mg W (mSeq1 m)) := PI.imp (PI.or (pi_list ha) (pi_tup ha)) fun σ H R q => by
  obtain ⟨F, B, e, s, p⟩ := q
  -- which of the two it is
  cases hm : m e with
  | ok t e1 =>
    have p1 := Post.unbind p
    rw [hm] at p1
    cases hi : items t with
    | none =>
      have p2 : Post X.K X.mg W F B σ (fun B' H' _ ts => ∀ J, TW X.K J B' ts → R J H') ((m e).bind fun t e1 => match items t with
        | some ts => .ok ts e1
        | none => .bad) := p
      rw [hm] at p2
      dsimp only [Res.bind] at p2
      rw [hi] at p2
      exact p2.elim
    | some ts =>
      have p2 : Post X.K X.mg W F B σ (fun B' H' _ ts => ∀ J, TW X.K J B' ts → R J H') ((m e).bind fun t e1 => match items t with
        | some ts => .ok ts e1
        | none => .bad) := p
      rw [hm] at p2
      dsimp only [Res.bind] at p2
      rw [hi] at p2
      have kl : ∀ {B1 H1 : Hp}, Sta X.K F B1 H1 σ e1 → Grow F B B1 → ∀ J, TW X.K J B1 ts → R J H1 := fun {B1 H1} s1 g1 => p2 B1 H1 s1 g1
      by_cases hl : (∃ us, t = .tuple us)
      · obtain ⟨us, rfl⟩ := hl
        refine .inr ⟨F, B, e, s, ?_⟩
        rw [hm]
        intro B1 H1 s1 g1 v d
        cases d with
        | tup hs ha =>
          cases hi
          exact ⟨_, rfl, ⟨_, ex_t s1.bh hs.t⟩, kl s1 g1 _ (tw_tup (fun H ex => ex_t ex hs.t) ha)⟩
      · refine .inl ⟨F, B, e, s, ?_⟩
        rw [hm]
        intro B1 H1 s1 g1 v d
        cases d with
        | tup hs ha => exact absurd ⟨_, rfl⟩ hl
        | lst hs ha =>
          cases hi
          exact ⟨_, rfl, ⟨_, .inl (ex_rd s1.bh hs)⟩, kl s1 g1 _ (tw_list (fun H ex => .inl (ex_rd ex hs)) ha)⟩
        | @scr c ns hs =>
          have hi' : (ints? (ns.map fun n => (.int n, .none))).map (fun ns => ns.map PyData.int) = some ts := hi
          cases q : ints? (ns.map fun n => (PyData.int n, PyData.none)) with
          | none => rw [q] at hi'; cases hi'
          | some r =>
            rw [q] at hi'
            cases hi'
            rw [ints_ok q] at kl
            exact ⟨c, rfl, ⟨_, ex_l s1.bh hs⟩, kl s1 g1 _ (tw_list (fun H ex => ex_l ex hs) (dq_ints ns))⟩
        | prs hs h1 h2 =>
          exfalso
          have hi' : (ints? [(_, _), (.bool true, .none)]).map (fun ns => ns.map PyData.int) = some ts := hi
          unfold ints? at hi'
          split at hi'
          · rename_i q; cases q
          · rename_i q
            injection q with q1 q2
            subst q2
            cases hi'
          · cases hi'
        | _ => cases hi
  | exc x e1 =>
    have p2 : Post X.K X.mg W F B σ (fun B' H' _ ts => ∀ J, TW X.K J B' ts → R J H') ((m e).bind fun t e1 => match items t with
      | some ts => .ok ts e1
      | none => .bad) := p
    rw [hm] at p2
    exact .inl ⟨F, B, e, s, by rw [hm]; exact p2⟩
  | bad =>
    have p2 : Post X.K X.mg W F B σ (fun B' H' _ ts => ∀ J, TW X.K J B' ts → R J H') ((m e).bind fun t e1 => match items t with
      | some ts => .ok ts e1
      | none => .bad) := p
    rw [hm] at p2
    exact p2.elim
def mRng (ms : Ml) : Ml := fun e => (ms e).bind fun ts e1 => match ts with
  | [.int n] => if n ≤ 100000 ∧ -100000 ≤ n then .ok (rngT 0 n.toNat) e1 else .bad
  | _ => .bad
theorem i_rng {tg : Expr} {p : Pos} {ms : Ml} (hg : Gl X "range") (hm : X.mg "range" = none) (ha : PA X [a] (tL X.K X.mg W ms)) (hs : starEach [a] X.env = [(false, eval a X.env)] := by rfl) :
    PI X tg (.Call (.Name "range" p) [a] [] pos) (tI X.K X.mg W (mRng ms)) := PI.imp (pi_range1 hg hm ha hs) fun σ H R q => by
  obtain ⟨F, B, e, s, p⟩ := q
  refine ⟨F, B, e, s, (Post.unbind p).mono fun B1 H1 e1 ts s1 g1 p1 vs d => ?_⟩
  split at p1
  · split at p1
    · rename_i h
      cases d with
      | cons d dn =>
        cases dn
        cases d
        exact ⟨_, rfl, by omega, by omega, p1 B1 H1 s1 .refl _ tw_rng⟩
    · exact p1.elim
  · exact p1.elim
def mRng2 (ms : Ml) : Ml := fun e => (ms e).bind fun ts e1 => match ts with
  | [.int l, .int n] => if n ≤ 100000 ∧ -100000 ≤ n ∧ l ≤ 100000 ∧ -100000 ≤ l then .ok (rngT l (n - l).toNat) e1 else .bad
  | _ => .bad
theorem i_rng2 {tg : Expr} {p : Pos} {ms : Ml} (hg : Gl X "range") (hm : X.mg "range" = none) (ha : PA X [a, b] (tL X.K X.mg W ms)) (hs : starEach [a, b] X.env = [(false, eval a X.env), (false, eval b X.env)] := by rfl) (hs2 : starEach [b] X.env = [(false, eval b X.env)] := by rfl) :
    PI X tg (.Call (.Name "range" p) [a, b] [] pos) (tI X.K X.mg W (mRng2 ms)) := PI.imp (pi_range2 hg hm ha hs hs2) fun σ H R q => by
  obtain ⟨F, B, e, s, p⟩ := q
  refine ⟨F, B, e, s, (Post.unbind p).mono fun B1 H1 e1 ts s1 g1 p1 vs d => ?_⟩
  split at p1
  · split at p1
    · rename_i h
      cases d with
      | cons d dn =>
        cases dn with
        | cons d2 dn =>
          cases dn
          cases d
          cases d2
          exact ⟨_, _, rfl, ⟨by omega, by omega, by omega, by omega⟩, p1 B1 H1 s1 .refl _ tw_rng⟩
    · exact p1.elim
  · exact p1.elim
/-! ### enumerate, zip -/
def enumT : Nat → List T → List T
  | _, [] => []
  | n, t :: ts => pair (.int (n : Nat)) t :: enumT (n + 1) ts
theorem enumT_get : ∀ {ts : List T} {n i : Nat} {u : T}, (enumT n ts)[i]? = some u → ∃ t, ts[i]? = some t ∧ u = pair (.int ((n + i : Nat) : Int)) t
  | [], _, _, _, h => by simp [enumT] at h
  | t :: ts, n, 0, u, h => by
    cases h
    exact ⟨t, rfl, rfl⟩
  | t :: ts, n, i + 1, u, h => by
    obtain ⟨t', h1, h2⟩ := enumT_get (ts := ts) (n := n + 1) (i := i) (u := u) (by simpa [enumT] using h)
    exact ⟨t', by simpa using h1, by rw [h2]; congr 2; omega⟩
theorem enumT_len : ∀ {ts : List T} {n : Nat}, (enumT n ts).length = ts.length
  | [], _ => rfl
  | t :: ts, n => by unfold enumT; rw [List.length_cons, List.length_cons, enumT_len]
/-- a loop's new pair is laid down -/
theorem pair_new {K : PySem.W.Frag} {Bc H : Hp} {t : Addr} {x y : V} {d u : T} (e2 : Ex Bc H) (ht : H t = none) (d1 : Dq K Bc x d) (d2 : Dq K Bc y u) : ∃ B', News Bc H B' (upd H t (.tup [x, y])) ∧ Dq K B' (.ref t) (pair d u) :=
  ⟨_, .lay e2 ht, .prs (.inl (.inl upd_same)) (dq_ex (Ex.new (e2.back ht)) _ _ d1) (dq_ex (Ex.new (e2.back ht)) _ _ d2)⟩
theorem tw_enumL {K : PySem.W.Frag} {B : Hp} {c : Addr} {xs : List V} {ts : List T} (h : ∀ H, Ex B H → SqL K H c xs) (d : DqAll K B xs ts) : TW K (Ite K c) B (enumT 0 ts) where
  goes := fun i H hi ex => ⟨xs, xs[i]'(by rw [d.len]; rw [enumT_len] at hi; exact hi), h H ex, List.getElem?_eq_getElem _⟩
  stops := fun H ex => ⟨xs, h H ex, by rw [d.len, enumT_len]; exact Nat.le_refl _⟩
  yields := fun i H Bc x H' t ht e1 e2 y => by
    obtain ⟨q, v, rfl, hq, rfl, y⟩ := y
    obtain ⟨u, h1, rfl⟩ := enumT_get ht
    obtain ⟨v', h3, h4⟩ := d.get h1
    have h5 := y xs (h H (e1.trans e2))
    rw [h3] at h5
    cases h5
    rw [Nat.zero_add]
    exact pair_new e2 hq (.int _) (dq_ex e1 _ _ h4)
theorem tw_enumT {K : PySem.W.Frag} {B : Hp} {c : Addr} {xs : List V} {ts : List T} (h : ∀ H, Ex B H → SqX K H c xs) (d : DqAll K B xs ts) : TW K (IteT K c) B (enumT 0 ts) where
  goes := fun i H hi ex => ⟨xs, xs[i]'(by rw [d.len]; rw [enumT_len] at hi; exact hi), (h H ex).t, List.getElem?_eq_getElem _⟩
  stops := fun H ex => ⟨xs, (h H ex).t, by rw [d.len, enumT_len]⟩
  yields := fun i H Bc x H' t ht e1 e2 y => by
    obtain ⟨q, v, rfl, hq, rfl, y⟩ := y
    obtain ⟨u, h1, rfl⟩ := enumT_get ht
    obtain ⟨v', h3, h4⟩ := d.get h1
    have h5 := y xs (h H (e1.trans e2)).t
    rw [h3] at h5
    cases h5
    rw [Nat.zero_add]
    exact pair_new e2 hq (.int _) (dq_ex e1 _ _ h4)
end
end TL
end
section
set_option Elab.async false
set_option linter.all false
set_option autoImplicit false
set_option maxRecDepth 100000
namespace TL
open PySem PySem.Spec PyProof.Rows L2

section
variable {K : PySem.W.Frag} {mg : Str → Option Value} {W : WX}
/-- what a part comes to, and what is owed behind it -/
theorem res_cases {α β : Type} {F B : Hp} {σ : L2.St} {m : Res α} {f : α → En → Res β} {R : Hp → Hp → En → β → Prop} {P : Prop} (p : Post K mg W F B σ R (m.bind f))
    (h : ∀ t e1, m = .ok t e1 → (∀ B1 H1, Sta K F B1 H1 σ e1 → Grow F B B1 → Post K mg W F B1 σ R (f t e1)) → P)
    (hx : ∀ x e1, m = .exc x e1 → (∀ (R' : Hp → Hp → En → α → Prop), Post K mg W F B σ R' m) → P) : P := by
  cases m with
  | ok t e1 => exact h t e1 rfl fun B1 H1 s1 g1 => Post.up (r := f t e1) p g1
  | exc x e1 => exact hx x e1 rfl fun R' => p
  | bad => exact p.elim
theorem nodq_pair {d u : T} {ts : List T} (h : items (pair d u) = some ts) : False := by
  have h' : (ints? [(d, u), (.bool true, .none)]).map (fun ns => ns.map PyData.int) = some ts := h
  unfold ints? at h'
  split at h'
  · rename_i q; cases q
  · rename_i q
    injection q with q1 q2
    subst q2
    cases h'
  · cases h'
end
def mEnum (ms : Ml) : Ml := fun e => (ms e).bind fun us e1 => match us with
  | [.list ts] => .ok (enumT 0 ts) e1
  | [.tuple ts] => .ok (enumT 0 ts) e1
  | _ => .bad
def mZip (ms : Ml) : Ml := fun e => (ms e).bind fun us e1 => match us with
  | [.list ts, .list us] => .ok (List.zipWith pair ts us) e1
  | [.tuple ts, .tuple us] => .ok (List.zipWith pair ts us) e1
  | _ => .bad
section
variable {X : Cx} {W : WX} {a b : Expr} {p pos tpos : Pos} {elts : List Expr} {kk : Nat}
theorem i_enum {ms : Ml} (hg : Gl X "enumerate") (hm : X.mg "enumerate" = none) (ha : PA X [a] (tL X.K X.mg W ms)) (hs : starEach [a] X.env = [(false, eval a X.env)] := by rfl) :
    PI X (.Tuple elts kk tpos) (.Call (.Name "enumerate" p) [a] [] pos) (tI X.K X.mg W (mEnum ms)) := PI.imp (PI.or (pi_enum hg hm ha hs) (pi_enumT hg hm ha hs)) fun σ H R q => by
  obtain ⟨F, B, e, s, p⟩ := q
  refine res_cases p (fun us e1 hms hk => ?_) fun x e1 hms hk => .inl ⟨F, B, e, s, hk _⟩
  have hk1 := fun B1 H1 s1 g1 => hk B1 H1 s1 g1
  split at hk1
  · refine .inl ⟨F, B, e, s, ?_⟩
    rw [hms]
    intro B1 H1 s1 g1 vs d
    cases d with
    | cons d dn =>
      cases dn
      cases d with
      | lst hs ha => exact ⟨_, _, rfl, .inl (ex_rd s1.bh hs), hk1 B1 H1 s1 g1 B1 H1 s1 .refl _ (tw_enumL (fun H ex => .inl (ex_rd ex hs)) ha)⟩
  · refine .inr ⟨F, B, e, s, ?_⟩
    rw [hms]
    intro B1 H1 s1 g1 vs d
    cases d with
    | cons d dn =>
      cases dn
      cases d with
      | tup hs ha => exact ⟨_, _, rfl, ex_t s1.bh hs.t, hk1 B1 H1 s1 g1 B1 H1 s1 .refl _ (tw_enumT (fun H ex => ex_x ex hs) ha)⟩
  · refine .inl ⟨F, B, e, s, ?_⟩
    rw [hms]
    intro B1 H1 s1 g1
    exact (hk1 B1 H1 s1 g1).elim
theorem zip_get {ts us : List T} {i : Nat} {t : T} (h : (List.zipWith pair ts us)[i]? = some t) : ∃ d u, ts[i]? = some d ∧ us[i]? = some u ∧ t = pair d u := by
  rw [List.getElem?_zipWith] at h
  cases h1 : ts[i]? with
  | none => rw [h1] at h; cases h
  | some d =>
    cases h2 : us[i]? with
    | none => rw [h1, h2] at h; cases h
    | some u =>
      rw [h1, h2] at h
      cases h
      exact ⟨d, u, rfl, rfl, rfl⟩
theorem tw_zipL {K : PySem.W.Frag} {B : Hp} {c c2 : Addr} {xs ys : List V} {ts us : List T} (h : ∀ H, Ex B H → SqL K H c xs) (h2 : ∀ H, Ex B H → SqL K H c2 ys) (d : DqAll K B xs ts) (d2 : DqAll K B ys us) : TW K (Itz K c c2) B (List.zipWith pair ts us) where
  goes := fun i H hi ex => by
    rw [List.length_zipWith] at hi
    exact ⟨xs, ys, xs[i]'(by rw [d.len]; omega), ys[i]'(by rw [d2.len]; omega), h H ex, h2 H ex, List.getElem?_eq_getElem _, List.getElem?_eq_getElem _⟩
  stops := fun H ex => ⟨xs, ys, h H ex, h2 H ex, by rw [List.length_zipWith, d.len, d2.len]; omega⟩
  yields := fun i H Bc x H' t ht e1 e2 y => by
    obtain ⟨q, v, w, rfl, hq, rfl, y1, y2⟩ := y
    obtain ⟨u1, u2, k1, k2, rfl⟩ := zip_get ht
    obtain ⟨v1, m1, m2⟩ := d.get k1
    obtain ⟨v2, m3, m4⟩ := d2.get k2
    have z1 := y1 xs (h H (e1.trans e2))
    have z2 := y2 ys (h2 H (e1.trans e2))
    rw [m1] at z1
    rw [m3] at z2
    cases z1
    cases z2
    exact pair_new e2 hq (dq_ex e1 _ _ m2) (dq_ex e1 _ _ m4)
theorem tw_zipT {K : PySem.W.Frag} {B : Hp} {c c2 : Addr} {xs ys : List V} {ts us : List T} (h : ∀ H, Ex B H → SqT K H c xs) (h2 : ∀ H, Ex B H → SqT K H c2 ys) (d : DqAll K B xs ts) (d2 : DqAll K B ys us) : TW K (RZ.ItzT K c c2) B (List.zipWith pair ts us) where
  goes := fun i H hi ex => by
    rw [List.length_zipWith] at hi
    exact ⟨xs, ys, xs[i]'(by rw [d.len]; omega), ys[i]'(by rw [d2.len]; omega), h H ex, h2 H ex, List.getElem?_eq_getElem _, List.getElem?_eq_getElem _⟩
  stops := fun H ex => ⟨xs, ys, h H ex, h2 H ex, by rw [List.length_zipWith, d.len, d2.len]; omega⟩
  yields := fun i H Bc x H' t ht e1 e2 y => by
    obtain ⟨q, v, w, rfl, hq, rfl, y1, y2⟩ := y
    obtain ⟨u1, u2, k1, k2, rfl⟩ := zip_get ht
    obtain ⟨v1, m1, m2⟩ := d.get k1
    obtain ⟨v2, m3, m4⟩ := d2.get k2
    have z1 := y1 xs (h H (e1.trans e2))
    have z2 := y2 ys (h2 H (e1.trans e2))
    rw [m1] at z1
    rw [m3] at z2
    cases z1
    cases z2
    exact pair_new e2 hq (dq_ex e1 _ _ m2) (dq_ex e1 _ _ m4)
theorem i_zip {ms : Ml} (hg : Gl X "zip") (hm : X.mg "zip" = none) (ha : PA X [a, b] (tL X.K X.mg W ms)) (hs : starEach [a, b] X.env = (false, eval a X.env) :: starEach [b] X.env := by rfl) (hpl : (backTo pos (starEach [b] X.env)).any (·.1) = false := by rfl) :
    PI X (.Tuple elts kk tpos) (.Call (.Name "zip" p) [a, b] [] pos) (tI X.K X.mg W (mZip ms)) := PI.imp (RZ.pi_zipA hg hm ha hs hpl) fun σ H R q => by
  obtain ⟨F, B, e, s, p⟩ := q
  refine ⟨F, B, e, s, (Post.unbind p).mono fun B1 H1 e1 us s1 g1 p1 vs d => ?_⟩
  split at p1
  · cases d with
    | cons d dn => cases dn with
      | cons d2 dn =>
        cases dn
        cases d with
        | lst hs ha => cases d2 with
          | lst hs2 ha2 => exact ⟨_, _, _, _, rfl, .inl ⟨.inl (ex_rd s1.bh hs), .inl (ex_rd s1.bh hs2), p1 B1 H1 s1 .refl _ (tw_zipL (fun H ex => .inl (ex_rd ex hs)) (fun H ex => .inl (ex_rd ex hs2)) ha ha2)⟩⟩
  · cases d with
    | cons d dn => cases dn with
      | cons d2 dn =>
        cases dn
        cases d with
        | tup hs ha => cases d2 with
          | tup hs2 ha2 => exact ⟨_, _, _, _, rfl, .inr ⟨ex_t s1.bh hs.t, ex_t s1.bh hs2.t, p1 B1 H1 s1 .refl _ (tw_zipT (fun H ex => ex_t ex hs.t) (fun H ex => ex_t ex hs2.t) ha ha2)⟩⟩
  · exact p1.elim
end
end TL
end
section
set_option Elab.async false
set_option linter.all false
set_option autoImplicit false
set_option maxRecDepth 100000
namespace TL
open PySem PySem.Spec PyProof.Rows L2

/-! ### t.index(x) of a tuple of flat values -/
section
variable {X : Cx} {W : WX} {a b : Expr} {pos apos : Pos}
def rIdx (K : PySem.W.Frag) : V → List V → Hp → VK → Prop := fun x vs H Q => ∃ (c : Addr) (ys : List V) (y z : V) (j : Nat), x = .ref c ∧ vs = [y] ∧ SqT K H c ys ∧ flatV y = true ∧ ys.all flatV = true ∧ ys[j]? = some z ∧ eqV z y = true ∧
  (∀ (m : Nat) (w : V), m < j → ys[m]? = some w → eqV w y = false) ∧ Q (.int (j : Nat)) H
theorem mt_idx : MtR X "tuple.index" (rIdx X.K) := by
  intro pins s σ H x vs v us Q I rx rv h
  obtain ⟨c, ys, y, z, j, rfl, rfl, hq, fy, fys, hz, hzy, hno, q⟩ := h
  cases rx
  obtain ⟨uy, rfl, ry⟩ := vals1 rv
  obtain ⟨ws, rw', pl, _⟩ := I.tuple hq
  obtain ⟨⟨cls, dd, dt, sl⟩, ho, hc, n, hd⟩ := pl
  simp only at hc hd
  subst hc hd
  obtain ⟨u, hu, ru⟩ := rw'.get hz
  obtain ⟨hjl, hje⟩ := List.getElem?_eq_some_iff.mp hu
  have hj : j < ws.toArray.size := by simpa using hjl
  refine call_meets PySem.F.slot_tuple_index ⟨_, ho, rfl⟩ PySem.F.entry_tuple_index (PySem.F.args_tuple_index_2 _ _) (TI.tuple_indexAt c ws.toArray n dd sl uy (eqU y) j hj ?_ ?_)
    ⟨ho, fun w hw => mem_eqAt ry fy rw' fys w (by simpa using hw), .int (j : Nat), H, I.tok _, ⟨_, rfl⟩, q⟩
  · have e1 : ws.toArray[j] = u := by simpa using hje
    rw [e1, eqU_of ru (flat_at fys hz)]
    exact hzy
  · intro m hm hmj
    have hml : m < ws.length := by simpa using hm
    have hmy : m < ys.length := by rw [rw'.length]; exact hml
    have hy : ys[m]? = some ys[m] := List.getElem?_eq_getElem hmy
    obtain ⟨w, hw, rw2⟩ := rw'.get hy
    have e2 : ws.toArray[m] = w := by
      have := (List.getElem?_eq_some_iff.mp hw).2
      simpa using this
    rw [e2, eqU_of rw2 (flat_at fys hy)]
    exact hno m _ hmj hy
/-- the first place -/
def idxT (t : T) : Nat → List T → Option Nat
  | _, [] => none
  | n, u :: r => if eqT u t then some n else idxT t (n + 1) r
theorem idxT_ok {t : T} : ∀ {ts : List T} {n j : Nat}, idxT t n ts = some j → ∃ i u, j = n + i ∧ ts[i]? = some u ∧ eqT u t = true ∧ ∀ (m : Nat) (w : T), m < i → ts[m]? = some w → eqT w t = false
  | [], _, _, h => by cases h
  | u :: r, n, j, h => by
    unfold idxT at h
    split at h
    · cases h
      exact ⟨0, u, rfl, rfl, by assumption, fun m w hm => absurd hm (Nat.not_lt_zero _)⟩
    · rename_i hu
      obtain ⟨i, w, h1, h2, h3, h4⟩ := idxT_ok h
      refine ⟨i + 1, w, by omega, by simpa using h2, h3, fun m x hm hx => ?_⟩
      cases m with
      | zero =>
        cases hx
        exact Bool.eq_false_iff.mpr hu
      | succ m => exact h4 m x (by omega) (by simpa using hx)
def fIdx (ts : List T) (u : T) : Option RV := if flatT u && ts.all flatT then (idxT u 0 ts).map fun j => .val (.int (j : Nat)) else none
def mIdx (m mb : Mt) : Mv := fun e => (m e).bind fun t e1 => match t with
  | .tuple ts => (mb e1).bind fun u e2 => give (fIdx ts u) e2
  | _ => .bad
/-- x.name(e), x a tuple -/
def tTupM (K : PySem.W.Frag) (r : V → List V → Hp → VK → Prop) (to te : TE) : TE := fun σ H Q => to σ H fun x H1 => (∃ c xs, x = .ref c ∧ SqX K H1 c xs) ∧ te σ H1 fun y H2 => r x [y] H2 Q
theorem pe_tupM {name : Str} {id : String} {r : V → List V → Hp → VK → Prop} {to te : TE} (slot : Slot "tuple" name id) (hty : typeOf (.builtin id) = pure (.type "method_descriptor")) (hm : MtR X id r) (ho : PE X a to) (hb : PE X b te)
    (hbase : attributeBase a name X.env (eval a X.env) = eval a X.env := by rfl)
    (hfew : ((backTo pos (starEach [b] X.env)).all (fun x => !x.1) && (backToKw pos (keywordEach [] X.env)).all (fun x => x.1.isSome)
      && decide (([b] : List Expr).length + ([] : List Keyword).length + (if ([] : List Keyword).isEmpty then 0 else 1) < 30)) = true := by rfl)
    (hline : (apos.endLine == pos.line) = true := by rfl) (hs : starEach [b] X.env = (false, eval b X.env) :: starEach [] X.env := by rfl) (hplain : (backTo pos (starEach [] X.env)).any (·.1) = false := by rfl) :
    PE X (.Call (.Attribute a name apos) [b] [] pos) (tTupM X.K r to te) := ⟨fun pins s σ H Q I h => by
  refine wpAny_Call_method_late hbase hfew hline rfl (thn (ho.run pins s σ H _ I h) fun v s1 ⟨x, H1, I1, r1, ⟨c, xs, ex, hc⟩, q1⟩ => ?_)
  subst ex
  obtain rfl : v = Value.ref c := r1
  have hob : ∃ ob : Obj, s1.heap.get? c = some ob ∧ Bare1 ob := by
    rcases hc with ⟨o, hc, hb⟩ | ⟨o, _, _, hc, hb, _⟩
    · exact ⟨o, (show ObjOk X.prog X.w H1 s1.heap c (.frz o (.tup xs)) from I1.hok c _ hc).1, hb⟩
    · exact ⟨o, I1.kIn c o hc, hb⟩
  obtain ⟨ob, h1, h2⟩ := hob
  refine ⟨"tuple", id, PySem.F.plainAttrs_tuple, slot, hty, ⟨ob, h1, h2.1⟩, fun d e => ?_, ?_⟩
  · cases e
    exact ⟨ob, h1, h2.2⟩
  · have hA := (pa_cons hb pa_nil hs).run pos pins s1 σ H1 (fun vs H2 => r (.ref c) vs H2 Q) I1 q1
    rw [hs] at hA ⊢
    refine Calls.callWith_builtin (by show (false || (backTo pos (starEach [] X.env)).any (·.1)) = false; rw [hplain] <;> rfl) (Calls.evalArgs_plain ?_)
    exact thn hA fun us s2 ⟨vs, H2, I2, r2, q2⟩ => hm pins s2 σ H2 (.ref c) vs (.ref c) us Q I2 rfl r2 q2⟩
theorem x_idx {m mb : Mt} (ha : PE X a (tT X.K X.mg W m)) (hb : PE X b (tT X.K X.mg W mb))
    (hbase : attributeBase a "index" X.env (eval a X.env) = eval a X.env := by rfl)
    (hfew : ((backTo pos (starEach [b] X.env)).all (fun x => !x.1) && (backToKw pos (keywordEach [] X.env)).all (fun x => x.1.isSome)
      && decide (([b] : List Expr).length + ([] : List Keyword).length + (if ([] : List Keyword).isEmpty then 0 else 1) < 30)) = true := by rfl)
    (hline : (apos.endLine == pos.line) = true := by rfl) (hs : starEach [b] X.env = (false, eval b X.env) :: starEach [] X.env := by rfl) (hplain : (backTo pos (starEach [] X.env)).any (·.1) = false := by rfl) :
    PE X (.Call (.Attribute a "index" apos) [b] [] pos) (tV X.K X.mg W (mIdx m mb)) := PE.imp (pe_tupM PySem.F.slot_tuple_index PySem.F.type_tuple_index mt_idx ha hb hbase hfew hline hs hplain) fun σ H Q q => by
  obtain ⟨F, B, e, s, p⟩ := q
  refine ⟨F, B, e, s, (Post.unbind p).mono fun B1 H1 e1 t s1 g1 p1 v d => ?_⟩
  cases t with
  | tuple ts =>
    cases d with
    | tup hs ha =>
      refine ⟨⟨_, _, rfl, ex_x s1.bh hs⟩, F, B1, e1, s1, (Post.unbind p1).mono fun B2 H2 e2 u s2 g2 p2 w dw => ?_⟩
      refine give_ok s2 p2 fun z hz k => ?_
      unfold fIdx at hz
      split at hz
      · rename_i hf
        rw [Bool.and_eq_true] at hf
        cases hi : idxT u 0 ts with
        | none => rw [hi] at hz; cases hz
        | some j =>
          rw [hi] at hz
          cases hz
          obtain ⟨i, y, e1', h2, h3, h4⟩ := idxT_ok hi
          rw [Nat.zero_add] at e1'
          subst e1'
          have ha2 := dqs_ex g2.ex _ _ ha
          obtain ⟨vz, hvz, dz⟩ := ha2.get h2
          have fl : ∀ {m : Nat} {y : T}, ts[m]? = some y → flatT y = true := fun {m y} hy => List.all_eq_true.mp hf.2 y (List.mem_of_getElem? hy)
          refine ⟨_, _, w, vz, j, rfl, rfl, ex_t s2.bh (ex_x g2.ex hs).t, flat_ok dw hf.1, flats_ok ha2 hf.2, hvz, by rw [eq_ok dz dw (fl h2) hf.1]; exact h3, fun m x hm hx => ?_, k _ B2 H2 (.val s2.bh (.int _))⟩
          obtain ⟨dx, hdx, dd⟩ := ha2.getV hx
          rw [eq_ok dd dw (fl hdx) hf.1]
          exact h4 m dx hm hdx
      · cases hz
  | _ => exact p1.elim
end
end TL
end
section
set_option Elab.async false
set_option linter.all false
set_option autoImplicit false
set_option maxRecDepth 100000
namespace TL
open PySem PySem.Spec PyProof.Rows L2
theorem _root_.L2.Room.u64 {k : Nat} {A : Around} (r : Room k A) : A.units + 64 < cLine := r.units
theorem fn_bad {P : Program} {w : World} {K : PySem.W.Frag} {mg : Str → Option Value} {base : Heap} {CX : CXT} {k : Nat} {f : Addr} {fd : FuncData} {ps : List Str} : FnOk P w K mg base CX k f fd ps (spD K mg fun _ => .bad) :=
  ⟨fun vs H Q E h => let ⟨_, _, _, _, _, p⟩ := h; p.elim, fun A outer s H args us vs Q E _ _ _ _ h => let ⟨_, _, _, _, _, p⟩ := h; p.elim⟩

/-! ### a def called by keywords alone -/
theorem PK.imp {X : Cx} {ks : List Keyword} {t t' : TA} (h : PK X ks t) (f : ∀ σ H Q, t' σ H Q → t σ H Q) : PK X ks t' := ⟨fun pos pins s σ H Q I q => h.run pos pins s σ H Q I (f σ H Q q)⟩
def pick {α : Type} (z : α) (pm : List Nat) (xs : List α) : List α := pm.map fun i => xs.getD i z
structure KB (fd : FuncData) (ps ks : List Str) (pm : List Nat) : Prop where
  to : ∀ (s : Shared) (ws : List Value), ws.length = ks.length → BindsTo s fd ⟨[], ks.zip ws⟩ (ps.zip (pick .none pm ws))
def mCallK (D : DF) (pm : List Nat) (ms : Ml) : Mv := fun e => (ms e).bind fun ts e1 => match D ((pick .none pm ts).map .val) with
  | .ok r _ => .ok r e1
  | .exc x _ => .exc x e1
  | .bad => .bad
def mCallKW (D : DF) (pm : List Nat) (n : Nat) (ms : Ml) : Mv := fun e => (ms e).bind fun ts e1 => if ts.length = n then mCallK D pm (fun e => .ok ts e) e1 else .bad
theorem dq_pick {K : PySem.W.Frag} {B : Hp} {vs : List V} {ts : List T} (d : DqAll K B vs ts) : ∀ pm : List Nat, DqAll K B (pick .non pm vs) (pick .none pm ts)
  | [] => .nil
  | i :: pm => .cons (by
      show Dq K B (vs.getD i .non) (ts.getD i .none)
      rw [List.getD_eq_getElem?_getD, List.getD_eq_getElem?_getD]
      cases h : ts[i]? with
      | none =>
        have hv : vs[i]? = none := by
          rw [List.getElem?_eq_none_iff] at h ⊢
          rw [d.len]
          exact h
        rw [hv]
        exact .non
      | some t =>
        obtain ⟨v, h1, h2⟩ := d.get h
        rw [h1]
        exact h2) (dq_pick d pm)
theorem vals_pick {vs : List V} {us : List Value} (r : Vals vs us) : ∀ pm : List Nat, Vals (pick .non pm vs) (pick .none pm us)
  | [] => .nil
  | i :: pm => .cons (by
      show RelV (vs.getD i .non) (us.getD i .none)
      rw [List.getD_eq_getElem?_getD, List.getD_eq_getElem?_getD]
      cases h : vs[i]? with
      | none =>
        rw [r.none_of h]
        exact rfl
      | some v =>
        obtain ⟨u, h1, h2⟩ := r.get h
        rw [h1]
        exact h2) (vals_pick r pm)
section
variable {X : Cx} {W : WX} {k : Nat} {f : Addr} {fd : FuncData} {ps ks : List Str} {D : DF} {x : Str} {p pos kpos : Pos} {a : Expr} {kws : List Keyword} {nm : Option Str} {pm : List Nat}
theorem k_nil : PK X [] (tL X.K X.mg W mNil) := PK.imp pk_nil fun σ H Q q => by
  obtain ⟨F, B, e, s, p⟩ := q
  exact p B H s .refl [] .nil
theorem k_cons {m : Mt} {ms : Ml} (ha : PE X a (tT X.K X.mg W m)) (hr : PK X kws (tL X.K X.mg W ms)) : PK X (⟨nm, a, kpos⟩ :: kws) (tL X.K X.mg W (mCons m ms)) := PK.imp (pk_cons ha hr) fun σ H Q q => by
  obtain ⟨F, B, e, s, p⟩ := q
  refine ⟨F, B, e, s, (Post.unbind p).mono fun B1 H1 e1 t s1 g1 p1 v d => ?_⟩
  refine ⟨F, B1, e1, s1, (Post.unbind p1).mono fun B2 H2 e2 ts s2 g2 p2 vs ds => ?_⟩
  exact p2 B2 H2 s2 .refl (v :: vs) (.cons (dq_ex g2.ex _ _ d) ds)
theorem x_callK {ms : Ml} {n : Nat} (F : FnOk X.prog X.w X.K X.mg X.base (L2.CX X.prog X.w) k f fd ps (spD X.K X.mg D)) (hr : Room k X.A) (tk : Takes X W) (hg : Gl X x) (hm : X.mg x = some (.ref f)) (hk : PySem.W.keepIn X.K (.ref f) = true) (hb : KB fd ps ks pm) (hkw : PK X kws (tL X.K X.mg W ms))
    (hn : n = ks.length := by rfl) (hlen : kws.length = ks.length := by rfl) (hall : (backToKw pos (keywordEach kws X.env)).all (·.1.isSome) = true := by rfl) (hks : (backToKw pos (keywordEach kws X.env)).filterMap (·.1) = ks := by rfl) (hdb : (x == ("__debug__" : Str)) = false := by decide)
    (hpl : ((backTo pos (starEach [] X.env)).any (·.1) || (backToKw pos (keywordEach kws X.env)).any (·.1.isNone)) = false := by rfl) :
    PE X (.Call (.Name x p) [] kws pos) (tV X.K X.mg W (mCallKW D pm n ms)) := by
  subst hn
  refine ⟨fun pins s σ H Q I q => ?_⟩
  obtain ⟨F0, B, e, st, p⟩ := q
  refine wpAny_Call_Name_kw (ld_glob I hg hm ?_ hdb)
  refine PySem.W.callWith_KW0 (h₀ := X.base) I.ok.mod.kin hk hall (thn (hkw.run pos pins s σ H (fun vs H1 => vs.length = ks.length ∧ spD X.K X.mg D (pick .non pm vs) H1 Q (WE W σ)) I ⟨F0, B, e, st, (Post.unbind (show Post X.K X.mg W F0 B σ _ ((ms e).bind fun ts e1 => if ts.length = ks.length then mCallK D pm (fun e => .ok ts e) e1 else .bad) from p)).mono fun B1 H1 e1 ts s1 g1 p1 vs ds => ?_⟩) fun ws s2 ⟨zs, H2, I2, rz, l, q2⟩ => ⟨I2.kIn, ?_⟩) hpl
  · by_cases hl : ts.length = ks.length
    · rw [if_pos hl] at p1
      exact ⟨by rw [ds.len]; exact hl, call_vals s1 (dq_pick ds pm) p1⟩
    · rw [if_neg hl] at p1
      exact p1.elim
  · rw [hks]
    have lw : ws.length = ks.length := by rw [← rz.length]; exact l
    refine wpAny_call (codeAny_mono (F.run X.A X.stack s2 H2 ⟨[], ks.zip ws⟩ (pick .none pm ws) (pick .non pm zs) Q (WE W σ) hr I2.env0 (hb.to s2 ws lw) (vals_pick rz pm) q2) fun r s' hq => ?_)
    cases r with
    | error er => exact passAt tk σ pins H2 s2 er s' I2 hq
    | ok fl =>
      cases fl with
      | ret u => exact I2.after hq
      | next => exact False.elim hq
      | brk => exact False.elim hq
      | cont => exact False.elim hq
end

/-! ### an own exception with fields -/
/-- the promise of its __init__: the fields are set, in their order -/
def spIni (K : PySem.W.Frag) (C : Addr) (fns : List Str) : Sp := fun vs H Q _ => ∃ a ws, vs = .ref a :: ws ∧ ws.length = fns.length ∧ H a = some (exo a C none) ∧
  ∀ dx H2, H dx = none → dx ≠ a → (∀ b, b ≠ a → b ≠ dx → H2 b = H b) → H2 a = some (exo a C (some dx)) → H2 dx = some (exd dx (fns.zip ws).reverse) → Q .non H2
section
variable {P : Program} {w : World} {K : PySem.W.Frag} {mg : Str → Option Value} {base : Heap}
theorem ini2 {qual : Str} {st : Stmt} {fI C : Addr} {fd : FuncData} {f1 f2 : Str} {x1 x2 : Str} {q1 q2 q3 q4 q5 q6 q7 q8 : Pos} (F : Fun K "__init__" qual st fI fd) (S : FnScope ["self", x1, x2] ["self", x1, x2] (defScope st))
    (hb : defBody st = [.Assign [.Attribute (.Name "self" q1) f1 q2] (.Name x1 q3) q4, .Assign [.Attribute (.Name "self" q5) f2 q6] (.Name x2 q7) q8])
    (T : OexC K C) (n1 : PySem.W.findIn K (.ref C) f1 = some none) (n2 : PySem.W.findIn K (.ref C) f2 = some none)
    (v0 : Vis (defScope st) "self") (v1 : Vis (defScope st) x1) (v2 : Vis (defScope st) x2) (d1 : (x1 == ("__debug__" : Str)) = false := by decide) (c1 : (x1 == ("__classdict__" : Str)) = false := by decide) (d2 : (x2 == ("__debug__" : Str)) = false := by decide) (c2 : (x2 == ("__classdict__" : Str)) = false := by decide) :
    FnOk P w K mg base (L2.CX P w) 1 fI fd ["self", x1, x2] (spIni K C [f1, f2]) := by
  refine F.okX S (fun vs H Q E h => ?_) (fun cdv A outer s H vs Q E hr h => ?_)
  · obtain ⟨a, ws, rfl, hl, _⟩ := h
    simp only [List.length_cons] at hl ⊢
    rw [hl]
  · obtain ⟨a, ws, rfl, hl, ha, k⟩ := h
    match ws, hl with
    | [y1, y2], _ =>
      rw [hb]
      refine ⟨_, pss_cons (ps_ost (pe_var (i := 0) rfl v0) (pe_var (i := 1) rfl v1 d1 c1) (by rfl)) (pss_one (ps_ost (pe_var (i := 0) rfl v0) (pe_var (i := 2) rfl v2 d2 c2) (by rfl))), ?_⟩
      refine ⟨y1, rfl, .ref a, rfl, a, C, rfl, T, n1, .inl ⟨ha, fun dx hdx hne => ?_⟩⟩
      refine ⟨y2, rfl, .ref a, rfl, a, C, rfl, T, n2, .inr ⟨dx, [(f1, y1)], upd_same, ?_, by show 1 ≤ 900; decide, ?_⟩⟩
      · rw [upd_ne hne, upd_same]
      · refine k dx _ hdx hne (fun b h1 h2 => ?_) ?_ ?_
        · rw [upd_ne h2, upd_ne h1, upd_ne h2]
        · rw [upd_ne (Ne.symm hne), upd_same]
        · rw [upd_same]
          rfl
theorem ini1 {qual : Str} {st : Stmt} {fI C : Addr} {fd : FuncData} {f1 : Str} {x1 : Str} {q1 q2 q3 q4 : Pos} (F : Fun K "__init__" qual st fI fd) (S : FnScope ["self", x1] ["self", x1] (defScope st))
    (hb : defBody st = [.Assign [.Attribute (.Name "self" q1) f1 q2] (.Name x1 q3) q4])
    (T : OexC K C) (n1 : PySem.W.findIn K (.ref C) f1 = some none)
    (v0 : Vis (defScope st) "self") (v1 : Vis (defScope st) x1) (d1 : (x1 == ("__debug__" : Str)) = false := by decide) (c1 : (x1 == ("__classdict__" : Str)) = false := by decide) :
    FnOk P w K mg base (L2.CX P w) 1 fI fd ["self", x1] (spIni K C [f1]) := by
  refine F.okX S (fun vs H Q E h => ?_) (fun cdv A outer s H vs Q E hr h => ?_)
  · obtain ⟨a, ws, rfl, hl, _⟩ := h
    simp only [List.length_cons] at hl ⊢
    rw [hl]
  · obtain ⟨a, ws, rfl, hl, ha, k⟩ := h
    match ws, hl with
    | [y1], _ =>
      rw [hb]
      refine ⟨_, pss_one (ps_ost (pe_var (i := 0) rfl v0) (pe_var (i := 1) rfl v1 d1 c1) (by rfl)), ?_⟩
      refine ⟨y1, rfl, .ref a, rfl, a, C, rfl, T, n1, .inl ⟨ha, fun dx hdx hne => ?_⟩⟩
      refine k dx _ hdx hne (fun b h1 h2 => ?_) ?_ ?_
      · rw [upd_ne h1, upd_ne h2]
      · rw [upd_same]
      · rw [upd_ne hne, upd_same]
        rfl
end
/-- what the written part says of an own exception class and its __init__ -/
structure ExT (K : PySem.W.Frag) (mg : Str → Option Value) (x : Str) (C fI : Addr) (fd : FuncData) (ps : List Str) : Prop where
  g : mg x = some (.ref C)
  o : OexC K C
  iC : PySem.W.findIn K (.ref C) "__init__" = some (some (.ref fI))
  tI : PySem.W.typeIn K (.ref fI) = some (.type "function")
  b : Binds K fd ps []
  xf : XfC K C
  te : PySem.W.exmOne K (.ref C) (.ref C) = some true
def mRaise (cls : Str) (fns : List Str) (ms : Ml) : Ms := fun e => (ms e).bind fun ts e1 => if ts.length = fns.length then .exc ⟨cls, (fns.zip ts).reverse⟩ e1 else .bad
theorem zip_fst {α β : Type} : ∀ {xs : List α} {ys : List β}, ys.length = xs.length → (xs.zip ys).map (·.1) = xs
  | [], [], _ => rfl
  | x :: xs, y :: ys, h => by
    rw [List.zip_cons_cons, List.map_cons, zip_fst (by simpa using h)]
  | [], _ :: _, h => by simp at h
  | _ :: _, [], h => by simp at h
theorem zip_snd {α β : Type} : ∀ {xs : List α} {ys : List β}, ys.length = xs.length → (xs.zip ys).map (·.2) = ys
  | [], [], _ => rfl
  | x :: xs, y :: ys, h => by
    rw [List.zip_cons_cons, List.map_cons, zip_snd (by simpa using h)]
  | [], _ :: _, h => by simp at h
  | _ :: _, [], h => by simp at h
theorem passF {X : Cx} : Passes (L2.CX X.prog X.w) X (fun _ _ _ => False) := fun _ _ _ _ _ _ _ h => by
  obtain ⟨_, _, _, _, _, _, _, _, _, _, _, _, z⟩ := h
  exact z.elim
section
variable {X : Cx} {W : WX} {keep : List Nat} {x : Str} {C fI : Addr} {fd : FuncData} {ps fns : List Str} {a : Expr} {es : List Expr} {ms : Ml} {p pos pos2 : Pos}
theorem s_raise (hc : X.calm = true) (E : ExT X.K X.mg x C fI fd ps) (F : FnOk X.prog X.w X.K X.mg X.base (L2.CX X.prog X.w) 1 fI fd ps (spIni X.K C fns)) (hr : Room 2 X.A) (tk : Takes X W) (hg : Gl X x) (hz : fns.length ≤ 1000) (ha : PA X (a :: es) (tL X.K X.mg W ms))
    (hdb : (x == ("__debug__" : Str)) = false := by decide) (he : starEach (a :: es) X.env = (false, eval a X.env) :: starEach es X.env := by rfl) (hpl : (backTo pos (starEach es X.env)).any (·.1) = false := by rfl) :
    PS X (.Raise (some (.Call (.Name x p) (a :: es) [] pos)) none pos2) (tS X.K X.mg W keep (mRaise x fns ms)) := PS.imp (ps_raise hc tk (pmk_oex (dvs := []) E.o E.iC E.tI F hr E.b .nil passF hg E.g ha hdb he hpl)) fun D σ H q => by
  obtain ⟨F, B, e, s, p⟩ := q
  refine ⟨F, B, e, s, (PostS.unbind p).mono fun B1 H1 e1 ts s1 g1 p1 vs d => ?_⟩
  by_cases hl : ts.length = fns.length
  · rw [if_pos hl] at p1
    have lv : vs.length = fns.length := by rw [d.len]; exact hl
    refine ⟨by omega, fun c hc => ⟨c, vs, by rw [List.append_nil], lv, upd_same, fun dx H2 hdx hne hb h2a h2d => ⟨rfl, dx, _, h2a, h2d, ?_, ?_⟩⟩⟩
    · rw [upd_ne hne] at hdx
      exact hdx
    · rw [upd_ne hne] at hdx
      have gg : ∀ b o, H1 b = some o → upd (del H2 c) dx (.xd (fns.zip vs).reverse) b = some o := fun b o h => by
        have n1 : b ≠ dx := ne_of_none h hdx
        have n2 : b ≠ c := ne_of_none h hc
        rw [upd_ne n1, del_ne n2, hb b n2 n1, upd_ne n2]
        exact h
      have nw : News B1 H1 (upd B1 dx (.xd (fns.zip vs).reverse)) (upd (del H2 c) dx (.xd (fns.zip vs).reverse)) :=
        ⟨Ex.new (s1.bh.back hdx), fun b o h => by
          by_cases hbd : b = dx
          · subst hbd
            rw [upd_same] at h ⊢
            exact h
          · rw [upd_ne hbd] at h
            exact gg b o (s1.bh b o h), gg, fun b h1 h2 => by
          by_cases hbd : b = dx
          · rw [hbd]; exact hdx
          · rw [upd_ne hbd] at h2
            exact absurd h1 h2⟩
      refine p1 σ _ _ _ _ (s1.news nw) (nw.grow s1.fh) .refl ⟨C, dx, _, E.g, rfl, rfl, upd_same, ?_, ?_⟩
      · rw [List.map_reverse, List.map_reverse, zip_fst lv, zip_fst hl]
      · rw [List.map_reverse, List.map_reverse, zip_snd lv, zip_snd hl]
        exact (dqs_ex nw.ex _ _ d).rev
  · rw [if_neg hl] at p1
    exact p1.elim
end
end TL
end
section
set_option Elab.async false
set_option linter.all false
set_option autoImplicit false
set_option maxRecDepth 100000
namespace TL
open PySem PySem.Spec PyProof.Rows L2
/-! ### try with one clause 'except C as n' -/
def exnT (a dx : Nat) (fs : List (Str × T)) : T := .dict ((.str "exn", .int a) :: (.int dx, .none) :: fs.map fun p => (.str p.1, p.2))
def fgt (i : Nat) : Res Out → Res Out
  | .ok o e => .ok o (e.set i none)
  | _ => .bad
def mTry (n i : Nat) (cls : Str) (m : Ms) (su : Nat → Nat → Ms) : Ms := fun e => match m e with
  | .exc x e1 => if x.cls = cls ∧ e1.length = n ∧ i < n then fgt i (su 0 0 (e1.set i (some (.val (exnT 0 0 x.fs))))) else .bad
  | r => r
abbrev WN : WX := fun _ _ _ _ => False
theorem Sta.gone {K : PySem.W.Frag} {F B H : Hp} {σ : L2.St} {e : En} (s : Sta K F B H σ e) (i : Nat) : Sta K F B H (σ.set i none) (e.set i none) :=
  have get : ∀ (j : Nat) (r : RV), (e.set i none)[j]? = some (some r) → e[j]? = some (some r) ∧ i ≠ j := fun j r h => by
    by_cases hj : i = j
    · subst hj
      by_cases hl : i < e.length
      · rw [List.getElem?_set_self hl] at h
        cases h
      · rw [List.getElem?_eq_none (by simpa using hl)] at h
        cases h
    · rw [List.getElem?_set_ne hj] at h
      exact ⟨h, hj⟩
  ⟨s.fh, s.bh, fun j r h => by
    obtain ⟨h1, h2⟩ := get j r h
    rw [List.getElem?_set_ne h2]
    exact s.ent j r h1, by rw [List.length_set, List.length_set]; exact s.ln, fun j k v ts us h1 h2 h3 h4 => by
    obtain ⟨g1, n1⟩ := get j _ h1
    obtain ⟨g2, n2⟩ := get k _ h2
    rw [List.getElem?_set_ne n1] at h3
    rw [List.getElem?_set_ne n2] at h4
    exact s.dj j k v ts us g1 g2 h3 h4⟩
theorem RvOk.gone {K : PySem.W.Frag} {F B H : Hp} {σ : L2.St} {e : En} {v : V} {r : RV} (h : RvOk K F B H σ e v r) (i : Nat) : RvOk K F B H (σ.set i none) (e.set i none) v r :=
  ⟨h.1, fun ts hr j us h2 => by
    by_cases hj : i = j
    · subst hj
      by_cases hl : i < e.length
      · rw [List.getElem?_set_self hl] at h2
        cases h2
      · rw [List.getElem?_eq_none (by simpa using hl)] at h2
        cases h2
    · rw [List.getElem?_set_ne hj] at h2 ⊢
      exact h.2 ts hr j us h2⟩
theorem Kept.over {keep : List Nat} {σ σ1 σ' : L2.St} {i : Nat} {x y : Option V} (hk : i ∉ keep) (a : Kept keep σ σ1) (b : Kept keep (σ1.set i x) σ') : Kept keep σ (σ'.set i y) := fun j hj => by
  have ne : i ≠ j := fun z => hk (z ▸ hj)
  rw [List.getElem?_set_ne ne, b j hj, List.getElem?_set_ne ne]
  exact a j hj
theorem fgt_ok {K : PySem.W.Frag} {mg : Str → Option Value} {W : WX} {keep : List Nat} {F B B1 : Hp} {σ σ1 : L2.St} {D : Ends} {i : Nat} {x : Option V} {r : Res Out} (hk : i ∉ keep) (g0 : Grow F B B1) (k0 : Kept keep σ σ1) (p : PostS K mg W keep F B σ D (fgt i r)) :
    PostS K mg WN keep F B1 (σ1.set i x) { nx := fun σ' H' => D.nx (σ'.set i none) H', rt := D.rt, bk := fun σ' H' => D.bk (σ'.set i none) H', ct := fun σ' H' => D.ct (σ'.set i none) H' } r := by
  cases r with
  | ok o e =>
    cases o with
    | nx => exact fun σ' B' H' s g k => p _ B' H' (s.gone i) (g0.trans g) (k0.over hk k)
    | bk => exact fun σ' B' H' s g k => p _ B' H' (s.gone i) (g0.trans g) (k0.over hk k)
    | ct => exact fun σ' B' H' s g k => p _ B' H' (s.gone i) (g0.trans g) (k0.over hk k)
    | rt u => exact fun σ' v B' H' s g k r => p _ v B' H' (s.gone i) (g0.trans g) (k0.over hk k) (r.gone i)
  | exc y e => exact p.elim
  | bad => exact p.elim
section
variable {X : Cx} {W : WX} {keep : List Nat} {n i : Nat} {nm x : Str} {C fI : Addr} {fd : FuncData} {ps : List Str} {body suite : List Stmt} {b₀ : Stmt} {m : Ms} {su : Nat → Nat → Ms} {np pos pos' : Pos}
theorem s_try (hN : X.N.Nodup) (hi : X.N[i]? = some nm) (hln : X.env.kindOf nm = some .local) (E : ExT X.K X.mg x C fI fd ps) (hg : Gl X x) (tk : Takes X W)
    (hb : ∀ (W : WX) (pn : List (Addr × Obj)) (xe : Value → Shared → Prop), Takes (X.tr pn xe) W → PSs (X.tr pn xe) body (tS X.K X.mg W keep m))
    (hsu : ∀ (a dx : Nat) (oe : Obj) (pn : List (Addr × Obj)), Zc (.ref C) (some dx) oe → (∃ vs, oe.data = .fields vs) → PSs (X.suite a ((a, oe) :: pn)) (b₀ :: suite) (tS X.K X.mg WN keep (su a dx)))
    (hI : ∀ (a dx : Nat) (fs : List (Str × T)) (e : En), e.length = n → fgt i (su a dx (e.set i (some (.val (exnT a dx fs))))) = fgt i (su 0 0 (e.set i (some (.val (exnT 0 0 fs))))))
    (hk : i ∉ keep := by decide) (hdb : (x == ("__debug__" : Str)) = false := by decide) (hs : X.stack = X.env :: X.outer := by rfl) (hf : X.env.frame = some X.env.locals := by rfl) :
    PS X (.Try body [.ExceptHandler (some (.Name x np)) (some nm) (b₀ :: suite) pos'] [] [] pos) (tS X.K X.mg W keep (mTry n i x m su)) := by
  refine PS.imp (ps_try_as hs hf hN hi hln ⟨hg, hdb, .inl E.g⟩ tk (tb := fun W' => tS X.K X.mg W' keep m) (ts := fun a cls d D σ H => ∃ dx, cls = .ref C ∧ d = some dx ∧ tS X.K X.mg WN keep (su a dx) D σ H) (fun W pn xe tk _ => hb W pn xe tk)
    (fun a oe cls d pn hz hf' => ⟨fun pins s σ H D I h => ?_⟩)) fun D σ H q => ?_
  · obtain ⟨dx, rfl, rfl, q⟩ := h
    exact (hsu a dx oe pn hz hf').run pins s σ H D I q
  · obtain ⟨F, B, e, s, p⟩ := q
    refine ⟨F, B, e, s, ?_⟩
    unfold mTry at p
    cases hm : m e with
    | ok o e1 =>
      rw [hm] at p
      cases o <;> exact p
    | bad =>
      rw [hm] at p
      exact p.elim
    | exc y e1 =>
      rw [hm] at p
      dsimp only at p
      intro σ' c d B' H' s' g k xo
      by_cases hc : y.cls = x ∧ e1.length = n ∧ i < n
      · rw [if_pos hc] at p
        obtain ⟨C', dx, gs, h1, rfl, rfl, hB, hn, hD⟩ := xo
        obtain ⟨hx, hl, hin⟩ := hc
        have hC : C' = C := by
          rw [hx, E.g] at h1
          cases h1
          rfl
        subst hC
        refine ⟨true, E.te, fun _ a ha => ⟨dx, rfl, rfl, ?_⟩, fun z => nomatch z⟩
        rw [← hI a dx y.fs e1 hl] at p
        have rv : RvOk X.K F B' H' σ' e1 (.ref a) (.val (exnT a dx y.fs)) := ⟨.exn hB hn hD, fun _ z => nomatch z⟩
        exact ⟨F, B', _, s'.put rv, fgt_ok hk g k p⟩
      · rw [if_neg hc] at p
        exact p.elim
end
/-! ### in the suite: a field of the exception, isinstance of it -/
def look (f : Str) : List (T × T) → Option T
  | [] => none
  | (.str g, t) :: r => if f = g then some t else look f r
  | _ :: _ => none
def mFldE (a dx : Nat) (f : Str) (m : Mt) : Mt := fun e => (m e).bind fun t e1 => match t with
  | .dict ((_, .int a') :: (.int d', _) :: fs) => if a' = (a : Int) ∧ d' = (dx : Int) then match look f fs with
    | some t => .ok t e1
    | none => .bad else .bad
  | _ => .bad
def mIsE (a dx : Nat) (b : Bool) (m : Mt) : Mt := fun e => (m e).bind fun t e1 => match t with
  | .dict ((_, .int a') :: (.int d', _) :: _) => if a' = (a : Int) ∧ d' = (dx : Int) then .ok (.bool b) e1 else .bad
  | _ => .bad
theorem look_ok {K : PySem.W.Frag} {B : Hp} {f : Str} {t : T} : ∀ {gs : List (Str × V)} {fs : List (Str × T)}, gs.map (·.1) = fs.map (·.1) → DqAll K B (gs.map (·.2)) (fs.map (·.2)) → look f (fs.map fun p => (.str p.1, p.2)) = some t → ∃ v, gs.lookup f = some v ∧ Dq K B v t
  | [], [], _, _, h => by cases h
  | [], _ :: _, h, _, _ => by simp at h
  | _ :: _, [], h, _, _ => by simp at h
  | (g, v) :: gs, (f1, u) :: fs, h, d, hl => by
    simp only [List.map_cons, List.cons.injEq] at h
    obtain ⟨rfl, h2⟩ := h
    have hl' : (if f = g then some u else look f (fs.map fun p => (.str p.1, p.2))) = some t := hl
    cases d with
    | cons d1 d2 =>
      by_cases hf : f = g
      · rw [if_pos hf] at hl'
        cases hl'
        refine ⟨v, ?_, d1⟩
        rw [hf, List.lookup_cons_self]
      · rw [if_neg hf] at hl'
        obtain ⟨w, e1, e2⟩ := look_ok h2 d2 hl'
        refine ⟨w, ?_, e2⟩
        rw [List.lookup_cons, show (f == g) = false from beq_false_of_ne hf]
        exact e1
theorem exn_inv {K : PySem.W.Frag} {B : Hp} {v : V} {z y w : T} {a d : Int} {fs : List (T × T)} (h : Dq K B v (.dict ((z, .int a) :: (.int d, y) :: fs))) : ∃ (a' dx : Nat) (gs : List (Str × V)) (hs : List (Str × T)), v = .ref a' ∧ a = (a' : Int) ∧ d = (dx : Int) ∧ fs = hs.map (fun p => (.str p.1, p.2)) ∧ B dx = some (.xd gs) ∧ gs.map (·.1) = hs.map (·.1) ∧ DqAll K B (gs.map (·.2)) (hs.map (·.2)) := by
  generalize hk : (PyData.dict ((z, .int a) :: (.int d, y) :: fs)) = k at h
  cases h with
  | exn h1 h2 h3 =>
    cases hk
    exact ⟨_, _, _, _, rfl, rfl, rfl, rfl, h1, h2, h3⟩
  | scr h1 =>
    rename_i ns
    match ns with
    | [] => cases hk
    | n :: ns => cases hk
  | prs => cases hk
  | _ => cases hk
/-- what an own exception class says of isinstance -/
structure XiC (K : PySem.W.Frag) (D : Addr) : Prop where
  c : L2.ExcC K D
  x : L2.XfC K D
def rIsD (K : PySem.W.Frag) (D a dx : Addr) : List V → Hp → VK → Prop := fun xs H Q => ∃ (c : V) (cv : Value) (b : Bool) (gs : List (Str × V)), xs = [.ref a, c] ∧ (∀ u, RelV c u → u = cv) ∧ PySem.W.kitOne K (.ref D) cv = some b ∧ H dx = some (.xd gs) ∧ Q (.bl b) H
theorem call_isD {X : Cx} {a D dx : Addr} {oe : Obj} {pn : List (Addr × Obj)} (C : L2.ExcC X.K D) (hz : Zc (.ref D) (some dx) oe) (hf : ∃ vs, oe.data = .fields vs) : CallR (X.suite a ((a, oe) :: pn)) (.builtin "isinstance") (rIsD X.K D a dx) := by
  intro pins s σ H xs us Q I r h
  obtain ⟨c, cv, b, gs, rfl, hcv, e, hH, q⟩ := h
  match us, r with
  | [_, u], .cons rx (.cons rt .nil) =>
    cases rx
    have ec := hcv _ rt
    subst ec
    obtain ⟨mA, hns, -⟩ := (show ObjOk X.prog X.w H s.heap dx (.xd gs) from I.hok dx _ hH)
    obtain ⟨od, ho, -⟩ := lookIn_ns hns
    have hget := (I.pin (a, oe) (List.mem_append_left _ List.mem_cons_self)).1
    obtain ⟨vs, hv⟩ := hf
    have J : PySem.W.InstAt s.heap a oe D (some od) := ⟨hget, hz.1, by unfold PySem.W.notCls; rw [hv] <;> rfl, by rw [hz.2]; exact ho⟩
    have hcl : (PySem.W.clsIn X.K D).isSome = true := by
      obtain ⟨cd, hc, _⟩ := PySem.W.any_some C.hd
      rw [hc]; rfl
    exact PySem.W.kia_one (PySem.W.kitx_exc hcl C.hg C.hk C.hs C.ha C.hn C.ht C.hm) I.kIn J e (fun z => nomatch z) fun tk => ⟨.bl b, H, I.kept (t' := tk) fun _ _ z => z, rfl, q⟩
section
variable {X : Cx} {a D dx : Addr} {oe : Obj} {pn : List (Addr × Obj)} {W : WX} {e : Expr} {m : Mt} {f x : Str} {pos p q : Pos} {b : Bool}
theorem x_fldE (T : L2.XfC X.K D) (hno : PySem.W.findIn X.K (.ref D) f = some none) (hz : Zc (.ref D) (some dx) oe) (hf : ∃ vs, oe.data = .fields vs) (he : PE (X.suite a ((a, oe) :: pn)) e (tT X.K X.mg W m))
    (hb : attributeBase e f X.env (eval e X.env) = eval e X.env := by rfl) : PE (X.suite a ((a, oe) :: pn)) (.Attribute e f pos) (tT X.K X.mg W (mFldE a dx f m)) := PE.imp (pe_xf T hno hz hf he hb) fun σ H Q q => by
  obtain ⟨F, B, en, s, p⟩ := q
  refine ⟨F, B, en, s, (Post.unbind p).mono fun B1 H1 e1 t s1 g1 p1 v d => ?_⟩
  split at p1
  · rename_i a' d' y fs
    obtain ⟨a2, dx2, gs, hs, rfl, rfl, rfl, rfl, hB, h1, h2⟩ := exn_inv (w := .none) d
    split at p1
    · rename_i hc
      obtain ⟨c1, c2⟩ := hc
      cases Int.ofNat.inj c1
      cases Int.ofNat.inj c2
      split at p1
      · rename_i t hl
        obtain ⟨v, l1, l2⟩ := look_ok h1 h2 hl
        exact ⟨rfl, rfl, dx, gs, v, rfl, s1.bh _ _ hB, l1, p1 B1 H1 s1 .refl _ l2⟩
      · exact p1.elim
    · exact p1.elim
  · exact p1.elim
theorem isE_ok {c : V} {cv : Value} {p1 : Pos} {B : Hp} {y : Str} (C : L2.ExcC X.K D) (hz : Zc (.ref D) (some dx) oe) (hf : ∃ vs, oe.data = .fields vs) (hg : Gl X "isinstance") (hm : X.mg "isinstance" = none) (hc : PE (X.suite a ((a, oe) :: pn)) (.Name y q) (tC c)) (hcv : ∀ u, RelV c u → u = cv)
    (hk : PySem.W.kitOne X.K (.ref D) cv = some b) (he : PE (X.suite a ((a, oe) :: pn)) e (tT X.K X.mg W m)) (h1 : starEach [e, .Name y q] X.env = (false, eval e X.env) :: starEach [.Name y q] X.env := by rfl) (h2 : (backTo pos (starEach [.Name y q] X.env)).any (·.1) = false := by rfl) :
    PE (X.suite a ((a, oe) :: pn)) (.Call (.Name "isinstance" p) [e, .Name y q] [] pos) (tT X.K X.mg W (mIsE a dx b m)) :=
  PE.imp (pe_callB (X := X.suite a ((a, oe) :: pn)) (call_isD C hz hf) hg hm (by decide +kernel) (pa_cons he (pa_cons hc pa_nil (by rfl)) h1) (by decide) (by decide) h1 h2) fun σ H Q q => by
  obtain ⟨F, B, en, s, p⟩ := q
  refine ⟨F, B, en, s, (Post.unbind p).mono fun B1 H1 e1 t s1 g1 p1 v d => ?_⟩
  split at p1
  · rename_i a' d' y fs
    obtain ⟨a2, dx2, gs, hs, rfl, rfl, rfl, rfl, hB, h1, h2⟩ := exn_inv (w := .none) d
    split at p1
    · rename_i hc
      obtain ⟨c1, c2⟩ := hc
      cases Int.ofNat.inj c1
      cases Int.ofNat.inj c2
      exact ⟨c, cv, b, gs, rfl, hcv, hk, s1.bh _ _ hB, p1 B1 H1 s1 .refl _ (.bl b)⟩
    · exact p1.elim
  · exact p1.elim
/-- isinstance(e, C), C a class of the module -/
theorem x_isO {C2 : Addr} (C : L2.ExcC X.K D) (hz : Zc (.ref D) (some dx) oe) (hf : ∃ vs, oe.data = .fields vs) (hg : Gl X "isinstance") (hm : X.mg "isinstance" = none) (hg2 : Gl X x) (hm2 : X.mg x = some (.ref C2)) (hk : PySem.W.kitOne X.K (.ref D) (.ref C2) = some b)
    (he : PE (X.suite a ((a, oe) :: pn)) e (tT X.K X.mg W m)) (hd : (x == ("__debug__" : Str)) = false := by decide) (h1 : starEach [e, .Name x q] X.env = (false, eval e X.env) :: starEach [.Name x q] X.env := by rfl) (h2 : (backTo pos (starEach [.Name x q] X.env)).any (·.1) = false := by rfl) :
    PE (X.suite a ((a, oe) :: pn)) (.Call (.Name "isinstance" p) [e, .Name x q] [] pos) (tT X.K X.mg W (mIsE a dx b m)) :=
  isE_ok (B := fun _ => none) (p1 := pos) C hz hf hg hm (pe_glob (X := X.suite a ((a, oe) :: pn)) (v := .ref C2) hg2 hm2 rfl hd) (fun u h => h) hk he h1 h2
/-- isinstance(e, T), T a built-in class -/
theorem x_isB {T2 : String} (C : L2.ExcC X.K D) (hz : Zc (.ref D) (some dx) oe) (hf : ∃ vs, oe.data = .fields vs) (hg : Gl X "isinstance") (hm : X.mg "isinstance" = none) (hg2 : Gl X x) (hm2 : X.mg x = none) (hv : bootBuiltins x = some (.type T2)) (hk : PySem.W.kitOne X.K (.ref D) (.type T2) = some b)
    (he : PE (X.suite a ((a, oe) :: pn)) e (tT X.K X.mg W m)) (hn : x ≠ "__name__" := by decide) (hd : (x == ("__debug__" : Str)) = false := by decide) (h1 : starEach [e, .Name x q] X.env = (false, eval e X.env) :: starEach [.Name x q] X.env := by rfl) (h2 : (backTo pos (starEach [.Name x q] X.env)).any (·.1) = false := by rfl) :
    PE (X.suite a ((a, oe) :: pn)) (.Call (.Name "isinstance" p) [e, .Name x q] [] pos) (tT X.K X.mg W (mIsE a dx b m)) :=
  isE_ok (B := fun _ => none) (p1 := pos) C hz hf hg hm (pe_bltn (X := X.suite a ((a, oe) :: pn)) (v := .ty T2) hg2 hm2 hv rfl hn hd) (fun u h => h) hk he h1 h2
end
theorem KB.of {K : PySem.W.Frag} {x qual : Str} {st : Stmt} {f : Addr} {fd : FuncData} {ps ks : List Str} {pm : List Nat} (F : Fun K x qual st f fd)
    (h : ∀ (kV doc pm' : Value) (an : Option Addr) (cdv ct : Value) (ws : List Value), ws.length = ks.length → bindArgs (PySem.W.fnOf x qual (defArgs st) (defBody st) (defScope st) .none kV doc pm' an cdv ct) ⟨[], ks.zip ws⟩ = pure (ps.zip (pick .none pm ws))) : KB fd ps ks pm := by
  obtain ⟨oc, od, kV, doc, pm', an, cdv, ct, osl, rfl, lk, hcd⟩ := F.ex
  exact ⟨fun s ws hl => .of_eq (h kV doc pm' an cdv ct ws hl)⟩
end TL
end
section
set_option Elab.async false
set_option linter.all false
set_option autoImplicit false
set_option maxRecDepth 100000
set_option maxHeartbeats 4000000
namespace G
open PySem PySem.Spec PyProof.Rows L2 TL
def topS (i : Nat) : Stmt := PySem.Challenge.pw_howeverled_k00_kinds_and_the_web_checker.main.body.getD i (.Pass ⟨0, 0, 0, 0⟩)
def inC (i j : Nat) : Stmt := match topS i with
  | .ClassDef _ _ _ body .. => body.getD j (.Pass ⟨0, 0, 0, 0⟩)
  | _ => .Pass ⟨0, 0, 0, 0⟩
abbrev s_is_integer : Stmt := topS 7
abbrev N_is_integer : List Str := ["thing"]
theorem sc_is_integer : FnScope N_is_integer ["thing"] (defScope s_is_integer) := ⟨rfl, rfl, rfl, by decide +kernel, rfl, by decide +kernel, by decide +kernel⟩
abbrev s_is_number : Stmt := topS 8
abbrev N_is_number : List Str := ["thing"]
theorem sc_is_number : FnScope N_is_number ["thing"] (defScope s_is_number) := ⟨rfl, rfl, rfl, by decide +kernel, rfl, by decide +kernel, by decide +kernel⟩
abbrev s_is_positive : Stmt := topS 9
abbrev N_is_positive : List Str := ["thing"]
theorem sc_is_positive : FnScope N_is_positive ["thing"] (defScope s_is_positive) := ⟨rfl, rfl, rfl, by decide +kernel, rfl, by decide +kernel, by decide +kernel⟩
abbrev s_is_tuple_of : Stmt := topS 11
abbrev N_is_tuple_of : List Str := ["many", "thing"]
theorem sc_is_tuple_of : FnScope N_is_tuple_of ["many", "thing"] (defScope s_is_tuple_of) := ⟨rfl, rfl, rfl, by decide +kernel, rfl, by decide +kernel, by decide +kernel⟩
abbrev s_is_quotient : Stmt := topS 10
abbrev N_is_quotient : List Str := ["thing", "top", "bottom"]
theorem sc_is_quotient : FnScope N_is_quotient ["thing"] (defScope s_is_quotient) := ⟨rfl, rfl, rfl, by decide +kernel, rfl, by decide +kernel, by decide +kernel⟩
abbrev s_are_below : Stmt := topS 12
abbrev N_are_below : List Str := ["size", "thing", "one"]
theorem sc_are_below : FnScope N_are_below ["size", "thing"] (defScope s_are_below) := ⟨rfl, rfl, rfl, by decide +kernel, rfl, by decide +kernel, by decide +kernel⟩
abbrev s_is_lot : Stmt := topS 13
abbrev N_is_lot : List Str := ["size", "thing", "one", "other"]
theorem sc_is_lot : FnScope N_is_lot ["size", "thing"] (defScope s_is_lot) := ⟨rfl, rfl, rfl, by decide +kernel, rfl, by decide +kernel, by decide +kernel⟩
abbrev s_is_purses : Stmt := topS 14
abbrev N_is_purses : List Str := ["size", "thing", "purse"]
theorem sc_is_purses : FnScope N_is_purses ["size", "thing"] (defScope s_is_purses) := ⟨rfl, rfl, rfl, by decide +kernel, rfl, by decide +kernel, by decide +kernel⟩
abbrev s_is_joining : Stmt := topS 15
abbrev N_is_joining : List Str := ["many", "thing", "least", "place"]
theorem sc_is_joining : FnScope N_is_joining ["many", "thing"] (defScope s_is_joining) := ⟨rfl, rfl, rfl, by decide +kernel, rfl, by decide +kernel, by decide +kernel⟩
abbrev s_line_fault : Stmt := topS 16
abbrev N_line_fault : List Str := ["size", "line", "one", "other", "room"]
theorem sc_line_fault : FnScope N_line_fault ["size", "line"] (defScope s_line_fault) := ⟨rfl, rfl, rfl, by decide +kernel, rfl, by decide +kernel, by decide +kernel⟩
abbrev s_web_fault : Stmt := topS 17
abbrev N_web_fault : List Str := ["thing", "size", "lines", "place", "line", "word"]
theorem sc_web_fault : FnScope N_web_fault ["thing"] (defScope s_web_fault) := ⟨rfl, rfl, rfl, by decide +kernel, rfl, by decide +kernel, by decide +kernel⟩
abbrev s_is_web : Stmt := topS 18
abbrev N_is_web : List Str := ["thing"]
theorem sc_is_web : FnScope N_is_web ["thing"] (defScope s_is_web) := ⟨rfl, rfl, rfl, by decide +kernel, rfl, by decide +kernel, by decide +kernel⟩
abbrev s_is_split : Stmt := topS 19
abbrev N_is_split : List Str := ["web", "thing", "_", "lines", "line", "near"]
theorem sc_is_split : FnScope N_is_split ["web", "thing"] (defScope s_is_split) := ⟨rfl, rfl, rfl, by decide +kernel, rfl, by decide +kernel, by decide +kernel⟩
abbrev s_lets_web : Stmt := topS 21
abbrev N_lets_web : List Str := ["thing", "fault", "word", "at"]
theorem sc_lets_web : FnScope N_lets_web ["thing"] (defScope s_lets_web) := ⟨rfl, rfl, rfl, by decide +kernel, rfl, by decide +kernel, by decide +kernel⟩
abbrev s__law_pool : Stmt := topS 23
abbrev N__law_pool : List Str := ["_law_script", "_law_pool_here", "_law_state", "_law_cell", "_law_k", "_law_left"]
theorem sc__law_pool : FnScope N__law_pool ["_law_script"] (defScope s__law_pool) := ⟨rfl, rfl, rfl, by decide +kernel, rfl, by decide +kernel, by decide +kernel⟩
abbrev s__law_take : Stmt := topS 24
abbrev N__law_take : List Str := ["_law_pool_here", "_law_bound"]
theorem sc__law_take : FnScope N__law_take ["_law_pool_here", "_law_bound"] (defScope s__law_take) := ⟨rfl, rfl, rfl, by decide +kernel, rfl, by decide +kernel, by decide +kernel⟩
abbrev s__law_great : Stmt := topS 25
abbrev N__law_great : List Str := ["_law_pool_here", "_law_value", "_law_k"]
theorem sc__law_great : FnScope N__law_great ["_law_pool_here"] (defScope s__law_great) := ⟨rfl, rfl, rfl, by decide +kernel, rfl, by decide +kernel, by decide +kernel⟩
abbrev s__law_int : Stmt := topS 26
abbrev N__law_int : List Str := ["_law_value"]
theorem sc__law_int : FnScope N__law_int ["_law_value"] (defScope s__law_int) := ⟨rfl, rfl, rfl, by decide +kernel, rfl, by decide +kernel, by decide +kernel⟩
abbrev s__law_same : Stmt := topS 27
abbrev N__law_same : List Str := ["_law_got", "_law_due_here", "_law_k"]
theorem sc__law_same : FnScope N__law_same ["_law_got", "_law_due_here"] (defScope s__law_same) := ⟨rfl, rfl, rfl, by decide +kernel, rfl, by decide +kernel, by decide +kernel⟩
abbrev s__law_room : Stmt := topS 28
abbrev N__law_room : List Str := ["_law_pool_here", "_law_choice"]
theorem sc__law_room : FnScope N__law_room ["_law_pool_here"] (defScope s__law_room) := ⟨rfl, rfl, rfl, by decide +kernel, rfl, by decide +kernel, by decide +kernel⟩
abbrev s__law_net : Stmt := topS 29
abbrev N__law_net : List Str := ["_law_pool_here", "_law_n", "_law_rows", "_law_k", "_law_low", "_law_high"]
theorem sc__law_net : FnScope N__law_net ["_law_pool_here"] (defScope s__law_net) := ⟨rfl, rfl, rfl, by decide +kernel, rfl, by decide +kernel, by decide +kernel⟩
abbrev s__law_odd : Stmt := topS 30
abbrev N__law_odd : List Str := ["_law_pool_here", "_law_menu"]
theorem sc__law_odd : FnScope N__law_odd ["_law_pool_here"] (defScope s__law_odd) := ⟨rfl, rfl, rfl, by decide +kernel, rfl, by decide +kernel, by decide +kernel⟩
abbrev s__law_spoilt : Stmt := topS 31
abbrev N__law_spoilt : List Str := ["_law_pool_here", "_law_value", "_law_way", "_law_n", "_law_rows", "_law_place", "_law_odd_here", "_law_row", "_law_end", "_law_spot"]
theorem sc__law_spoilt : FnScope N__law_spoilt ["_law_pool_here", "_law_value"] (defScope s__law_spoilt) := ⟨rfl, rfl, rfl, by decide +kernel, rfl, by decide +kernel, by decide +kernel⟩
abbrev s__law_bent : Stmt := topS 32
abbrev N__law_bent : List Str := ["_law_pool_here", "_law_row", "_law_n", "_law_way", "_law_place"]
theorem sc__law_bent : FnScope N__law_bent ["_law_pool_here", "_law_row", "_law_n"] (defScope s__law_bent) := ⟨rfl, rfl, rfl, by decide +kernel, rfl, by decide +kernel, by decide +kernel⟩
abbrev s__law_word : Stmt := topS 33
abbrev N__law_word : List Str := ["_law_value", "_law_k", "_law_row"]
theorem sc__law_word : FnScope N__law_word ["_law_value"] (defScope s__law_word) := ⟨rfl, rfl, rfl, by decide +kernel, rfl, by decide +kernel, by decide +kernel⟩
abbrev s__law_lowest : Stmt := topS 34
abbrev N__law_lowest : List Str := ["_law_value", "_law_left", "_law_rest", "_law_k", "_law_kept"]
theorem sc__law_lowest : FnScope N__law_lowest ["_law_value"] (defScope s__law_lowest) := ⟨rfl, rfl, rfl, by decide +kernel, rfl, by decide +kernel, by decide +kernel⟩
abbrev s__law_numbers : Stmt := topS 35
abbrev N__law_numbers : List Str := ["_law_value", "_law_x"]
theorem sc__law_numbers : FnScope N__law_numbers ["_law_value"] (defScope s__law_numbers) := ⟨rfl, rfl, rfl, by decide +kernel, rfl, by decide +kernel, by decide +kernel⟩
abbrev s__law_due : Stmt := topS 36
abbrev N__law_due : List Str := ["_law_value", "_law_n", "_law_net_here", "_law_whole", "_law_lot", "_law_purses", "_law_joins", "_law_halves", "_law_number", "_law_fits", "_law_k"]
theorem sc__law_due : FnScope N__law_due ["_law_value", "_law_n", "_law_net_here"] (defScope s__law_due) := ⟨rfl, rfl, rfl, by decide +kernel, rfl, by decide +kernel, by decide +kernel⟩
abbrev s__law_told : Stmt := topS 37
abbrev N__law_told : List Str := ["_law_value", "_law_n", "_law_net_here", "_law_named", "_law_first", "_law_more"]
theorem sc__law_told : FnScope N__law_told ["_law_value", "_law_n", "_law_net_here", "_law_named"] (defScope s__law_told) := ⟨rfl, rfl, rfl, by decide +kernel, rfl, by decide +kernel, by decide +kernel⟩
abbrev s__law_heard : Stmt := topS 38
abbrev N__law_heard : List Str := ["_law_value", "_law_named", "e", "_law_kin"]
theorem sc__law_heard : FnScope N__law_heard ["_law_value", "_law_named"] (defScope s__law_heard) := ⟨rfl, rfl, rfl, by decide +kernel, rfl, by decide +kernel, by decide +kernel⟩
abbrev s__law_checked : Stmt := topS 39
abbrev N__law_checked : List Str := ["_law_value", "_law_named", "_law_due_here"]
theorem sc__law_checked : FnScope N__law_checked ["_law_value", "_law_named"] (defScope s__law_checked) := ⟨rfl, rfl, rfl, by decide +kernel, rfl, by decide +kernel, by decide +kernel⟩
abbrev s__law_written : Stmt := topS 40
abbrev N__law_written : List Str := ["_law_menu", "_law_deep", "_law_k"]
theorem sc__law_written : FnScope N__law_written [] (defScope s__law_written) := ⟨rfl, rfl, rfl, by decide +kernel, rfl, by decide +kernel, by decide +kernel⟩
abbrev s__law_wide : Stmt := topS 41
abbrev N__law_wide : List Str := ["_law_pool_here", "_law_end", "_law_rows", "_law_place", "_law_spot", "_law_row", "_law_k"]
theorem sc__law_wide : FnScope N__law_wide ["_law_pool_here"] (defScope s__law_wide) := ⟨rfl, rfl, rfl, by decide +kernel, rfl, by decide +kernel, by decide +kernel⟩
abbrev s_law : Stmt := topS 42
abbrev N_law : List Str := ["_law_script", "_law_pool_here", "_law_net_here", "_law_n", "_law_named", "_law_lot", "_law_purses", "_law_joins", "_law_k", "_law_halves", "_law_times", "_law_share", "_law_near", "_law_values", "_law_once", "_law_scene", "_law_value", "_law_due_here", "_law_row"]
theorem sc_law : FnScope N_law ["_law_script"] (defScope s_law) := ⟨rfl, rfl, rfl, by decide +kernel, rfl, by decide +kernel, by decide +kernel⟩
abbrev si_InvalidPaper : Stmt := inC 5 0
structure Txt (K : PySem.W.Frag) (mg : Str → Option Value) (A : Nat → Addr) (FD : Nat → FuncData) (CA CI : Nat → Addr) (FC : Nat → FuncData) : Prop where
  g_is_integer : mg "is_integer" = some (.ref (A 0))
  F_is_integer : Fun K "is_integer" "is_integer" s_is_integer (A 0) (FD 0)
  g_is_number : mg "is_number" = some (.ref (A 1))
  F_is_number : Fun K "is_number" "is_number" s_is_number (A 1) (FD 1)
  g_is_positive : mg "is_positive" = some (.ref (A 2))
  F_is_positive : Fun K "is_positive" "is_positive" s_is_positive (A 2) (FD 2)
  g_is_tuple_of : mg "is_tuple_of" = some (.ref (A 3))
  F_is_tuple_of : Fun K "is_tuple_of" "is_tuple_of" s_is_tuple_of (A 3) (FD 3)
  g_is_quotient : mg "is_quotient" = some (.ref (A 4))
  F_is_quotient : Fun K "is_quotient" "is_quotient" s_is_quotient (A 4) (FD 4)
  g_are_below : mg "are_below" = some (.ref (A 5))
  F_are_below : Fun K "are_below" "are_below" s_are_below (A 5) (FD 5)
  g_is_lot : mg "is_lot" = some (.ref (A 6))
  F_is_lot : Fun K "is_lot" "is_lot" s_is_lot (A 6) (FD 6)
  g_is_purses : mg "is_purses" = some (.ref (A 7))
  F_is_purses : Fun K "is_purses" "is_purses" s_is_purses (A 7) (FD 7)
  g_is_joining : mg "is_joining" = some (.ref (A 8))
  F_is_joining : Fun K "is_joining" "is_joining" s_is_joining (A 8) (FD 8)
  g_line_fault : mg "line_fault" = some (.ref (A 9))
  F_line_fault : Fun K "line_fault" "line_fault" s_line_fault (A 9) (FD 9)
  g_web_fault : mg "web_fault" = some (.ref (A 10))
  F_web_fault : Fun K "web_fault" "web_fault" s_web_fault (A 10) (FD 10)
  g_is_web : mg "is_web" = some (.ref (A 11))
  F_is_web : Fun K "is_web" "is_web" s_is_web (A 11) (FD 11)
  g_is_split : mg "is_split" = some (.ref (A 12))
  F_is_split : Fun K "is_split" "is_split" s_is_split (A 12) (FD 12)
  g_lets_web : mg "lets_web" = some (.ref (A 13))
  F_lets_web : Fun K "lets_web" "lets_web" s_lets_web (A 13) (FD 13)
  g__law_pool : mg "_law_pool" = some (.ref (A 14))
  F__law_pool : Fun K "_law_pool" "_law_pool" s__law_pool (A 14) (FD 14)
  g__law_take : mg "_law_take" = some (.ref (A 15))
  F__law_take : Fun K "_law_take" "_law_take" s__law_take (A 15) (FD 15)
  g__law_great : mg "_law_great" = some (.ref (A 16))
  F__law_great : Fun K "_law_great" "_law_great" s__law_great (A 16) (FD 16)
  g__law_int : mg "_law_int" = some (.ref (A 17))
  F__law_int : Fun K "_law_int" "_law_int" s__law_int (A 17) (FD 17)
  g__law_same : mg "_law_same" = some (.ref (A 18))
  F__law_same : Fun K "_law_same" "_law_same" s__law_same (A 18) (FD 18)
  g__law_room : mg "_law_room" = some (.ref (A 19))
  F__law_room : Fun K "_law_room" "_law_room" s__law_room (A 19) (FD 19)
  g__law_net : mg "_law_net" = some (.ref (A 20))
  F__law_net : Fun K "_law_net" "_law_net" s__law_net (A 20) (FD 20)
  g__law_odd : mg "_law_odd" = some (.ref (A 21))
  F__law_odd : Fun K "_law_odd" "_law_odd" s__law_odd (A 21) (FD 21)
  g__law_spoilt : mg "_law_spoilt" = some (.ref (A 22))
  F__law_spoilt : Fun K "_law_spoilt" "_law_spoilt" s__law_spoilt (A 22) (FD 22)
  g__law_bent : mg "_law_bent" = some (.ref (A 23))
  F__law_bent : Fun K "_law_bent" "_law_bent" s__law_bent (A 23) (FD 23)
  g__law_word : mg "_law_word" = some (.ref (A 24))
  F__law_word : Fun K "_law_word" "_law_word" s__law_word (A 24) (FD 24)
  g__law_lowest : mg "_law_lowest" = some (.ref (A 25))
  F__law_lowest : Fun K "_law_lowest" "_law_lowest" s__law_lowest (A 25) (FD 25)
  g__law_numbers : mg "_law_numbers" = some (.ref (A 26))
  F__law_numbers : Fun K "_law_numbers" "_law_numbers" s__law_numbers (A 26) (FD 26)
  g__law_due : mg "_law_due" = some (.ref (A 27))
  F__law_due : Fun K "_law_due" "_law_due" s__law_due (A 27) (FD 27)
  g__law_told : mg "_law_told" = some (.ref (A 28))
  F__law_told : Fun K "_law_told" "_law_told" s__law_told (A 28) (FD 28)
  g__law_heard : mg "_law_heard" = some (.ref (A 29))
  F__law_heard : Fun K "_law_heard" "_law_heard" s__law_heard (A 29) (FD 29)
  g__law_checked : mg "_law_checked" = some (.ref (A 30))
  F__law_checked : Fun K "_law_checked" "_law_checked" s__law_checked (A 30) (FD 30)
  g__law_written : mg "_law_written" = some (.ref (A 31))
  F__law_written : Fun K "_law_written" "_law_written" s__law_written (A 31) (FD 31)
  g__law_wide : mg "_law_wide" = some (.ref (A 32))
  F__law_wide : Fun K "_law_wide" "_law_wide" s__law_wide (A 32) (FD 32)
  g_law : mg "law" = some (.ref (A 33))
  F_law : Fun K "law" "law" s_law (A 33) (FD 33)
  n_ValueError : mg "ValueError" = none
  n_abs : mg "abs" = none
  n_all : mg "all" = none
  n_bool : mg "bool" = none
  n_enumerate : mg "enumerate" = none
  n_int : mg "int" = none
  n_isinstance : mg "isinstance" = none
  n_len : mg "len" = none
  n_list : mg "list" = none
  n_min : mg "min" = none
  n_range : mg "range" = none
  n_str : mg "str" = none
  n_tuple : mg "tuple" = none
  n_zip : mg "zip" = none
  x_InvalidPaper : ExT K mg "InvalidPaper" (CA 3) (CI 3) (FC 3) ["self", "word", "at"]
  FI_InvalidPaper : Fun K "__init__" "InvalidPaper.__init__" si_InvalidPaper (CI 3) (FC 3)
  xi_InvalidPaper : L2.ExcC K (CA 3)
  no_InvalidPaper_at : PySem.W.findIn K (.ref (CA 3)) "at" = some none
  no_InvalidPaper_word : PySem.W.findIn K (.ref (CA 3)) "word" = some none
  gc_LedError : mg "LedError" = some (.ref (CA 0))
  gc_PaperError : mg "PaperError" = some (.ref (CA 1))
  gc_WebError : mg "WebError" = some (.ref (CA 2))
  kit_InvalidPaper_LedError : PySem.W.kitOne K (.ref (CA 3)) (.ref (CA 0)) = some true
  kit_InvalidPaper_PaperError : PySem.W.kitOne K (.ref (CA 3)) (.ref (CA 1)) = some true
  kit_InvalidPaper_ValueError : PySem.W.kitOne K (.ref (CA 3)) (.type "ValueError") = some true
  kit_InvalidPaper_WebError : PySem.W.kitOne K (.ref (CA 3)) (.ref (CA 2)) = some false
  i_gcd : mg "gcd" = some (.builtin "math.gcd")
theorem bd_is_integer {K : PySem.W.Frag} {f : Addr} {fd : FuncData} (F : Fun K "is_integer" "is_integer" s_is_integer f fd) : Binds K fd ["thing"] [] := F.binds fun _ _ _ _ _ _ us hl => match us, hl with | [_], _ => rfl
theorem bd_is_number {K : PySem.W.Frag} {f : Addr} {fd : FuncData} (F : Fun K "is_number" "is_number" s_is_number f fd) : Binds K fd ["thing"] [] := F.binds fun _ _ _ _ _ _ us hl => match us, hl with | [_], _ => rfl
theorem bd_is_positive {K : PySem.W.Frag} {f : Addr} {fd : FuncData} (F : Fun K "is_positive" "is_positive" s_is_positive f fd) : Binds K fd ["thing"] [] := F.binds fun _ _ _ _ _ _ us hl => match us, hl with | [_], _ => rfl
theorem bd_is_tuple_of {K : PySem.W.Frag} {f : Addr} {fd : FuncData} (F : Fun K "is_tuple_of" "is_tuple_of" s_is_tuple_of f fd) : Binds K fd ["many", "thing"] [] := F.binds fun _ _ _ _ _ _ us hl => match us, hl with | [_, _], _ => rfl
theorem bd_is_quotient {K : PySem.W.Frag} {f : Addr} {fd : FuncData} (F : Fun K "is_quotient" "is_quotient" s_is_quotient f fd) : Binds K fd ["thing"] [] := F.binds fun _ _ _ _ _ _ us hl => match us, hl with | [_], _ => rfl
theorem bd_are_below {K : PySem.W.Frag} {f : Addr} {fd : FuncData} (F : Fun K "are_below" "are_below" s_are_below f fd) : Binds K fd ["size", "thing"] [] := F.binds fun _ _ _ _ _ _ us hl => match us, hl with | [_, _], _ => rfl
theorem bd_is_lot {K : PySem.W.Frag} {f : Addr} {fd : FuncData} (F : Fun K "is_lot" "is_lot" s_is_lot f fd) : Binds K fd ["size", "thing"] [] := F.binds fun _ _ _ _ _ _ us hl => match us, hl with | [_, _], _ => rfl
theorem bd_is_purses {K : PySem.W.Frag} {f : Addr} {fd : FuncData} (F : Fun K "is_purses" "is_purses" s_is_purses f fd) : Binds K fd ["size", "thing"] [] := F.binds fun _ _ _ _ _ _ us hl => match us, hl with | [_, _], _ => rfl
theorem bd_is_joining {K : PySem.W.Frag} {f : Addr} {fd : FuncData} (F : Fun K "is_joining" "is_joining" s_is_joining f fd) : Binds K fd ["many", "thing"] [] := F.binds fun _ _ _ _ _ _ us hl => match us, hl with | [_, _], _ => rfl
theorem bd_line_fault {K : PySem.W.Frag} {f : Addr} {fd : FuncData} (F : Fun K "line_fault" "line_fault" s_line_fault f fd) : Binds K fd ["size", "line"] [] := F.binds fun _ _ _ _ _ _ us hl => match us, hl with | [_, _], _ => rfl
theorem bd_web_fault {K : PySem.W.Frag} {f : Addr} {fd : FuncData} (F : Fun K "web_fault" "web_fault" s_web_fault f fd) : Binds K fd ["thing"] [] := F.binds fun _ _ _ _ _ _ us hl => match us, hl with | [_], _ => rfl
theorem bd_is_web {K : PySem.W.Frag} {f : Addr} {fd : FuncData} (F : Fun K "is_web" "is_web" s_is_web f fd) : Binds K fd ["thing"] [] := F.binds fun _ _ _ _ _ _ us hl => match us, hl with | [_], _ => rfl
theorem bd_is_split {K : PySem.W.Frag} {f : Addr} {fd : FuncData} (F : Fun K "is_split" "is_split" s_is_split f fd) : Binds K fd ["web", "thing"] [] := F.binds fun _ _ _ _ _ _ us hl => match us, hl with | [_, _], _ => rfl
theorem bd_lets_web {K : PySem.W.Frag} {f : Addr} {fd : FuncData} (F : Fun K "lets_web" "lets_web" s_lets_web f fd) : Binds K fd ["thing"] [] := F.binds fun _ _ _ _ _ _ us hl => match us, hl with | [_], _ => rfl
theorem bd__law_pool {K : PySem.W.Frag} {f : Addr} {fd : FuncData} (F : Fun K "_law_pool" "_law_pool" s__law_pool f fd) : Binds K fd ["_law_script"] [] := F.binds fun _ _ _ _ _ _ us hl => match us, hl with | [_], _ => rfl
theorem bd__law_take {K : PySem.W.Frag} {f : Addr} {fd : FuncData} (F : Fun K "_law_take" "_law_take" s__law_take f fd) : Binds K fd ["_law_pool_here", "_law_bound"] [] := F.binds fun _ _ _ _ _ _ us hl => match us, hl with | [_, _], _ => rfl
theorem bd__law_great {K : PySem.W.Frag} {f : Addr} {fd : FuncData} (F : Fun K "_law_great" "_law_great" s__law_great f fd) : Binds K fd ["_law_pool_here"] [] := F.binds fun _ _ _ _ _ _ us hl => match us, hl with | [_], _ => rfl
theorem bd__law_int {K : PySem.W.Frag} {f : Addr} {fd : FuncData} (F : Fun K "_law_int" "_law_int" s__law_int f fd) : Binds K fd ["_law_value"] [] := F.binds fun _ _ _ _ _ _ us hl => match us, hl with | [_], _ => rfl
theorem bd__law_same {K : PySem.W.Frag} {f : Addr} {fd : FuncData} (F : Fun K "_law_same" "_law_same" s__law_same f fd) : Binds K fd ["_law_got", "_law_due_here"] [] := F.binds fun _ _ _ _ _ _ us hl => match us, hl with | [_, _], _ => rfl
theorem bd__law_room {K : PySem.W.Frag} {f : Addr} {fd : FuncData} (F : Fun K "_law_room" "_law_room" s__law_room f fd) : Binds K fd ["_law_pool_here"] [] := F.binds fun _ _ _ _ _ _ us hl => match us, hl with | [_], _ => rfl
theorem bd__law_net {K : PySem.W.Frag} {f : Addr} {fd : FuncData} (F : Fun K "_law_net" "_law_net" s__law_net f fd) : Binds K fd ["_law_pool_here"] [] := F.binds fun _ _ _ _ _ _ us hl => match us, hl with | [_], _ => rfl
theorem bd__law_odd {K : PySem.W.Frag} {f : Addr} {fd : FuncData} (F : Fun K "_law_odd" "_law_odd" s__law_odd f fd) : Binds K fd ["_law_pool_here"] [] := F.binds fun _ _ _ _ _ _ us hl => match us, hl with | [_], _ => rfl
theorem bd__law_spoilt {K : PySem.W.Frag} {f : Addr} {fd : FuncData} (F : Fun K "_law_spoilt" "_law_spoilt" s__law_spoilt f fd) : Binds K fd ["_law_pool_here", "_law_value"] [] := F.binds fun _ _ _ _ _ _ us hl => match us, hl with | [_, _], _ => rfl
theorem bd__law_bent {K : PySem.W.Frag} {f : Addr} {fd : FuncData} (F : Fun K "_law_bent" "_law_bent" s__law_bent f fd) : Binds K fd ["_law_pool_here", "_law_row", "_law_n"] [] := F.binds fun _ _ _ _ _ _ us hl => match us, hl with | [_, _, _], _ => rfl
theorem bd__law_word {K : PySem.W.Frag} {f : Addr} {fd : FuncData} (F : Fun K "_law_word" "_law_word" s__law_word f fd) : Binds K fd ["_law_value"] [] := F.binds fun _ _ _ _ _ _ us hl => match us, hl with | [_], _ => rfl
theorem bd__law_lowest {K : PySem.W.Frag} {f : Addr} {fd : FuncData} (F : Fun K "_law_lowest" "_law_lowest" s__law_lowest f fd) : Binds K fd ["_law_value"] [] := F.binds fun _ _ _ _ _ _ us hl => match us, hl with | [_], _ => rfl
theorem bd__law_numbers {K : PySem.W.Frag} {f : Addr} {fd : FuncData} (F : Fun K "_law_numbers" "_law_numbers" s__law_numbers f fd) : Binds K fd ["_law_value"] [] := F.binds fun _ _ _ _ _ _ us hl => match us, hl with | [_], _ => rfl
theorem bd__law_due {K : PySem.W.Frag} {f : Addr} {fd : FuncData} (F : Fun K "_law_due" "_law_due" s__law_due f fd) : Binds K fd ["_law_value", "_law_n", "_law_net_here"] [] := F.binds fun _ _ _ _ _ _ us hl => match us, hl with | [_, _, _], _ => rfl
theorem bd__law_told {K : PySem.W.Frag} {f : Addr} {fd : FuncData} (F : Fun K "_law_told" "_law_told" s__law_told f fd) : Binds K fd ["_law_value", "_law_n", "_law_net_here", "_law_named"] [] := F.binds fun _ _ _ _ _ _ us hl => match us, hl with | [_, _, _, _], _ => rfl
theorem bd__law_heard {K : PySem.W.Frag} {f : Addr} {fd : FuncData} (F : Fun K "_law_heard" "_law_heard" s__law_heard f fd) : Binds K fd ["_law_value", "_law_named"] [] := F.binds fun _ _ _ _ _ _ us hl => match us, hl with | [_, _], _ => rfl
theorem bd__law_checked {K : PySem.W.Frag} {f : Addr} {fd : FuncData} (F : Fun K "_law_checked" "_law_checked" s__law_checked f fd) : Binds K fd ["_law_value", "_law_named"] [] := F.binds fun _ _ _ _ _ _ us hl => match us, hl with | [_, _], _ => rfl
theorem bd__law_written {K : PySem.W.Frag} {f : Addr} {fd : FuncData} (F : Fun K "_law_written" "_law_written" s__law_written f fd) : Binds K fd [] [] := F.binds fun _ _ _ _ _ _ us hl => match us, hl with | [], _ => rfl
theorem bd__law_wide {K : PySem.W.Frag} {f : Addr} {fd : FuncData} (F : Fun K "_law_wide" "_law_wide" s__law_wide f fd) : Binds K fd ["_law_pool_here"] [] := F.binds fun _ _ _ _ _ _ us hl => match us, hl with | [_], _ => rfl
theorem bd_law {K : PySem.W.Frag} {f : Addr} {fd : FuncData} (F : Fun K "law" "law" s_law f fd) : Binds K fd ["_law_script"] [] := F.binds fun _ _ _ _ _ _ us hl => match us, hl with | [_], _ => rfl
section
variable {P : Program} {w : World} {K : PySem.W.Frag} {mg : Str → Option Value} {base : Heap} {A : Nat → Addr} {FD : Nat → FuncData} {CA CI : Nat → Addr} {FC : Nat → FuncData}
theorem sc_ini_InvalidPaper : FnScope ["self", "word", "at"] ["self", "word", "at"] (defScope si_InvalidPaper) := ⟨rfl, rfl, rfl, by decide +kernel, rfl, by decide +kernel, by decide +kernel⟩
theorem ini_InvalidPaper (T : Txt K mg A FD CA CI FC) : FnOk P w K mg base (L2.CX P w) 1 (CI 3) (FC 3) ["self", "word", "at"] (spIni K (CA 3) ["word", "at"]) := ini2 T.FI_InvalidPaper sc_ini_InvalidPaper rfl T.x_InvalidPaper.o T.no_InvalidPaper_word T.no_InvalidPaper_at (by first | exact .inl rfl | exact .inr (.inl rfl) | exact .inr (.inr rfl)) (by first | exact .inl rfl | exact .inr (.inl rfl) | exact .inr (.inr rfl)) (by first | exact .inl rfl | exact .inr (.inl rfl) | exact .inr (.inr rfl))
theorem kb_is_integer_0 {f : Addr} {fd : FuncData} (F : Fun K "is_integer" "is_integer" s_is_integer f fd) : KB fd ["thing"] ["thing"] [0] := KB.of F fun _ _ _ _ _ _ ws hl => match ws, hl with | [_], _ => rfl
theorem kb_is_joining_1_0 {f : Addr} {fd : FuncData} (F : Fun K "is_joining" "is_joining" s_is_joining f fd) : KB fd ["many", "thing"] ["thing", "many"] [1, 0] := KB.of F fun _ _ _ _ _ _ ws hl => match ws, hl with | [_, _], _ => rfl
theorem kb_is_lot_1_0 {f : Addr} {fd : FuncData} (F : Fun K "is_lot" "is_lot" s_is_lot f fd) : KB fd ["size", "thing"] ["thing", "size"] [1, 0] := KB.of F fun _ _ _ _ _ _ ws hl => match ws, hl with | [_, _], _ => rfl
theorem kb_is_number_0 {f : Addr} {fd : FuncData} (F : Fun K "is_number" "is_number" s_is_number f fd) : KB fd ["thing"] ["thing"] [0] := KB.of F fun _ _ _ _ _ _ ws hl => match ws, hl with | [_], _ => rfl
theorem kb_is_purses_1_0 {f : Addr} {fd : FuncData} (F : Fun K "is_purses" "is_purses" s_is_purses f fd) : KB fd ["size", "thing"] ["thing", "size"] [1, 0] := KB.of F fun _ _ _ _ _ _ ws hl => match ws, hl with | [_, _], _ => rfl
theorem kb_is_quotient_0 {f : Addr} {fd : FuncData} (F : Fun K "is_quotient" "is_quotient" s_is_quotient f fd) : KB fd ["thing"] ["thing"] [0] := KB.of F fun _ _ _ _ _ _ ws hl => match ws, hl with | [_], _ => rfl
theorem kb_is_split_1_0 {f : Addr} {fd : FuncData} (F : Fun K "is_split" "is_split" s_is_split f fd) : KB fd ["web", "thing"] ["thing", "web"] [1, 0] := KB.of F fun _ _ _ _ _ _ ws hl => match ws, hl with | [_, _], _ => rfl
theorem kb_is_web_0 {f : Addr} {fd : FuncData} (F : Fun K "is_web" "is_web" s_is_web f fd) : KB fd ["thing"] ["thing"] [0] := KB.of F fun _ _ _ _ _ _ ws hl => match ws, hl with | [_], _ => rfl
theorem kb_lets_web_0 {f : Addr} {fd : FuncData} (F : Fun K "lets_web" "lets_web" s_lets_web f fd) : KB fd ["thing"] ["thing"] [0] := KB.of F fun _ _ _ _ _ _ ws hl => match ws, hl with | [_], _ => rfl
def M_is_integer : Ms := (mRet (mVal (mAndV (mIsi .int (mVar 0)) (mNotV (mIsi .bool (mVar 0))))))
def D_is_integer : DF := runDef 1 1 [0] M_is_integer
theorem ok_is_integer (T : Txt K mg A FD CA CI FC) : FnOk P w K mg base (L2.CX P w) 1 (A 0) (FD 0) ["thing"] (spD K mg D_is_integer) := by
  refine def_ok T.F_is_integer sc_is_integer fun cdv A outer s H E hr tk => ?_
  have nd := sc_is_integer.nd
  have hu := hr.u64
  exact (ss_one (s_ret (x_val (x_and (x_isi (y := .int) rfl T.n_isinstance rfl T.n_int (x_var (i := 0) rfl (by first | exact .inl rfl | exact .inr (.inl rfl) | exact .inr (.inr rfl)))) (x_one (x_not (x_isi (y := .bool) rfl T.n_isinstance rfl T.n_bool (x_var (i := 0) rfl (by first | exact .inl rfl | exact .inr (.inl rfl) | exact .inr (.inr rfl))))))))))
def M_is_number : Ms := (mRet (mVal (mAndV (mTree (mCall D_is_integer (mCons (mVar 0) mNil))) (mTree (m2 fGe (mVar 0) (mC (.int 0)))))))
def D_is_number : DF := runDef 1 1 [0] M_is_number
theorem ok_is_number (T : Txt K mg A FD CA CI FC) : FnOk P w K mg base (L2.CX P w) 2 (A 1) (FD 1) ["thing"] (spD K mg D_is_number) := by
  refine def_ok T.F_is_number sc_is_number fun cdv A outer s H E hr tk => ?_
  have nd := sc_is_number.nd
  have hu := hr.u64
  exact (ss_one (s_ret (x_val (x_and (x_tree (x_call (ok_is_integer T) (hr.mono (by decide)) tk rfl T.g_is_integer T.F_is_integer.kp (bd_is_integer T.F_is_integer) (x_cons (x_var (i := 0) rfl (by first | exact .inl rfl | exact .inr (.inl rfl) | exact .inr (.inr rfl))) x_nil))) (x_one (x_tree (x_cmp op_ge f_cmp (x_var (i := 0) rfl (by first | exact .inl rfl | exact .inr (.inl rfl) | exact .inr (.inr rfl))) x_int (nomark _))))))))
def M_is_positive : Ms := (mRet (mVal (mAndV (mTree (mCall D_is_integer (mCons (mVar 0) mNil))) (mTree (m2 fGe (mVar 0) (mC (.int 1)))))))
def D_is_positive : DF := runDef 1 1 [0] M_is_positive
theorem ok_is_positive (T : Txt K mg A FD CA CI FC) : FnOk P w K mg base (L2.CX P w) 2 (A 2) (FD 2) ["thing"] (spD K mg D_is_positive) := by
  refine def_ok T.F_is_positive sc_is_positive fun cdv A outer s H E hr tk => ?_
  have nd := sc_is_positive.nd
  have hu := hr.u64
  exact (ss_one (s_ret (x_val (x_and (x_tree (x_call (ok_is_integer T) (hr.mono (by decide)) tk rfl T.g_is_integer T.F_is_integer.kp (bd_is_integer T.F_is_integer) (x_cons (x_var (i := 0) rfl (by first | exact .inl rfl | exact .inr (.inl rfl) | exact .inr (.inr rfl))) x_nil))) (x_one (x_tree (x_cmp op_ge f_cmp (x_var (i := 0) rfl (by first | exact .inl rfl | exact .inr (.inl rfl) | exact .inr (.inr rfl))) x_int (nomark _))))))))
def M_is_tuple_of : Ms := (mRet (mVal (mAndV (mIsi .tup (mVar 1)) (mTree (m2 fEq (mLenV 1) (mVar 0))))))
def D_is_tuple_of : DF := runDef 2 2 [0, 1] M_is_tuple_of
theorem ok_is_tuple_of (T : Txt K mg A FD CA CI FC) : FnOk P w K mg base (L2.CX P w) 1 (A 3) (FD 3) ["many", "thing"] (spD K mg D_is_tuple_of) := by
  refine def_ok T.F_is_tuple_of sc_is_tuple_of fun cdv A outer s H E hr tk => ?_
  have nd := sc_is_tuple_of.nd
  have hu := hr.u64
  exact (ss_one (s_ret (x_val (x_and (x_isi (y := .tup) rfl T.n_isinstance rfl T.n_tuple (x_var (i := 1) rfl (by first | exact .inl rfl | exact .inr (.inl rfl) | exact .inr (.inr rfl)))) (x_one (x_tree (x_cmp (op_eq.or (op_eqD hu)) f_eq (x_lenV (i := 1) rfl T.n_len rfl (by first | exact .inl rfl | exact .inr (.inl rfl) | exact .inr (.inr rfl))) (x_var (i := 0) rfl (by first | exact .inl rfl | exact .inr (.inl rfl) | exact .inr (.inr rfl))) (nomark _))))))))
def M_is_quotient : Ms := (mSeq (mIfS (mNotT (mTst (mTree (mCall D_is_tuple_of (mCons (mC (.int 2)) (mCons (mVar 0) mNil))))))
  (mRet (mVal (mC (.bool false))))
  mNx)
  (mSeq (mAsg (gT (gsCons (gN 1) (gsCons (gN 2) gsNil)) 2) (mVar 0))
  (mRet (mVal (mAndV (mTree (mCall D_is_integer (mCons (mVar 1) mNil))) (mAndV (mTree (mCall D_is_positive (mCons (mVar 2) mNil))) (mTree (m2 fEq (mTree (mN fGcd (mCons (mVar 1) (mCons (mVar 2) mNil)))) (mC (.int 1))))))))))
def D_is_quotient : DF := runDef 3 1 [0] M_is_quotient
theorem ok_is_quotient (T : Txt K mg A FD CA CI FC) : FnOk P w K mg base (L2.CX P w) 3 (A 4) (FD 4) ["thing"] (spD K mg D_is_quotient) := by
  refine def_ok T.F_is_quotient sc_is_quotient fun cdv A outer s H E hr tk => ?_
  have nd := sc_is_quotient.nd
  have hu := hr.u64
  exact (ss_cons (s_if (o_not (o_val (x_tree (x_call (ok_is_tuple_of T) (hr.mono (by decide)) tk rfl T.g_is_tuple_of T.F_is_tuple_of.kp (bd_is_tuple_of T.F_is_tuple_of) (x_cons x_int (x_cons (x_var (i := 0) rfl (by first | exact .inl rfl | exact .inr (.inl rfl) | exact .inr (.inr rfl))) x_nil))))))
  (ss_one (s_ret (x_val x_bl)))
  ss_nil)
  (ss_cons (s_asg (x_var (i := 0) rfl (by first | exact .inl rfl | exact .inr (.inl rfl) | exact .inr (.inr rfl))) (g_tup rfl (gs_cons (g_name (i := 1) nd rfl (by first | exact .inl rfl | exact .inr rfl)) (gs_cons (g_name (i := 2) nd rfl (by first | exact .inl rfl | exact .inr rfl)) gs_nil))) rfl)
  (ss_one (s_ret (x_val (x_and (x_tree (x_call (ok_is_integer T) (hr.mono (by decide)) tk rfl T.g_is_integer T.F_is_integer.kp (bd_is_integer T.F_is_integer) (x_cons (x_var (i := 1) rfl (by first | exact .inl rfl | exact .inr (.inl rfl) | exact .inr (.inr rfl))) x_nil))) (x_and (x_tree (x_call (ok_is_positive T) (hr.mono (by decide)) tk rfl T.g_is_positive T.F_is_positive.kp (bd_is_positive T.F_is_positive) (x_cons (x_var (i := 2) rfl (by first | exact .inl rfl | exact .inr (.inl rfl) | exact .inr (.inr rfl))) x_nil))) (x_one (x_tree (x_cmp (op_eq.or (op_eqD hu)) f_eq (x_tree (x_imp cr_gcd f_gcd rfl T.i_gcd (x_cons (x_var (i := 1) rfl (by first | exact .inl rfl | exact .inr (.inl rfl) | exact .inr (.inr rfl))) (x_cons (x_var (i := 2) rfl (by first | exact .inl rfl | exact .inr (.inl rfl) | exact .inr (.inr rfl))) x_nil)))) x_int (nomark _)))))))))))
def M_are_below : Ms := (mRet (mVal (mAndV (mIsi .tup (mVar 1)) (mTree (mN fAll (mCons (mTree (mComp (mSeq1 (mVar 1)) (gN 2) mYes (mAndV (mTree (mCall D_is_number (mCons (mVar 2) mNil))) (mTree (m2 fLt (mVar 2) (mVar 0)))) [2])) mNil))))))
def D_are_below : DF := runDef 3 2 [0, 1] M_are_below
theorem ok_are_below (T : Txt K mg A FD CA CI FC) : FnOk P w K mg base (L2.CX P w) 3 (A 5) (FD 5) ["size", "thing"] (spD K mg D_are_below) := by
  refine def_ok T.F_are_below sc_are_below fun cdv A outer s H E hr tk => ?_
  have nd := sc_are_below.nd
  have hu := hr.u64
  exact (ss_one (s_ret (x_val (x_and (x_isi (y := .tup) rfl T.n_isinstance rfl T.n_tuple (x_var (i := 1) rfl (by first | exact .inl rfl | exact .inr (.inl rfl) | exact .inr (.inr rfl)))) (x_one (x_tree (x_blt (cr_all rfl) f_all rfl T.n_all (by decide +kernel) (x_cons (x_tree (x_lc (own := [("one", 2)]) rfl nd (i_seq (x_var (i := 1) rfl (by first | exact .inl rfl | exact .inr (.inl rfl) | exact .inr (.inr rfl)))) (blkOk_by (N := N_are_below) (sc := defScope s_are_below) (by decide +kernel)) (by decide) (fun _ _ _ _ _ => (g_name (i := 2) nd rfl (by first | exact .inl rfl | exact .inr rfl))) (fun _ _ _ _ _ => o_yes) (fun _ _ _ _ _ => (x_and (x_tree (x_call (ok_is_number T) (hr.mono (by decide)) takes0 rfl T.g_is_number T.F_is_number.kp (bd_is_number T.F_is_number) (x_cons (x_var (i := 2) rfl (by first | exact .inl rfl | exact .inr (.inl rfl) | exact .inr (.inr rfl))) x_nil))) (x_one (x_tree (x_cmp op_lt f_cmp (x_var (i := 2) rfl (by first | exact .inl rfl | exact .inr (.inl rfl) | exact .inr (.inr rfl))) (x_var (i := 0) rfl (by first | exact .inl rfl | exact .inr (.inl rfl) | exact .inr (.inr rfl))) (nomark _)))))))) x_nil))))))))
def M_is_lot : Ms := (mRet (mVal (mAndV (mTree (mCall D_are_below (mCons (mVar 0) (mCons (mVar 1) mNil)))) (mTree (mN fAll (mCons (mTree (mComp (mZip (mCons (mVar 1) (mCons (mTree (mSl (mVar 1) (some (mC (.int 1))) none)) mNil))) (gT (gsCons (gN 2) (gsCons (gN 3) gsNil)) 2) mYes (mTree (m2 fLt (mVar 2) (mVar 3))) [2, 3])) mNil))))))
def D_is_lot : DF := runDef 4 2 [0, 1] M_is_lot
theorem ok_is_lot (T : Txt K mg A FD CA CI FC) : FnOk P w K mg base (L2.CX P w) 4 (A 6) (FD 6) ["size", "thing"] (spD K mg D_is_lot) := by
  refine def_ok T.F_is_lot sc_is_lot fun cdv A outer s H E hr tk => ?_
  have nd := sc_is_lot.nd
  have hu := hr.u64
  exact (ss_one (s_ret (x_val (x_and (x_tree (x_call (ok_are_below T) (hr.mono (by decide)) tk rfl T.g_are_below T.F_are_below.kp (bd_are_below T.F_are_below) (x_cons (x_var (i := 0) rfl (by first | exact .inl rfl | exact .inr (.inl rfl) | exact .inr (.inr rfl))) (x_cons (x_var (i := 1) rfl (by first | exact .inl rfl | exact .inr (.inl rfl) | exact .inr (.inr rfl))) x_nil)))) (x_one (x_tree (x_blt (cr_all rfl) f_all rfl T.n_all (by decide +kernel) (x_cons (x_tree (x_lc (own := [("one", 2), ("other", 3)]) rfl nd (i_zip rfl T.n_zip (x_cons (x_var (i := 1) rfl (by first | exact .inl rfl | exact .inr (.inl rfl) | exact .inr (.inr rfl))) (x_cons (x_tree (x_sl (x_var (i := 1) rfl (by first | exact .inl rfl | exact .inr (.inl rfl) | exact .inr (.inr rfl))) (p_some x_int) p_none)) x_nil))) (blkOk_by (N := N_is_lot) (sc := defScope s_is_lot) (by decide +kernel)) (by decide) (fun _ _ _ _ _ => (g_tup rfl (gs_cons (g_name (i := 2) nd rfl (by first | exact .inl rfl | exact .inr rfl)) (gs_cons (g_name (i := 3) nd rfl (by first | exact .inl rfl | exact .inr rfl)) gs_nil)))) (fun _ _ _ _ _ => o_yes) (fun _ _ _ _ _ => (x_tree (x_cmp op_lt f_cmp (x_var (i := 2) rfl (by first | exact .inl rfl | exact .inr (.inl rfl) | exact .inr (.inr rfl))) (x_var (i := 3) rfl (by first | exact .inl rfl | exact .inr (.inl rfl) | exact .inr (.inr rfl))) (nomark _)))))) x_nil))))))))
def M_is_purses : Ms := (mRet (mVal (mAndV (mTree (mCall D_is_tuple_of (mCons (mVar 0) (mCons (mVar 1) mNil)))) (mTree (mN fAll (mCons (mTree (mComp (mSeq1 (mVar 1)) (gN 2) mYes (mTree (mCall D_is_number (mCons (mVar 2) mNil))) [2])) mNil))))))
def D_is_purses : DF := runDef 3 2 [0, 1] M_is_purses
theorem ok_is_purses (T : Txt K mg A FD CA CI FC) : FnOk P w K mg base (L2.CX P w) 3 (A 7) (FD 7) ["size", "thing"] (spD K mg D_is_purses) := by
  refine def_ok T.F_is_purses sc_is_purses fun cdv A outer s H E hr tk => ?_
  have nd := sc_is_purses.nd
  have hu := hr.u64
  exact (ss_one (s_ret (x_val (x_and (x_tree (x_call (ok_is_tuple_of T) (hr.mono (by decide)) tk rfl T.g_is_tuple_of T.F_is_tuple_of.kp (bd_is_tuple_of T.F_is_tuple_of) (x_cons (x_var (i := 0) rfl (by first | exact .inl rfl | exact .inr (.inl rfl) | exact .inr (.inr rfl))) (x_cons (x_var (i := 1) rfl (by first | exact .inl rfl | exact .inr (.inl rfl) | exact .inr (.inr rfl))) x_nil)))) (x_one (x_tree (x_blt (cr_all rfl) f_all rfl T.n_all (by decide +kernel) (x_cons (x_tree (x_lc (own := [("purse", 2)]) rfl nd (i_seq (x_var (i := 1) rfl (by first | exact .inl rfl | exact .inr (.inl rfl) | exact .inr (.inr rfl)))) (blkOk_by (N := N_is_purses) (sc := defScope s_is_purses) (by decide +kernel)) (by decide) (fun _ _ _ _ _ => (g_name (i := 2) nd rfl (by first | exact .inl rfl | exact .inr rfl))) (fun _ _ _ _ _ => o_yes) (fun _ _ _ _ _ => (x_tree (x_call (ok_is_number T) (hr.mono (by decide)) takes0 rfl T.g_is_number T.F_is_number.kp (bd_is_number T.F_is_number) (x_cons (x_var (i := 2) rfl (by first | exact .inl rfl | exact .inr (.inl rfl) | exact .inr (.inr rfl))) x_nil)))))) x_nil))))))))
def M_is_joining : Ms := (mSeq (mIfS (mOrT (mNotT (mTst (mTree (mCall D_is_tuple_of (mCons (mVar 0) (mCons (mVar 1) mNil)))))) (mNotT (mTst (mTree (mCall D_are_below (mCons (mVar 0) (mCons (mVar 1) mNil)))))))
  (mRet (mVal (mC (.bool false))))
  mNx)
  (mRet (mN fAll (mCons (mTree (mComp (mEnum (mCons (mVar 1) mNil)) (gT (gsCons (gN 3) (gsCons (gN 2) gsNil)) 2) mYes (mAndV (mTree (m2 fLe (mVar 2) (mVar 3))) (mTree (m2 fEq (mIxV 1 (mVar 2)) (mVar 2)))) [3, 2])) mNil))))
def D_is_joining : DF := runDef 4 2 [0, 1] M_is_joining
theorem ok_is_joining (T : Txt K mg A FD CA CI FC) : FnOk P w K mg base (L2.CX P w) 4 (A 8) (FD 8) ["many", "thing"] (spD K mg D_is_joining) := by
  refine def_ok T.F_is_joining sc_is_joining fun cdv A outer s H E hr tk => ?_
  have nd := sc_is_joining.nd
  have hu := hr.u64
  exact (ss_cons (s_if (PW.pt (o_or (o_not (o_val (x_tree (x_call (ok_is_tuple_of T) (hr.mono (by decide)) tk rfl T.g_is_tuple_of T.F_is_tuple_of.kp (bd_is_tuple_of T.F_is_tuple_of) (x_cons (x_var (i := 0) rfl (by first | exact .inl rfl | exact .inr (.inl rfl) | exact .inr (.inr rfl))) (x_cons (x_var (i := 1) rfl (by first | exact .inl rfl | exact .inr (.inl rfl) | exact .inr (.inr rfl))) x_nil)))))) (o_or1 (o_not (o_val (x_tree (x_call (ok_are_below T) (hr.mono (by decide)) tk rfl T.g_are_below T.F_are_below.kp (bd_are_below T.F_are_below) (x_cons (x_var (i := 0) rfl (by first | exact .inl rfl | exact .inr (.inl rfl) | exact .inr (.inr rfl))) (x_cons (x_var (i := 1) rfl (by first | exact .inl rfl | exact .inr (.inl rfl) | exact .inr (.inr rfl))) x_nil)))))))))
  (ss_one (s_ret (x_val x_bl)))
  ss_nil)
  (ss_one (s_ret (x_blt (cr_all rfl) f_all rfl T.n_all (by decide +kernel) (x_cons (x_tree (x_lc (own := [("place", 3), ("least", 2)]) rfl nd (i_enum rfl T.n_enumerate (x_cons (x_var (i := 1) rfl (by first | exact .inl rfl | exact .inr (.inl rfl) | exact .inr (.inr rfl))) x_nil)) (blkOk_by (N := N_is_joining) (sc := defScope s_is_joining) (by decide +kernel)) (by decide) (fun _ _ _ _ _ => (g_tup rfl (gs_cons (g_name (i := 3) nd rfl (by first | exact .inl rfl | exact .inr rfl)) (gs_cons (g_name (i := 2) nd rfl (by first | exact .inl rfl | exact .inr rfl)) gs_nil)))) (fun _ _ _ _ _ => o_yes) (fun _ _ _ _ _ => (x_and (x_tree (x_cmp op_le f_cmp (x_var (i := 2) rfl (by first | exact .inl rfl | exact .inr (.inl rfl) | exact .inr (.inr rfl))) (x_var (i := 3) rfl (by first | exact .inl rfl | exact .inr (.inl rfl) | exact .inr (.inr rfl))) (nomark _))) (x_one (x_tree (x_cmp (op_eq.or (op_eqD hu)) f_eq (x_ixV (i := 1) rfl (by first | exact .inl rfl | exact .inr (.inl rfl) | exact .inr (.inr rfl)) (x_var (i := 2) rfl (by first | exact .inl rfl | exact .inr (.inl rfl) | exact .inr (.inr rfl))) (fun _ _ => rfl)) (x_var (i := 2) rfl (by first | exact .inl rfl | exact .inr (.inl rfl) | exact .inr (.inr rfl))) (nomark _)))))))) x_nil)))))
def M_line_fault : Ms := (mSeq (mIfS (mNotT (mTst (mTree (mCall D_is_tuple_of (mCons (mC (.int 3)) (mCons (mVar 1) mNil))))))
  (mRet (mVal (mC (.str "shape"))))
  mNx)
  (mSeq (mAsg (gT (gsCons (gN 2) (gsCons (gN 3) (gsCons (gN 4) gsNil))) 3) (mVar 1))
  (mSeq (mIfS (mNotT (mAndT (mTst (mTree (mCall D_is_number (mCons (mVar 2) mNil)))) (mAndT (mTst (mTree (mCall D_is_number (mCons (mVar 3) mNil)))) (mChainT (mVar 2) (qLink fLt (mVar 3) (qLast fLt (mVar 0)))))))
  (mRet (mVal (mC (.str "house"))))
  mNx)
  (mSeq (mIfS (mNotT (mTst (mTree (mCall D_is_positive (mCons (mVar 4) mNil)))))
  (mRet (mVal (mC (.str "room"))))
  mNx)
  (mRet (mVal (mC .none)))))))
def D_line_fault : DF := runDef 5 2 [0, 1] M_line_fault
theorem ok_line_fault (T : Txt K mg A FD CA CI FC) : FnOk P w K mg base (L2.CX P w) 3 (A 9) (FD 9) ["size", "line"] (spD K mg D_line_fault) := by
  refine def_ok T.F_line_fault sc_line_fault fun cdv A outer s H E hr tk => ?_
  have nd := sc_line_fault.nd
  have hu := hr.u64
  exact (ss_cons (s_if (o_not (o_val (x_tree (x_call (ok_is_tuple_of T) (hr.mono (by decide)) tk rfl T.g_is_tuple_of T.F_is_tuple_of.kp (bd_is_tuple_of T.F_is_tuple_of) (x_cons x_int (x_cons (x_var (i := 1) rfl (by first | exact .inl rfl | exact .inr (.inl rfl) | exact .inr (.inr rfl))) x_nil))))))
  (ss_one (s_ret (x_val x_str)))
  ss_nil)
  (ss_cons (s_asg (x_var (i := 1) rfl (by first | exact .inl rfl | exact .inr (.inl rfl) | exact .inr (.inr rfl))) (g_tup rfl (gs_cons (g_name (i := 2) nd rfl (by first | exact .inl rfl | exact .inr rfl)) (gs_cons (g_name (i := 3) nd rfl (by first | exact .inl rfl | exact .inr rfl)) (gs_cons (g_name (i := 4) nd rfl (by first | exact .inl rfl | exact .inr rfl)) gs_nil)))) rfl)
  (ss_cons (s_if (o_not (PW.pt (o_and (o_val (x_tree (x_call (ok_is_number T) (hr.mono (by decide)) tk rfl T.g_is_number T.F_is_number.kp (bd_is_number T.F_is_number) (x_cons (x_var (i := 2) rfl (by first | exact .inl rfl | exact .inr (.inl rfl) | exact .inr (.inr rfl))) x_nil)))) (o_and (o_val (x_tree (x_call (ok_is_number T) (hr.mono (by decide)) tk rfl T.g_is_number T.F_is_number.kp (bd_is_number T.F_is_number) (x_cons (x_var (i := 3) rfl (by first | exact .inl rfl | exact .inr (.inl rfl) | exact .inr (.inr rfl))) x_nil)))) (o_and1 (o_chain (x_var (i := 2) rfl (by first | exact .inl rfl | exact .inr (.inl rfl) | exact .inr (.inr rfl))) (q_link op_lt f_cmp (x_var (i := 3) rfl (by first | exact .inl rfl | exact .inr (.inl rfl) | exact .inr (.inr rfl))) (q_last op_lt f_cmp (x_var (i := 0) rfl (by first | exact .inl rfl | exact .inr (.inl rfl) | exact .inr (.inr rfl)))))))))))
  (ss_one (s_ret (x_val x_str)))
  ss_nil)
  (ss_cons (s_if (o_not (o_val (x_tree (x_call (ok_is_positive T) (hr.mono (by decide)) tk rfl T.g_is_positive T.F_is_positive.kp (bd_is_positive T.F_is_positive) (x_cons (x_var (i := 4) rfl (by first | exact .inl rfl | exact .inr (.inl rfl) | exact .inr (.inr rfl))) x_nil)))))
  (ss_one (s_ret (x_val x_str)))
  ss_nil)
  (ss_one (s_ret (x_val x_non)))))))
def M_web_fault : Ms := (mSeq (mIfS (mNotT (mTst (mTree (mCall D_is_tuple_of (mCons (mC (.int 2)) (mCons (mVar 0) mNil))))))
  (mRet (mVal (mTup (mCons (mC (.str "shape")) (mCons (mTree (m1 fNeg (mC (.int 1)))) mNil)))))
  mNx)
  (mSeq (mAsg (gT (gsCons (gN 1) (gsCons (gN 2) gsNil)) 2) (mVar 0))
  (mSeq (mIfS (mNotT (mTst (mTree (mCall D_is_positive (mCons (mVar 1) mNil)))))
  (mRet (mVal (mTup (mCons (mC (.str "size")) (mCons (mTree (m1 fNeg (mC (.int 1)))) mNil)))))
  mNx)
  (mSeq (mIfS (mNotT (mTst (mIsi .tup (mVar 2))))
  (mRet (mVal (mTup (mCons (mC (.str "lines")) (mCons (mTree (m1 fNeg (mC (.int 1)))) mNil)))))
  mNx)
  (mSeq (mFor (mEnum (mCons (mVar 2) mNil)) (gT (gsCons (gN 3) (gsCons (gN 4) gsNil)) 2)
  (mSeq (mSet 5 (mCall D_line_fault (mCons (mVar 1) (mCons (mVar 4) mNil))))
  (mIfS (mTst (mTree (m2 fIsN (mVar 5) (mC .none))))
  (mRet (mVal (mTup (mCons (mVar 5) (mCons (mVar 3) mNil)))))
  mNx)))
  (mRet (mVal (mC .none))))))))
def D_web_fault : DF := runDef 6 1 [0] M_web_fault
theorem ok_web_fault (T : Txt K mg A FD CA CI FC) : FnOk P w K mg base (L2.CX P w) 4 (A 10) (FD 10) ["thing"] (spD K mg D_web_fault) := by
  refine def_ok T.F_web_fault sc_web_fault fun cdv A outer s H E hr tk => ?_
  have nd := sc_web_fault.nd
  have hu := hr.u64
  exact (ss_cons (s_if (o_not (o_val (x_tree (x_call (ok_is_tuple_of T) (hr.mono (by decide)) tk rfl T.g_is_tuple_of T.F_is_tuple_of.kp (bd_is_tuple_of T.F_is_tuple_of) (x_cons x_int (x_cons (x_var (i := 0) rfl (by first | exact .inl rfl | exact .inr (.inl rfl) | exact .inr (.inr rfl))) x_nil))))))
  (ss_one (s_ret (x_val (x_tup (x_cons x_str (x_cons (x_tree (x_un un_neg f_neg x_int)) x_nil))))))
  ss_nil)
  (ss_cons (s_asg (x_var (i := 0) rfl (by first | exact .inl rfl | exact .inr (.inl rfl) | exact .inr (.inr rfl))) (g_tup rfl (gs_cons (g_name (i := 1) nd rfl (by first | exact .inl rfl | exact .inr rfl)) (gs_cons (g_name (i := 2) nd rfl (by first | exact .inl rfl | exact .inr rfl)) gs_nil))) rfl)
  (ss_cons (s_if (o_not (o_val (x_tree (x_call (ok_is_positive T) (hr.mono (by decide)) tk rfl T.g_is_positive T.F_is_positive.kp (bd_is_positive T.F_is_positive) (x_cons (x_var (i := 1) rfl (by first | exact .inl rfl | exact .inr (.inl rfl) | exact .inr (.inr rfl))) x_nil)))))
  (ss_one (s_ret (x_val (x_tup (x_cons x_str (x_cons (x_tree (x_un un_neg f_neg x_int)) x_nil))))))
  ss_nil)
  (ss_cons (s_if (o_not (o_val (x_isi (y := .tup) rfl T.n_isinstance rfl T.n_tuple (x_var (i := 2) rfl (by first | exact .inl rfl | exact .inr (.inl rfl) | exact .inr (.inr rfl))))))
  (ss_one (s_ret (x_val (x_tup (x_cons x_str (x_cons (x_tree (x_un un_neg f_neg x_int)) x_nil))))))
  ss_nil)
  (ss_cons (s_for (passes_of rfl) rfl (i_enum rfl T.n_enumerate (x_cons (x_var (i := 2) rfl (by first | exact .inl rfl | exact .inr (.inl rfl) | exact .inr (.inr rfl))) x_nil)) (g_tup rfl (gs_cons (g_name (i := 3) nd rfl (by first | exact .inl rfl | exact .inr rfl)) (gs_cons (g_name (i := 4) nd rfl (by first | exact .inl rfl | exact .inr rfl)) gs_nil))) rfl
  (ss_cons (s_set (i := 5) nd rfl (by first | exact .inl rfl | exact .inr rfl) rfl (x_call (ok_line_fault T) (hr.mono (by decide)) tk rfl T.g_line_fault T.F_line_fault.kp (bd_line_fault T.F_line_fault) (x_cons (x_var (i := 1) rfl (by first | exact .inl rfl | exact .inr (.inl rfl) | exact .inr (.inr rfl))) (x_cons (x_var (i := 4) rfl (by first | exact .inl rfl | exact .inr (.inl rfl) | exact .inr (.inr rfl))) x_nil))))
  (ss_one (s_if (o_cmp op_isGN f_isN (x_var (i := 5) rfl (by first | exact .inl rfl | exact .inr (.inl rfl) | exact .inr (.inr rfl))) x_non (nomark _))
  (ss_one (s_ret (x_val (x_tup (x_cons (x_var (i := 5) rfl (by first | exact .inl rfl | exact .inr (.inl rfl) | exact .inr (.inr rfl))) (x_cons (x_var (i := 3) rfl (by first | exact .inl rfl | exact .inr (.inl rfl) | exact .inr (.inr rfl))) x_nil))))))
  ss_nil))))
  (ss_one (s_ret (x_val x_non))))))))
def M_is_web : Ms := (mRet (m2 fIs (mTree (mCall D_web_fault (mCons (mVar 0) mNil))) (mC .none)))
def D_is_web : DF := runDef 1 1 [0] M_is_web
theorem ok_is_web (T : Txt K mg A FD CA CI FC) : FnOk P w K mg base (L2.CX P w) 5 (A 11) (FD 11) ["thing"] (spD K mg D_is_web) := by
  refine def_ok T.F_is_web sc_is_web fun cdv A outer s H E hr tk => ?_
  have nd := sc_is_web.nd
  have hu := hr.u64
  exact (ss_one (s_ret (x_cmp op_isG f_is (x_tree (x_call (ok_web_fault T) (hr.mono (by decide)) tk rfl T.g_web_fault T.F_web_fault.kp (bd_web_fault T.F_web_fault) (x_cons (x_var (i := 0) rfl (by first | exact .inl rfl | exact .inr (.inl rfl) | exact .inr (.inr rfl))) x_nil))) x_non (nomark _))))
def M_is_split : Ms := (mSeq (mAsg (gT (gsCons (gN 2) (gsCons (gN 3) gsNil)) 2) (mVar 0))
  (mSeq (mIfS (mNotT (mTst (mTree (mCall D_is_tuple_of (mCons (mLenV 3) (mCons (mVar 1) mNil))))))
  (mRet (mVal (mC (.bool false))))
  mNx)
  (mRet (mN fAll (mCons (mTree (mComp (mZip (mCons (mVar 1) (mCons (mVar 3) mNil))) (gT (gsCons (gN 5) (gsCons (gN 4) gsNil)) 2) mYes (mAndV (mTree (mCall D_is_number (mCons (mVar 5) mNil))) (mTree (m2 fLe (mVar 5) (mIxV 4 (mC (.int 2)))))) [5, 4])) mNil)))))
def D_is_split : DF := runDef 6 2 [0, 1] M_is_split
theorem ok_is_split (T : Txt K mg A FD CA CI FC) : FnOk P w K mg base (L2.CX P w) 3 (A 12) (FD 12) ["web", "thing"] (spD K mg D_is_split) := by
  refine def_ok T.F_is_split sc_is_split fun cdv A outer s H E hr tk => ?_
  have nd := sc_is_split.nd
  have hu := hr.u64
  exact (ss_cons (s_asg (x_var (i := 0) rfl (by first | exact .inl rfl | exact .inr (.inl rfl) | exact .inr (.inr rfl))) (g_tup rfl (gs_cons (g_name (i := 2) nd rfl (by first | exact .inl rfl | exact .inr rfl)) (gs_cons (g_name (i := 3) nd rfl (by first | exact .inl rfl | exact .inr rfl)) gs_nil))) rfl)
  (ss_cons (s_if (o_not (o_val (x_tree (x_call (ok_is_tuple_of T) (hr.mono (by decide)) tk rfl T.g_is_tuple_of T.F_is_tuple_of.kp (bd_is_tuple_of T.F_is_tuple_of) (x_cons (x_lenV (i := 3) rfl T.n_len rfl (by first | exact .inl rfl | exact .inr (.inl rfl) | exact .inr (.inr rfl))) (x_cons (x_var (i := 1) rfl (by first | exact .inl rfl | exact .inr (.inl rfl) | exact .inr (.inr rfl))) x_nil))))))
  (ss_one (s_ret (x_val x_bl)))
  ss_nil)
  (ss_one (s_ret (x_blt (cr_all rfl) f_all rfl T.n_all (by decide +kernel) (x_cons (x_tree (x_lc (own := [("near", 5), ("line", 4)]) rfl nd (i_zip rfl T.n_zip (x_cons (x_var (i := 1) rfl (by first | exact .inl rfl | exact .inr (.inl rfl) | exact .inr (.inr rfl))) (x_cons (x_var (i := 3) rfl (by first | exact .inl rfl | exact .inr (.inl rfl) | exact .inr (.inr rfl))) x_nil))) (blkOk_by (N := N_is_split) (sc := defScope s_is_split) (by decide +kernel)) (by decide) (fun _ _ _ _ _ => (g_tup rfl (gs_cons (g_name (i := 5) nd rfl (by first | exact .inl rfl | exact .inr rfl)) (gs_cons (g_name (i := 4) nd rfl (by first | exact .inl rfl | exact .inr rfl)) gs_nil)))) (fun _ _ _ _ _ => o_yes) (fun _ _ _ _ _ => (x_and (x_tree (x_call (ok_is_number T) (hr.mono (by decide)) takes0 rfl T.g_is_number T.F_is_number.kp (bd_is_number T.F_is_number) (x_cons (x_var (i := 5) rfl (by first | exact .inl rfl | exact .inr (.inl rfl) | exact .inr (.inr rfl))) x_nil))) (x_one (x_tree (x_cmp op_le f_cmp (x_var (i := 5) rfl (by first | exact .inl rfl | exact .inr (.inl rfl) | exact .inr (.inr rfl))) (x_ixV (i := 4) rfl (by first | exact .inl rfl | exact .inr (.inl rfl) | exact .inr (.inr rfl)) x_int (fun _ _ => rfl)) (nomark _)))))))) x_nil))))))
def M_lets_web : Ms := (mSeq (mSet 1 (mCall D_web_fault (mCons (mVar 0) mNil)))
  (mSeq (mIfS (mTst (mTree (m2 fIsN (mVar 1) (mC .none))))
  (mSeq (mAsg (gT (gsCons (gN 2) (gsCons (gN 3) gsNil)) 2) (mVar 1))
  (mRaise "InvalidPaper" ["word", "at"] (mCons (mVar 2) (mCons (mVar 3) mNil))))
  mNx)
  (mRet (mN fLen (mCons (mIxV 0 (mC (.int 1))) mNil)))))
def D_lets_web : DF := runDef 4 1 [0] M_lets_web
theorem ok_lets_web (T : Txt K mg A FD CA CI FC) : FnOk P w K mg base (L2.CX P w) 6 (A 13) (FD 13) ["thing"] (spD K mg D_lets_web) := by
  refine def_ok T.F_lets_web sc_lets_web fun cdv A outer s H E hr tk => ?_
  have nd := sc_lets_web.nd
  have hu := hr.u64
  exact (ss_cons (s_set (i := 1) nd rfl (by first | exact .inl rfl | exact .inr rfl) rfl (x_call (ok_web_fault T) (hr.mono (by decide)) tk rfl T.g_web_fault T.F_web_fault.kp (bd_web_fault T.F_web_fault) (x_cons (x_var (i := 0) rfl (by first | exact .inl rfl | exact .inr (.inl rfl) | exact .inr (.inr rfl))) x_nil)))
  (ss_cons (s_if (o_cmp op_isGN f_isN (x_var (i := 1) rfl (by first | exact .inl rfl | exact .inr (.inl rfl) | exact .inr (.inr rfl))) x_non (nomark _))
  (ss_cons (s_asg (x_var (i := 1) rfl (by first | exact .inl rfl | exact .inr (.inl rfl) | exact .inr (.inr rfl))) (g_tup rfl (gs_cons (g_name (i := 2) nd rfl (by first | exact .inl rfl | exact .inr rfl)) (gs_cons (g_name (i := 3) nd rfl (by first | exact .inl rfl | exact .inr rfl)) gs_nil))) rfl)
  (ss_one (s_raise rfl T.x_InvalidPaper (ini_InvalidPaper T) (hr.mono (by decide)) tk rfl (by decide) (x_cons (x_var (i := 2) rfl (by first | exact .inl rfl | exact .inr (.inl rfl) | exact .inr (.inr rfl))) (x_cons (x_var (i := 3) rfl (by first | exact .inl rfl | exact .inr (.inl rfl) | exact .inr (.inr rfl))) x_nil)))))
  ss_nil)
  (ss_one (s_ret (x_blt call_len_seq f_len rfl T.n_len (by decide +kernel) (x_cons (x_ixV (i := 0) rfl (by first | exact .inl rfl | exact .inr (.inl rfl) | exact .inr (.inr rfl)) x_int (fun _ _ => rfl)) x_nil))))))
def M__law_pool : Ms := (mSeq (mSet 1 (mLst mNil))
  (mSeq (mIfS (mTst (mTree (m2 fEq (mLenV 0) (mC (.int 0)))))
  (mRet (mTake 1))
  mNx)
  (mSeq (mSet 2 (mVal (mC (.int 20011))))
  (mSeq (mFor (mSeq1 (mVar 0)) (gN 3)
  (mSeq (mSet 2 (m2 fMod (mTree (mN fInt (mCons (mTree (m2 fAdd (mTree (m2 fAdd (mTree (m2 fMul (mVar 2) (mC (.int 48271)))) (mTree (m2 fMod (mTree (mN fInt (mCons (mVar 3) mNil))) (mC (.int 2147483629)))))) (mC (.int 3)))) mNil))) (mC (.int 2147483647))))
  (mIfS (mTst (mTree (m2 fLt (mLenV 1) (mC (.int 120)))))
  (mIfS (mTst (mTree (m2 fGe (mVar 3) (mTree (m2 fPow (mC (.int 10)) (mC (.int 18)))))))
  (mSeq (mSet 5 (mVal (mVar 3)))
  (mFor (mRng (mCons (mC (.int 60)) mNil)) (gN 4)
  (mSeq (mIfS (mTst (mTree (m2 fEq (mVar 5) (mC (.int 0)))))
  (fun e => .ok .bk e)
  mNx)
  (mSeq (mDrop (mApp 1 (mTree (m2 fMod (mTree (mN fInt (mCons (mVar 5) mNil))) (mC (.int 1009))))))
  (mSet 5 (m2 fDiv (mVar 5) (mC (.int 1009))))))))
  (mDrop (mApp 1 (mTree (m2 fMod (mTree (mN fInt (mCons (mTree (m2 fAdd (mTree (m2 fMul (mTree (m2 fDiv (mVar 2) (mC (.int 5)))) (mC (.int 69621)))) (mVar 2))) mNil))) (mC (.int 1000003)))))))
  mNx)))
  (mSeq (mFor (mRng (mCons (mC (.int 170)) mNil)) (gN 4)
  (mSeq (mSet 2 (m2 fMod (mTree (mN fInt (mCons (mTree (m2 fAdd (mTree (m2 fAdd (mTree (m2 fMul (mVar 2) (mC (.int 16807)))) (mC (.int 90001)))) (mVar 4))) mNil))) (mC (.int 2147483647))))
  (mDrop (mApp 1 (mTree (m2 fMod (mTree (mN fInt (mCons (mTree (m2 fAdd (mTree (m2 fMul (mTree (m2 fDiv (mVar 2) (mC (.int 11)))) (mVar 2))) (mTree (m2 fDiv (mVar 2) (mC (.int 3)))))) mNil))) (mC (.int 999983))))))))
  (mRet (m1 fRev (mVar 1))))))))
def D__law_pool : DF := runDef 6 1 [0] M__law_pool
theorem ok__law_pool (T : Txt K mg A FD CA CI FC) : FnOk P w K mg base (L2.CX P w) 1 (A 14) (FD 14) ["_law_script"] (spD K mg D__law_pool) := by
  refine def_ok T.F__law_pool sc__law_pool fun cdv A outer s H E hr tk => ?_
  have nd := sc__law_pool.nd
  have hu := hr.u64
  exact (ss_cons (s_set (i := 1) nd rfl (by first | exact .inl rfl | exact .inr rfl) rfl (x_lst x_nil))
  (ss_cons (s_if (o_cmp (op_eq.or (op_eqD hu)) f_eq (x_lenV (i := 0) rfl T.n_len rfl (by first | exact .inl rfl | exact .inr (.inl rfl) | exact .inr (.inr rfl))) x_int (nomark _))
  (ss_one (s_ret (x_take (i := 1) rfl (by first | exact .inl rfl | exact .inr (.inl rfl) | exact .inr (.inr rfl)))))
  ss_nil)
  (ss_cons (s_set (i := 2) nd rfl (by first | exact .inl rfl | exact .inr rfl) rfl (x_val x_int))
  (ss_cons (s_for (passes_of rfl) rfl (i_seq (x_var (i := 0) rfl (by first | exact .inl rfl | exact .inr (.inl rfl) | exact .inr (.inr rfl)))) (g_name (i := 3) nd rfl (by first | exact .inl rfl | exact .inr rfl)) rfl
  (ss_cons (s_set (i := 2) nd rfl (by first | exact .inl rfl | exact .inr rfl) rfl (x_op op_mod f_mod (x_tree (x_typ call_int1 f_int rfl T.n_int (by decide +kernel) (x_cons (x_tree (x_op o_add f_add (x_tree (x_op o_add f_add (x_tree (x_op op_mulW f_mul (x_var (i := 2) rfl (by first | exact .inl rfl | exact .inr (.inl rfl) | exact .inr (.inr rfl))) x_int)) (x_tree (x_op op_mod f_mod (x_tree (x_typ call_int1 f_int rfl T.n_int (by decide +kernel) (x_cons (x_var (i := 3) rfl (by first | exact .inl rfl | exact .inr (.inl rfl) | exact .inr (.inr rfl))) x_nil))) x_int)))) x_int)) x_nil))) x_int))
  (ss_one (s_if (o_cmp op_lt f_cmp (x_lenV (i := 1) rfl T.n_len rfl (by first | exact .inl rfl | exact .inr (.inl rfl) | exact .inr (.inr rfl))) x_int (nomark _))
  (ss_one (s_if (o_cmp op_ge f_cmp (x_var (i := 3) rfl (by first | exact .inl rfl | exact .inr (.inl rfl) | exact .inr (.inr rfl))) (x_tree (x_op op_pow f_pow x_int x_int)) (nomark _))
  (ss_cons (s_set (i := 5) nd rfl (by first | exact .inl rfl | exact .inr rfl) rfl (x_val (x_var (i := 3) rfl (by first | exact .inl rfl | exact .inr (.inl rfl) | exact .inr (.inr rfl)))))
  (ss_one (s_for (passes_of rfl) rfl (i_rng rfl T.n_range (x_cons x_int x_nil)) (g_name (i := 4) nd rfl (by first | exact .inl rfl | exact .inr rfl)) rfl
  (ss_cons (s_if (o_cmp (op_eq.or (op_eqD hu)) f_eq (x_var (i := 5) rfl (by first | exact .inl rfl | exact .inr (.inl rfl) | exact .inr (.inr rfl))) x_int (nomark _))
  (ss_one s_break)
  ss_nil)
  (ss_cons (s_expr (x_app (i := 1) rfl (by first | exact .inl rfl | exact .inr (.inl rfl) | exact .inr (.inr rfl)) (x_tree (x_op op_mod f_mod (x_tree (x_typ call_int1 f_int rfl T.n_int (by decide +kernel) (x_cons (x_var (i := 5) rfl (by first | exact .inl rfl | exact .inr (.inl rfl) | exact .inr (.inr rfl))) x_nil))) x_int))))
  (ss_one (s_set (i := 5) nd rfl (by first | exact .inl rfl | exact .inr rfl) rfl (x_op op_fdivW f_div (x_var (i := 5) rfl (by first | exact .inl rfl | exact .inr (.inl rfl) | exact .inr (.inr rfl))) x_int))))))))
  (ss_one (s_expr (x_app (i := 1) rfl (by first | exact .inl rfl | exact .inr (.inl rfl) | exact .inr (.inr rfl)) (x_tree (x_op op_mod f_mod (x_tree (x_typ call_int1 f_int rfl T.n_int (by decide +kernel) (x_cons (x_tree (x_op o_add f_add (x_tree (x_op op_mulW f_mul (x_tree (x_op op_fdivW f_div (x_var (i := 2) rfl (by first | exact .inl rfl | exact .inr (.inl rfl) | exact .inr (.inr rfl))) x_int)) x_int)) (x_var (i := 2) rfl (by first | exact .inl rfl | exact .inr (.inl rfl) | exact .inr (.inr rfl))))) x_nil))) x_int)))))))
  ss_nil))))
  (ss_cons (s_for (passes_of rfl) rfl (i_rng rfl T.n_range (x_cons x_int x_nil)) (g_name (i := 4) nd rfl (by first | exact .inl rfl | exact .inr rfl)) rfl
  (ss_cons (s_set (i := 2) nd rfl (by first | exact .inl rfl | exact .inr rfl) rfl (x_op op_mod f_mod (x_tree (x_typ call_int1 f_int rfl T.n_int (by decide +kernel) (x_cons (x_tree (x_op o_add f_add (x_tree (x_op o_add f_add (x_tree (x_op op_mulW f_mul (x_var (i := 2) rfl (by first | exact .inl rfl | exact .inr (.inl rfl) | exact .inr (.inr rfl))) x_int)) x_int)) (x_var (i := 4) rfl (by first | exact .inl rfl | exact .inr (.inl rfl) | exact .inr (.inr rfl))))) x_nil))) x_int))
  (ss_one (s_expr (x_app (i := 1) rfl (by first | exact .inl rfl | exact .inr (.inl rfl) | exact .inr (.inr rfl)) (x_tree (x_op op_mod f_mod (x_tree (x_typ call_int1 f_int rfl T.n_int (by decide +kernel) (x_cons (x_tree (x_op o_add f_add (x_tree (x_op op_mulW f_mul (x_tree (x_op op_fdivW f_div (x_var (i := 2) rfl (by first | exact .inl rfl | exact .inr (.inl rfl) | exact .inr (.inr rfl))) x_int)) (x_var (i := 2) rfl (by first | exact .inl rfl | exact .inr (.inl rfl) | exact .inr (.inr rfl))))) (x_tree (x_op op_fdivW f_div (x_var (i := 2) rfl (by first | exact .inl rfl | exact .inr (.inl rfl) | exact .inr (.inr rfl))) x_int)))) x_nil))) x_int)))))))
  (ss_one (s_ret (x_rev (x_var (i := 1) rfl (by first | exact .inl rfl | exact .inr (.inl rfl) | exact .inr (.inr rfl)))))))))))
def M__law_take : Ms := (mSeq (mIfS (mTst (mTree (m2 fEq (mLenV 0) (mC (.int 0)))))
  (mRet (mVal (mC (.int 0))))
  mNx)
  (mRet (m2 fMod (mTree (mN fInt (mCons (mPop 0) mNil))) (mVar 1))))
def D__law_take : DF := runDef 2 2 [0, 1] M__law_take
theorem ok__law_take (T : Txt K mg A FD CA CI FC) : FnOk P w K mg base (L2.CX P w) 1 (A 15) (FD 15) ["_law_pool_here", "_law_bound"] (spD K mg D__law_take) := by
  refine def_ok T.F__law_take sc__law_take fun cdv A outer s H E hr tk => ?_
  have nd := sc__law_take.nd
  have hu := hr.u64
  exact (ss_cons (s_if (o_cmp (op_eq.or (op_eqD hu)) f_eq (x_lenV (i := 0) rfl T.n_len rfl (by first | exact .inl rfl | exact .inr (.inl rfl) | exact .inr (.inr rfl))) x_int (nomark _))
  (ss_one (s_ret (x_val x_int)))
  ss_nil)
  (ss_one (s_ret (x_op op_mod f_mod (x_tree (x_typ call_int1 f_int rfl T.n_int (by decide +kernel) (x_cons (x_pop (i := 0) rfl (by first | exact .inl rfl | exact .inr (.inl rfl) | exact .inr (.inr rfl))) x_nil))) (x_var (i := 1) rfl (by first | exact .inl rfl | exact .inr (.inl rfl) | exact .inr (.inr rfl)))))))
def M__law_great : Ms := (mSeq (mSet 1 (mVal (mC (.int 0))))
  (mSeq (mFor (mRng (mCons (mC (.int 10)) mNil)) (gN 2)
  (mSet 1 (m2 fAdd (mTree (m2 fMul (mVar 1) (mC (.int 1000)))) (mTree (mCallP D__law_take 0 (mCons (mC (.int 1000)) mNil))))))
  (mRet (mTake 1))))
def D__law_great : DF := runDef 3 1 [0] M__law_great
theorem ok__law_great (T : Txt K mg A FD CA CI FC) : FnOk P w K mg base (L2.CX P w) 2 (A 16) (FD 16) ["_law_pool_here"] (spD K mg D__law_great) := by
  refine def_ok T.F__law_great sc__law_great fun cdv A outer s H E hr tk => ?_
  have nd := sc__law_great.nd
  have hu := hr.u64
  exact (ss_cons (s_set (i := 1) nd rfl (by first | exact .inl rfl | exact .inr rfl) rfl (x_val x_int))
  (ss_cons (s_for (passes_of rfl) rfl (i_rng rfl T.n_range (x_cons x_int x_nil)) (g_name (i := 2) nd rfl (by first | exact .inl rfl | exact .inr rfl)) rfl
  (ss_one (s_set (i := 1) nd rfl (by first | exact .inl rfl | exact .inr rfl) rfl (x_op o_add f_add (x_tree (x_op op_mulW f_mul (x_var (i := 1) rfl (by first | exact .inl rfl | exact .inr (.inl rfl) | exact .inr (.inr rfl))) x_int)) (x_tree (x_callP (i := 0) (ok__law_take T) (hr.mono (by decide)) tk rfl T.g__law_take T.F__law_take.kp (bd__law_take T.F__law_take) rfl (by first | exact .inl rfl | exact .inr (.inl rfl) | exact .inr (.inr rfl)) (x_cons x_int x_nil)))))))
  (ss_one (s_ret (x_take (i := 1) rfl (by first | exact .inl rfl | exact .inr (.inl rfl) | exact .inr (.inr rfl)))))))
def M__law_int : Ms := (mRet (mVal (mAndV (mIsi .int (mVar 0)) (mNotV (mIsi .bool (mVar 0))))))
def D__law_int : DF := runDef 1 1 [0] M__law_int
theorem ok__law_int (T : Txt K mg A FD CA CI FC) : FnOk P w K mg base (L2.CX P w) 1 (A 17) (FD 17) ["_law_value"] (spD K mg D__law_int) := by
  refine def_ok T.F__law_int sc__law_int fun cdv A outer s H E hr tk => ?_
  have nd := sc__law_int.nd
  have hu := hr.u64
  exact (ss_one (s_ret (x_val (x_and (x_isi (y := .int) rfl T.n_isinstance rfl T.n_int (x_var (i := 0) rfl (by first | exact .inl rfl | exact .inr (.inl rfl) | exact .inr (.inr rfl)))) (x_one (x_not (x_isi (y := .bool) rfl T.n_isinstance rfl T.n_bool (x_var (i := 0) rfl (by first | exact .inl rfl | exact .inr (.inl rfl) | exact .inr (.inr rfl))))))))))
def M__law_same (DR : DF) : Ms := (mSeq (mIfS (mTst (mIsi .tup (mVar 1)))
  (mSeq (mIfS (mOrT (mNotT (mTst (mIsi .tup (mVar 0)))) (mTst (mTree (m2 fNe (mLenV 0) (mLenV 1)))))
  (mRet (mVal (mC (.bool false))))
  mNx)
  (mSeq (mFor (mRng (mCons (mLenV 1) mNil)) (gN 2)
  (mIfS (mNotT (mTst (mTree (mCall DR (mCons (mIxV 0 (mVar 2)) (mCons (mIxV 1 (mVar 2)) mNil))))))
  (mRet (mVal (mC (.bool false))))
  mNx))
  (mRet (mVal (mC (.bool true))))))
  mNx)
  (mSeq (mIfS (mTst (mTree (m2 fIs (mVar 1) (mC (.bool true)))))
  (mRet (m2 fIs (mVar 0) (mC (.bool true))))
  mNx)
  (mSeq (mIfS (mTst (mTree (m2 fIs (mVar 1) (mC (.bool false)))))
  (mRet (m2 fIs (mVar 0) (mC (.bool false))))
  mNx)
  (mSeq (mIfS (mTst (mIsi .str (mVar 1)))
  (mRet (mVal (mAndV (mIsi .str (mVar 0)) (mTree (m2 fEq (mVar 0) (mVar 1))))))
  mNx)
  (mRet (mVal (mAndV (mTree (mCall D__law_int (mCons (mVar 0) mNil))) (mTree (m2 fEq (mVar 0) (mVar 1))))))))))
def Dn__law_same : Nat → DF
  | 0 => fun _ => .bad
  | k + 1 => runDef 3 2 [0, 1] (M__law_same (Dn__law_same k))
abbrev D__law_same : DF := Dn__law_same 8
theorem okn__law_same (T : Txt K mg A FD CA CI FC) : ∀ k, FnOk P w K mg base (L2.CX P w) (k + 2) (A 18) (FD 18) ["_law_got", "_law_due_here"] (spD K mg (Dn__law_same k))
  | 0 => fn_bad
  | k + 1 => by
    have IH := okn__law_same T k
    refine def_ok T.F__law_same sc__law_same fun cdv A outer s H E hr tk => ?_
    have nd := sc__law_same.nd
    have hu := hr.u64
    exact (ss_cons (s_if (o_val (x_isi (y := .tup) rfl T.n_isinstance rfl T.n_tuple (x_var (i := 1) rfl (by first | exact .inl rfl | exact .inr (.inl rfl) | exact .inr (.inr rfl)))))
  (ss_cons (s_if (PW.pt (o_or (o_not (o_val (x_isi (y := .tup) rfl T.n_isinstance rfl T.n_tuple (x_var (i := 0) rfl (by first | exact .inl rfl | exact .inr (.inl rfl) | exact .inr (.inr rfl)))))) (o_or1 (o_cmp (op_ne.or (op_neD hu)) f_ne (x_lenV (i := 0) rfl T.n_len rfl (by first | exact .inl rfl | exact .inr (.inl rfl) | exact .inr (.inr rfl))) (x_lenV (i := 1) rfl T.n_len rfl (by first | exact .inl rfl | exact .inr (.inl rfl) | exact .inr (.inr rfl))) (nomark _)))))
  (ss_one (s_ret (x_val x_bl)))
  ss_nil)
  (ss_cons (s_for (passes_of rfl) rfl (i_rng rfl T.n_range (x_cons (x_lenV (i := 1) rfl T.n_len rfl (by first | exact .inl rfl | exact .inr (.inl rfl) | exact .inr (.inr rfl))) x_nil)) (g_name (i := 2) nd rfl (by first | exact .inl rfl | exact .inr rfl)) rfl
  (ss_one (s_if (o_not (o_val (x_tree (x_call IH hr tk rfl T.g__law_same T.F__law_same.kp (bd__law_same T.F__law_same) (x_cons (x_ixV (i := 0) rfl (by first | exact .inl rfl | exact .inr (.inl rfl) | exact .inr (.inr rfl)) (x_var (i := 2) rfl (by first | exact .inl rfl | exact .inr (.inl rfl) | exact .inr (.inr rfl))) (fun _ _ => rfl)) (x_cons (x_ixV (i := 1) rfl (by first | exact .inl rfl | exact .inr (.inl rfl) | exact .inr (.inr rfl)) (x_var (i := 2) rfl (by first | exact .inl rfl | exact .inr (.inl rfl) | exact .inr (.inr rfl))) (fun _ _ => rfl)) x_nil))))))
  (ss_one (s_ret (x_val x_bl)))
  ss_nil)))
  (ss_one (s_ret (x_val x_bl)))))
  ss_nil)
  (ss_cons (s_if (o_cmp op_isG f_is (x_var (i := 1) rfl (by first | exact .inl rfl | exact .inr (.inl rfl) | exact .inr (.inr rfl))) x_bl (nomark _))
  (ss_one (s_ret (x_cmp op_isG f_is (x_var (i := 0) rfl (by first | exact .inl rfl | exact .inr (.inl rfl) | exact .inr (.inr rfl))) x_bl (nomark _))))
  ss_nil)
  (ss_cons (s_if (o_cmp op_isG f_is (x_var (i := 1) rfl (by first | exact .inl rfl | exact .inr (.inl rfl) | exact .inr (.inr rfl))) x_bl (nomark _))
  (ss_one (s_ret (x_cmp op_isG f_is (x_var (i := 0) rfl (by first | exact .inl rfl | exact .inr (.inl rfl) | exact .inr (.inr rfl))) x_bl (nomark _))))
  ss_nil)
  (ss_cons (s_if (o_val (x_isi (y := .str) rfl T.n_isinstance rfl T.n_str (x_var (i := 1) rfl (by first | exact .inl rfl | exact .inr (.inl rfl) | exact .inr (.inr rfl)))))
  (ss_one (s_ret (x_val (x_and (x_isi (y := .str) rfl T.n_isinstance rfl T.n_str (x_var (i := 0) rfl (by first | exact .inl rfl | exact .inr (.inl rfl) | exact .inr (.inr rfl)))) (x_one (x_tree (x_cmp (op_eq.or (op_eqD hu)) f_eq (x_var (i := 0) rfl (by first | exact .inl rfl | exact .inr (.inl rfl) | exact .inr (.inr rfl))) (x_var (i := 1) rfl (by first | exact .inl rfl | exact .inr (.inl rfl) | exact .inr (.inr rfl))) (nomark _))))))))
  ss_nil)
  (ss_one (s_ret (x_val (x_and (x_tree (x_call (ok__law_int T) (hr.mono (by omega)) tk rfl T.g__law_int T.F__law_int.kp (bd__law_int T.F__law_int) (x_cons (x_var (i := 0) rfl (by first | exact .inl rfl | exact .inr (.inl rfl) | exact .inr (.inr rfl))) x_nil))) (x_one (x_tree (x_cmp (op_eq.or (op_eqD hu)) f_eq (x_var (i := 0) rfl (by first | exact .inl rfl | exact .inr (.inl rfl) | exact .inr (.inr rfl))) (x_var (i := 1) rfl (by first | exact .inl rfl | exact .inr (.inl rfl) | exact .inr (.inr rfl))) (nomark _))))))))))))
theorem ok__law_same (T : Txt K mg A FD CA CI FC) : FnOk P w K mg base (L2.CX P w) 10 (A 18) (FD 18) ["_law_got", "_law_due_here"] (spD K mg D__law_same) := okn__law_same T 8
def M__law_room : Ms := (mSeq (mSet 1 (mCallP D__law_take 0 (mCons (mC (.int 8)) mNil)))
  (mSeq (mIfS (mTst (mTree (m2 fEq (mVar 1) (mC (.int 7)))))
  (mRet (m2 fAdd (mC (.int 1)) (mTree (mCallP D__law_great 0 mNil))))
  mNx)
  (mSeq (mIfS (mTst (mTree (m2 fEq (mVar 1) (mC (.int 6)))))
  (mRet (m2 fAdd (mC (.int 1)) (mTree (mCallP D__law_take 0 (mCons (mC (.int 40)) mNil)))))
  mNx)
  (mRet (m2 fAdd (mC (.int 1)) (mTree (mCallP D__law_take 0 (mCons (mC (.int 3)) mNil))))))))
def D__law_room : DF := runDef 2 1 [0] M__law_room
theorem ok__law_room (T : Txt K mg A FD CA CI FC) : FnOk P w K mg base (L2.CX P w) 3 (A 19) (FD 19) ["_law_pool_here"] (spD K mg D__law_room) := by
  refine def_ok T.F__law_room sc__law_room fun cdv A outer s H E hr tk => ?_
  have nd := sc__law_room.nd
  have hu := hr.u64
  exact (ss_cons (s_set (i := 1) nd rfl (by first | exact .inl rfl | exact .inr rfl) rfl (x_callP (i := 0) (ok__law_take T) (hr.mono (by decide)) tk rfl T.g__law_take T.F__law_take.kp (bd__law_take T.F__law_take) rfl (by first | exact .inl rfl | exact .inr (.inl rfl) | exact .inr (.inr rfl)) (x_cons x_int x_nil)))
  (ss_cons (s_if (o_cmp (op_eq.or (op_eqD hu)) f_eq (x_var (i := 1) rfl (by first | exact .inl rfl | exact .inr (.inl rfl) | exact .inr (.inr rfl))) x_int (nomark _))
  (ss_one (s_ret (x_op o_add f_add x_int (x_tree (x_callP (i := 0) (ok__law_great T) (hr.mono (by decide)) tk rfl T.g__law_great T.F__law_great.kp (bd__law_great T.F__law_great) rfl (by first | exact .inl rfl | exact .inr (.inl rfl) | exact .inr (.inr rfl)) x_nil)))))
  ss_nil)
  (ss_cons (s_if (o_cmp (op_eq.or (op_eqD hu)) f_eq (x_var (i := 1) rfl (by first | exact .inl rfl | exact .inr (.inl rfl) | exact .inr (.inr rfl))) x_int (nomark _))
  (ss_one (s_ret (x_op o_add f_add x_int (x_tree (x_callP (i := 0) (ok__law_take T) (hr.mono (by decide)) tk rfl T.g__law_take T.F__law_take.kp (bd__law_take T.F__law_take) rfl (by first | exact .inl rfl | exact .inr (.inl rfl) | exact .inr (.inr rfl)) (x_cons x_int x_nil))))))
  ss_nil)
  (ss_one (s_ret (x_op o_add f_add x_int (x_tree (x_callP (i := 0) (ok__law_take T) (hr.mono (by decide)) tk rfl T.g__law_take T.F__law_take.kp (bd__law_take T.F__law_take) rfl (by first | exact .inl rfl | exact .inr (.inl rfl) | exact .inr (.inr rfl)) (x_cons x_int x_nil)))))))))
def M__law_net : Ms := (mSeq (mSet 1 (m2 fIx (mTree (mLst (mCons (mC (.int 3)) (mCons (mC (.int 1)) (mCons (mC (.int 2)) (mCons (mC (.int 4)) (mCons (mC (.int 5)) (mCons (mC (.int 8)) (mCons (mC (.int 2)) (mCons (mC (.int 3)) mNil)))))))))) (mTree (mCallP D__law_take 0 (mCons (mC (.int 8)) mNil)))))
  (mSeq (mSet 2 (mLst mNil))
  (mSeq (mIfS (mTst (mTree (m2 fGt (mVar 1) (mC (.int 1)))))
  (mFor (mRng (mCons (mTree (m2 fIx (mTree (mLst (mCons (mC (.int 2)) (mCons (mC (.int 0)) (mCons (mC (.int 1)) (mCons (mC (.int 3)) (mCons (mC (.int 4)) (mCons (mC (.int 5)) (mCons (mC (.int 14)) (mCons (mC (.int 3)) mNil)))))))))) (mTree (mCallP D__law_take 0 (mCons (mC (.int 8)) mNil))))) mNil)) (gN 3)
  (mSeq (mSet 4 (mCallP D__law_take 0 (mCons (mTree (m2 fSub (mVar 1) (mC (.int 1)))) mNil)))
  (mSeq (mSet 5 (m2 fAdd (mTree (m2 fAdd (mVar 4) (mC (.int 1)))) (mTree (mCallP D__law_take 0 (mCons (mTree (m2 fSub (mTree (m2 fSub (mVar 1) (mC (.int 1)))) (mVar 4))) mNil)))))
  (mDrop (mApp 2 (mTup (mCons (mVar 4) (mCons (mVar 5) (mCons (mTree (mCallP D__law_room 0 mNil)) mNil)))))))))
  mNx)
  (mRet (mVal (mTup (mCons (mVar 1) (mCons (mTree (mN fTuple (mCons (mVar 2) mNil))) mNil))))))))
def D__law_net : DF := runDef 6 1 [0] M__law_net
theorem ok__law_net (T : Txt K mg A FD CA CI FC) : FnOk P w K mg base (L2.CX P w) 4 (A 20) (FD 20) ["_law_pool_here"] (spD K mg D__law_net) := by
  refine def_ok T.F__law_net sc__law_net fun cdv A outer s H E hr tk => ?_
  have nd := sc__law_net.nd
  have hu := hr.u64
  exact (ss_cons (s_set (i := 1) nd rfl (by first | exact .inl rfl | exact .inr rfl) rfl (x_ix (ix_list.or ix_tup) f_ix (x_tree (x_lst (x_cons x_int (x_cons x_int (x_cons x_int (x_cons x_int (x_cons x_int (x_cons x_int (x_cons x_int (x_cons x_int x_nil)))))))))) (x_tree (x_callP (i := 0) (ok__law_take T) (hr.mono (by decide)) tk rfl T.g__law_take T.F__law_take.kp (bd__law_take T.F__law_take) rfl (by first | exact .inl rfl | exact .inr (.inl rfl) | exact .inr (.inr rfl)) (x_cons x_int x_nil))) (fun _ _ => rfl)))
  (ss_cons (s_set (i := 2) nd rfl (by first | exact .inl rfl | exact .inr rfl) rfl (x_lst x_nil))
  (ss_cons (s_if (o_cmp op_gt f_cmp (x_var (i := 1) rfl (by first | exact .inl rfl | exact .inr (.inl rfl) | exact .inr (.inr rfl))) x_int (nomark _))
  (ss_one (s_for (passes_of rfl) rfl (i_rng rfl T.n_range (x_cons (x_tree (x_ix (ix_list.or ix_tup) f_ix (x_tree (x_lst (x_cons x_int (x_cons x_int (x_cons x_int (x_cons x_int (x_cons x_int (x_cons x_int (x_cons x_int (x_cons x_int x_nil)))))))))) (x_tree (x_callP (i := 0) (ok__law_take T) (hr.mono (by decide)) tk rfl T.g__law_take T.F__law_take.kp (bd__law_take T.F__law_take) rfl (by first | exact .inl rfl | exact .inr (.inl rfl) | exact .inr (.inr rfl)) (x_cons x_int x_nil))) (fun _ _ => rfl))) x_nil)) (g_name (i := 3) nd rfl (by first | exact .inl rfl | exact .inr rfl)) rfl
  (ss_cons (s_set (i := 4) nd rfl (by first | exact .inl rfl | exact .inr rfl) rfl (x_callP (i := 0) (ok__law_take T) (hr.mono (by decide)) tk rfl T.g__law_take T.F__law_take.kp (bd__law_take T.F__law_take) rfl (by first | exact .inl rfl | exact .inr (.inl rfl) | exact .inr (.inr rfl)) (x_cons (x_tree (x_op op_sub f_sub (x_var (i := 1) rfl (by first | exact .inl rfl | exact .inr (.inl rfl) | exact .inr (.inr rfl))) x_int)) x_nil)))
  (ss_cons (s_set (i := 5) nd rfl (by first | exact .inl rfl | exact .inr rfl) rfl (x_op o_add f_add (x_tree (x_op o_add f_add (x_var (i := 4) rfl (by first | exact .inl rfl | exact .inr (.inl rfl) | exact .inr (.inr rfl))) x_int)) (x_tree (x_callP (i := 0) (ok__law_take T) (hr.mono (by decide)) tk rfl T.g__law_take T.F__law_take.kp (bd__law_take T.F__law_take) rfl (by first | exact .inl rfl | exact .inr (.inl rfl) | exact .inr (.inr rfl)) (x_cons (x_tree (x_op op_sub f_sub (x_tree (x_op op_sub f_sub (x_var (i := 1) rfl (by first | exact .inl rfl | exact .inr (.inl rfl) | exact .inr (.inr rfl))) x_int)) (x_var (i := 4) rfl (by first | exact .inl rfl | exact .inr (.inl rfl) | exact .inr (.inr rfl))))) x_nil)))))
  (ss_one (s_expr (x_app (i := 2) rfl (by first | exact .inl rfl | exact .inr (.inl rfl) | exact .inr (.inr rfl)) (x_tup (x_cons (x_var (i := 4) rfl (by first | exact .inl rfl | exact .inr (.inl rfl) | exact .inr (.inr rfl))) (x_cons (x_var (i := 5) rfl (by first | exact .inl rfl | exact .inr (.inl rfl) | exact .inr (.inr rfl))) (x_cons (x_tree (x_callP (i := 0) (ok__law_room T) (hr.mono (by decide)) tk rfl T.g__law_room T.F__law_room.kp (bd__law_room T.F__law_room) rfl (by first | exact .inl rfl | exact .inr (.inl rfl) | exact .inr (.inr rfl)) x_nil)) x_nil)))))))))))
  ss_nil)
  (ss_one (s_ret (x_val (x_tup (x_cons (x_var (i := 1) rfl (by first | exact .inl rfl | exact .inr (.inl rfl) | exact .inr (.inr rfl))) (x_cons (x_tree (x_typ call_tupX f_tuple rfl T.n_tuple (by decide +kernel) (x_cons (x_var (i := 2) rfl (by first | exact .inl rfl | exact .inr (.inl rfl) | exact .inr (.inr rfl))) x_nil))) x_nil)))))))))
def M__law_odd : Ms := (mSeq (mSet 1 (mLst (mCons (mC .none) (mCons (mC (.bool true)) (mCons (mC (.bool false)) (mCons (mC (.int 0)) (mCons (mC (.int 1)) (mCons (mTree (m1 fNeg (mC (.int 1)))) (mCons (mC (.str "")) (mCons (mC (.str "0")) (mCons (mC (.str "abc")) (mCons (mTup mNil) (mCons (mTup (mCons (mC (.int 0)) mNil)) (mCons (mTree (mLst (mCons (mC (.int 0)) mNil))) (mCons (mTup (mCons (mC (.int 0)) (mCons (mC (.int 1)) mNil))) (mCons (mTree (mLst (mCons (mC (.int 0)) (mCons (mC (.int 1)) (mCons (mC (.int 1)) mNil))))) (mCons (mTup (mCons (mC (.int 0)) (mCons (mC (.int 1)) (mCons (mC (.int 1)) mNil)))) (mCons (mTup (mCons (mC (.int 1)) (mCons (mC (.int 0)) (mCons (mC (.int 1)) mNil)))) mNil))))))))))))))))))
  (mSeq (mSet 1 (m2 fAdd (mVar 1) (mTree (mLst (mCons (mTup (mCons (mC (.int 0)) (mCons (mC (.int 0)) (mCons (mC (.int 1)) mNil)))) (mCons (mTup (mCons (mC (.int 0)) (mCons (mC (.int 1)) (mCons (mC (.int 0)) mNil)))) (mCons (mTup (mCons (mC (.int 0)) (mCons (mC (.int 1)) (mCons (mC (.bool true)) mNil)))) (mCons (mTup (mCons (mC (.bool false)) (mCons (mC (.int 1)) (mCons (mC (.int 1)) mNil)))) (mCons (mTup (mCons (mC (.int 0)) (mCons (mC (.int 1)) (mCons (mC (.str "1")) mNil)))) (mCons (mTup (mCons (mC (.int 0)) (mCons (mC (.int 1)) (mCons (mC (.int 1)) (mCons (mC (.int 1)) mNil))))) (mCons (mTree (m2 fPow (mC (.int 10)) (mC (.int 59)))) (mCons (mTree (m1 fNeg (mC (.int 7)))) mNil))))))))))))
  (mRet (mVal (mIxV 1 (mTree (mCallP D__law_take 0 (mCons (mC (.int 24)) mNil))))))))
def D__law_odd : DF := runDef 2 1 [0] M__law_odd
theorem ok__law_odd (T : Txt K mg A FD CA CI FC) : FnOk P w K mg base (L2.CX P w) 2 (A 21) (FD 21) ["_law_pool_here"] (spD K mg D__law_odd) := by
  refine def_ok T.F__law_odd sc__law_odd fun cdv A outer s H E hr tk => ?_
  have nd := sc__law_odd.nd
  have hu := hr.u64
  exact (ss_cons (s_set (i := 1) nd rfl (by first | exact .inl rfl | exact .inr rfl) rfl (x_lst (x_cons x_non (x_cons x_bl (x_cons x_bl (x_cons x_int (x_cons x_int (x_cons (x_tree (x_un un_neg f_neg x_int)) (x_cons x_str (x_cons x_str (x_cons x_str (x_cons (x_tup x_nil) (x_cons (x_tup (x_cons x_int x_nil)) (x_cons (x_tree (x_lst (x_cons x_int x_nil))) (x_cons (x_tup (x_cons x_int (x_cons x_int x_nil))) (x_cons (x_tree (x_lst (x_cons x_int (x_cons x_int (x_cons x_int x_nil))))) (x_cons (x_tup (x_cons x_int (x_cons x_int (x_cons x_int x_nil)))) (x_cons (x_tup (x_cons x_int (x_cons x_int (x_cons x_int x_nil)))) x_nil))))))))))))))))))
  (ss_cons (s_set (i := 1) nd rfl (by first | exact .inl rfl | exact .inr rfl) rfl (x_op o_add f_add (x_var (i := 1) rfl (by first | exact .inl rfl | exact .inr (.inl rfl) | exact .inr (.inr rfl))) (x_tree (x_lst (x_cons (x_tup (x_cons x_int (x_cons x_int (x_cons x_int x_nil)))) (x_cons (x_tup (x_cons x_int (x_cons x_int (x_cons x_int x_nil)))) (x_cons (x_tup (x_cons x_int (x_cons x_int (x_cons x_bl x_nil)))) (x_cons (x_tup (x_cons x_bl (x_cons x_int (x_cons x_int x_nil)))) (x_cons (x_tup (x_cons x_int (x_cons x_int (x_cons x_str x_nil)))) (x_cons (x_tup (x_cons x_int (x_cons x_int (x_cons x_int (x_cons x_int x_nil))))) (x_cons (x_tree (x_op op_pow f_pow x_int x_int)) (x_cons (x_tree (x_un un_neg f_neg x_int)) x_nil))))))))))))
  (ss_one (s_ret (x_val (x_ixV (i := 1) rfl (by first | exact .inl rfl | exact .inr (.inl rfl) | exact .inr (.inr rfl)) (x_tree (x_callP (i := 0) (ok__law_take T) (hr.mono (by decide)) tk rfl T.g__law_take T.F__law_take.kp (bd__law_take T.F__law_take) rfl (by first | exact .inl rfl | exact .inr (.inl rfl) | exact .inr (.inr rfl)) (x_cons x_int x_nil))) (fun _ _ => rfl)))))))
def M__law_spoilt : Ms := (mSeq (mSet 2 (mCallP D__law_take 0 (mCons (mC (.int 8)) mNil)))
  (mSeq (mIfS (mOrT (mNotT (mTst (mIsi .tup (mVar 1)))) (mOrT (mTst (mTree (m2 fNe (mLenV 1) (mC (.int 2))))) (mNotT (mTst (mIsi .tup (mIxV 1 (mC (.int 1))))))))
  (mRet (mVal (mVar 1)))
  mNx)
  (mSeq (mSet 3 (mVal (mIxV 1 (mC (.int 0)))))
  (mSeq (mSet 4 (mN fList (mCons (mIxV 1 (mC (.int 1))) mNil)))
  (mSeq (mIfS (mTst (mTree (m2 fEq (mVar 2) (mC (.int 1)))))
  (mRet (m2 fIx (mTree (mLst (mCons (mTree (mLst (mCons (mVar 3) (mCons (mIxV 1 (mC (.int 1))) mNil)))) (mCons (mTup (mCons (mVar 3) mNil)) (mCons (mTup (mCons (mVar 3) (mCons (mIxV 1 (mC (.int 1))) (mCons (mC (.int 0)) mNil)))) (mCons (mTup (mCons (mIxV 1 (mC (.int 1))) (mCons (mVar 3) mNil))) mNil)))))) (mTree (mCallP D__law_take 0 (mCons (mC (.int 4)) mNil)))))
  mNx)
  (mSeq (mIfS (mTst (mTree (m2 fEq (mVar 2) (mC (.int 2)))))
  (mSeq (mSet 6 (mCallP D__law_odd 0 mNil))
  (mSeq (mIfS (mAndT (mTst (mTree (mCall D__law_int (mCons (mVar 6) mNil)))) (mTst (mTree (m2 fGt (mVar 6) (mC (.int 9973))))))
  (mSet 6 (mVal (mC (.int 9973))))
  mNx)
  (mRet (mVal (mTup (mCons (mVar 6) (mCons (mIxV 1 (mC (.int 1))) mNil)))))))
  mNx)
  (mSeq (mIfS (mTst (mTree (m2 fEq (mVar 2) (mC (.int 3)))))
  (mRet (mVal (mTup (mCons (mVar 3) (mCons (mTree (m2 fIx (mTree (mLst (mCons (mVar 4) (mCons (mTree (mCallP D__law_odd 0 mNil)) mNil)))) (mTree (mCallP D__law_take 0 (mCons (mC (.int 2)) mNil))))) mNil)))))
  mNx)
  (mSeq (mIfS (mTst (mTree (m2 fEq (mLenV 4) (mC (.int 0)))))
  (mRet (mVal (mTup (mCons (mVar 3) (mCons (mTup (mCons (mTree (mCallP D__law_odd 0 mNil)) mNil)) mNil)))))
  mNx)
  (mSeq (mSet 5 (mCallP D__law_take 0 (mCons (mLenV 4) mNil)))
  (mSeq (mIfS (mTst (mTree (m2 fEq (mVar 2) (mC (.int 4)))))
  (mSetIx 4 (mVar 5) (mTree (mCallP D__law_odd 0 mNil)))
  mNx)
  (mSeq (mIfS (mAndT (mTst (mTree (m2 fGt (mVar 2) (mC (.int 4))))) (mAndT (mTst (mIsi .tup (mIxV 4 (mVar 5)))) (mTst (mTree (m2 fEq (mTree (mN fLen (mCons (mIxV 4 (mVar 5)) mNil))) (mC (.int 3)))))))
  (mSeq (mSet 7 (mN fList (mCons (mIxV 4 (mVar 5)) mNil)))
  (mIfS (mTst (mTree (m2 fLt (mVar 2) (mC (.int 7)))))
  (mSeq (mSet 8 (mVal (mC (.int 4))))
  (mSeq (mIfS (mTst (mTree (mCall D__law_int (mCons (mVar 3) mNil))))
  (mSet 8 (mVal (mVar 3)))
  mNx)
  (mSeq (mSet 9 (mCallP D__law_take 0 (mCons (mC (.int 3)) mNil)))
  (mSeq (mSetIx 7 (mVar 9) (mTree (m2 fIx (mTree (mLst (mCons (mC .none) (mCons (mC (.bool true)) (mCons (mC (.bool false)) (mCons (mTree (m1 fNeg (mC (.int 1)))) (mCons (mC (.int 0)) (mCons (mVar 8) (mCons (mTree (m2 fSub (mVar 8) (mC (.int 1)))) (mCons (mC (.str "1")) (mCons (mTup (mCons (mC (.int 1)) mNil)) (mCons (mTree (m2 fPow (mC (.int 10)) (mC (.int 59)))) mNil)))))))))))) (mTree (mCallP D__law_take 0 (mCons (mC (.int 10)) mNil))))))
  (mSetIx 4 (mVar 5) (mTree (mN fTuple (mCons (mVar 7) mNil))))))))
  (mSetIx 4 (mVar 5) (mVar 7))))
  mNx)
  (mRet (mVal (mTup (mCons (mVar 3) (mCons (mTree (mN fTuple (mCons (mVar 4) mNil))) mNil))))))))))))))))
def D__law_spoilt : DF := runDef 10 2 [0, 1] M__law_spoilt
theorem ok__law_spoilt (T : Txt K mg A FD CA CI FC) : FnOk P w K mg base (L2.CX P w) 3 (A 22) (FD 22) ["_law_pool_here", "_law_value"] (spD K mg D__law_spoilt) := by
  refine def_ok T.F__law_spoilt sc__law_spoilt fun cdv A outer s H E hr tk => ?_
  have nd := sc__law_spoilt.nd
  have hu := hr.u64
  exact (ss_cons (s_set (i := 2) nd rfl (by first | exact .inl rfl | exact .inr rfl) rfl (x_callP (i := 0) (ok__law_take T) (hr.mono (by decide)) tk rfl T.g__law_take T.F__law_take.kp (bd__law_take T.F__law_take) rfl (by first | exact .inl rfl | exact .inr (.inl rfl) | exact .inr (.inr rfl)) (x_cons x_int x_nil)))
  (ss_cons (s_if (PW.pt (o_or (o_not (o_val (x_isi (y := .tup) rfl T.n_isinstance rfl T.n_tuple (x_var (i := 1) rfl (by first | exact .inl rfl | exact .inr (.inl rfl) | exact .inr (.inr rfl)))))) (o_or (o_cmp (op_ne.or (op_neD hu)) f_ne (x_lenV (i := 1) rfl T.n_len rfl (by first | exact .inl rfl | exact .inr (.inl rfl) | exact .inr (.inr rfl))) x_int (nomark _)) (o_or1 (o_not (o_val (x_isi (y := .tup) rfl T.n_isinstance rfl T.n_tuple (x_ixV (i := 1) rfl (by first | exact .inl rfl | exact .inr (.inl rfl) | exact .inr (.inr rfl)) x_int (fun _ _ => rfl)))))))))
  (ss_one (s_ret (x_val (x_var (i := 1) rfl (by first | exact .inl rfl | exact .inr (.inl rfl) | exact .inr (.inr rfl))))))
  ss_nil)
  (ss_cons (s_set (i := 3) nd rfl (by first | exact .inl rfl | exact .inr rfl) rfl (x_val (x_ixV (i := 1) rfl (by first | exact .inl rfl | exact .inr (.inl rfl) | exact .inr (.inr rfl)) x_int (fun _ _ => rfl))))
  (ss_cons (s_set (i := 4) nd rfl (by first | exact .inl rfl | exact .inr rfl) rfl (x_typ call_list_of f_list rfl T.n_list (by decide +kernel) (x_cons (x_ixV (i := 1) rfl (by first | exact .inl rfl | exact .inr (.inl rfl) | exact .inr (.inr rfl)) x_int (fun _ _ => rfl)) x_nil)))
  (ss_cons (s_if (o_cmp (op_eq.or (op_eqD hu)) f_eq (x_var (i := 2) rfl (by first | exact .inl rfl | exact .inr (.inl rfl) | exact .inr (.inr rfl))) x_int (nomark _))
  (ss_one (s_ret (x_ix (ix_list.or ix_tup) f_ix (x_tree (x_lst (x_cons (x_tree (x_lst (x_cons (x_var (i := 3) rfl (by first | exact .inl rfl | exact .inr (.inl rfl) | exact .inr (.inr rfl))) (x_cons (x_ixV (i := 1) rfl (by first | exact .inl rfl | exact .inr (.inl rfl) | exact .inr (.inr rfl)) x_int (fun _ _ => rfl)) x_nil)))) (x_cons (x_tup (x_cons (x_var (i := 3) rfl (by first | exact .inl rfl | exact .inr (.inl rfl) | exact .inr (.inr rfl))) x_nil)) (x_cons (x_tup (x_cons (x_var (i := 3) rfl (by first | exact .inl rfl | exact .inr (.inl rfl) | exact .inr (.inr rfl))) (x_cons (x_ixV (i := 1) rfl (by first | exact .inl rfl | exact .inr (.inl rfl) | exact .inr (.inr rfl)) x_int (fun _ _ => rfl)) (x_cons x_int x_nil)))) (x_cons (x_tup (x_cons (x_ixV (i := 1) rfl (by first | exact .inl rfl | exact .inr (.inl rfl) | exact .inr (.inr rfl)) x_int (fun _ _ => rfl)) (x_cons (x_var (i := 3) rfl (by first | exact .inl rfl | exact .inr (.inl rfl) | exact .inr (.inr rfl))) x_nil))) x_nil)))))) (x_tree (x_callP (i := 0) (ok__law_take T) (hr.mono (by decide)) tk rfl T.g__law_take T.F__law_take.kp (bd__law_take T.F__law_take) rfl (by first | exact .inl rfl | exact .inr (.inl rfl) | exact .inr (.inr rfl)) (x_cons x_int x_nil))) (fun _ _ => rfl))))
  ss_nil)
  (ss_cons (s_if (o_cmp (op_eq.or (op_eqD hu)) f_eq (x_var (i := 2) rfl (by first | exact .inl rfl | exact .inr (.inl rfl) | exact .inr (.inr rfl))) x_int (nomark _))
  (ss_cons (s_set (i := 6) nd rfl (by first | exact .inl rfl | exact .inr rfl) rfl (x_callP (i := 0) (ok__law_odd T) (hr.mono (by decide)) tk rfl T.g__law_odd T.F__law_odd.kp (bd__law_odd T.F__law_odd) rfl (by first | exact .inl rfl | exact .inr (.inl rfl) | exact .inr (.inr rfl)) x_nil))
  (ss_cons (s_if (PW.pt (o_and (o_val (x_tree (x_call (ok__law_int T) (hr.mono (by decide)) tk rfl T.g__law_int T.F__law_int.kp (bd__law_int T.F__law_int) (x_cons (x_var (i := 6) rfl (by first | exact .inl rfl | exact .inr (.inl rfl) | exact .inr (.inr rfl))) x_nil)))) (o_and1 (o_cmp op_gt f_cmp (x_var (i := 6) rfl (by first | exact .inl rfl | exact .inr (.inl rfl) | exact .inr (.inr rfl))) x_int (nomark _)))))
  (ss_one (s_set (i := 6) nd rfl (by first | exact .inl rfl | exact .inr rfl) rfl (x_val x_int)))
  ss_nil)
  (ss_one (s_ret (x_val (x_tup (x_cons (x_var (i := 6) rfl (by first | exact .inl rfl | exact .inr (.inl rfl) | exact .inr (.inr rfl))) (x_cons (x_ixV (i := 1) rfl (by first | exact .inl rfl | exact .inr (.inl rfl) | exact .inr (.inr rfl)) x_int (fun _ _ => rfl)) x_nil))))))))
  ss_nil)
  (ss_cons (s_if (o_cmp (op_eq.or (op_eqD hu)) f_eq (x_var (i := 2) rfl (by first | exact .inl rfl | exact .inr (.inl rfl) | exact .inr (.inr rfl))) x_int (nomark _))
  (ss_one (s_ret (x_val (x_tup (x_cons (x_var (i := 3) rfl (by first | exact .inl rfl | exact .inr (.inl rfl) | exact .inr (.inr rfl))) (x_cons (x_tree (x_ix (ix_list.or ix_tup) f_ix (x_tree (x_lst (x_cons (x_var (i := 4) rfl (by first | exact .inl rfl | exact .inr (.inl rfl) | exact .inr (.inr rfl))) (x_cons (x_tree (x_callP (i := 0) (ok__law_odd T) (hr.mono (by decide)) tk rfl T.g__law_odd T.F__law_odd.kp (bd__law_odd T.F__law_odd) rfl (by first | exact .inl rfl | exact .inr (.inl rfl) | exact .inr (.inr rfl)) x_nil)) x_nil)))) (x_tree (x_callP (i := 0) (ok__law_take T) (hr.mono (by decide)) tk rfl T.g__law_take T.F__law_take.kp (bd__law_take T.F__law_take) rfl (by first | exact .inl rfl | exact .inr (.inl rfl) | exact .inr (.inr rfl)) (x_cons x_int x_nil))) (fun _ _ => rfl))) x_nil))))))
  ss_nil)
  (ss_cons (s_if (o_cmp (op_eq.or (op_eqD hu)) f_eq (x_lenV (i := 4) rfl T.n_len rfl (by first | exact .inl rfl | exact .inr (.inl rfl) | exact .inr (.inr rfl))) x_int (nomark _))
  (ss_one (s_ret (x_val (x_tup (x_cons (x_var (i := 3) rfl (by first | exact .inl rfl | exact .inr (.inl rfl) | exact .inr (.inr rfl))) (x_cons (x_tup (x_cons (x_tree (x_callP (i := 0) (ok__law_odd T) (hr.mono (by decide)) tk rfl T.g__law_odd T.F__law_odd.kp (bd__law_odd T.F__law_odd) rfl (by first | exact .inl rfl | exact .inr (.inl rfl) | exact .inr (.inr rfl)) x_nil)) x_nil)) x_nil))))))
  ss_nil)
  (ss_cons (s_set (i := 5) nd rfl (by first | exact .inl rfl | exact .inr rfl) rfl (x_callP (i := 0) (ok__law_take T) (hr.mono (by decide)) tk rfl T.g__law_take T.F__law_take.kp (bd__law_take T.F__law_take) rfl (by first | exact .inl rfl | exact .inr (.inl rfl) | exact .inr (.inr rfl)) (x_cons (x_lenV (i := 4) rfl T.n_len rfl (by first | exact .inl rfl | exact .inr (.inl rfl) | exact .inr (.inr rfl))) x_nil)))
  (ss_cons (s_if (o_cmp (op_eq.or (op_eqD hu)) f_eq (x_var (i := 2) rfl (by first | exact .inl rfl | exact .inr (.inl rfl) | exact .inr (.inr rfl))) x_int (nomark _))
  (ss_one (s_setIx (i := 4) rfl (by first | exact .inl rfl | exact .inr (.inl rfl) | exact .inr (.inr rfl)) (x_var (i := 5) rfl (by first | exact .inl rfl | exact .inr (.inl rfl) | exact .inr (.inr rfl))) (x_tree (x_callP (i := 0) (ok__law_odd T) (hr.mono (by decide)) tk rfl T.g__law_odd T.F__law_odd.kp (bd__law_odd T.F__law_odd) rfl (by first | exact .inl rfl | exact .inr (.inl rfl) | exact .inr (.inr rfl)) x_nil))))
  ss_nil)
  (ss_cons (s_if (PW.pt (o_and (o_cmp op_gt f_cmp (x_var (i := 2) rfl (by first | exact .inl rfl | exact .inr (.inl rfl) | exact .inr (.inr rfl))) x_int (nomark _)) (o_and (o_val (x_isi (y := .tup) rfl T.n_isinstance rfl T.n_tuple (x_ixV (i := 4) rfl (by first | exact .inl rfl | exact .inr (.inl rfl) | exact .inr (.inr rfl)) (x_var (i := 5) rfl (by first | exact .inl rfl | exact .inr (.inl rfl) | exact .inr (.inr rfl))) (fun _ _ => rfl)))) (o_and1 (o_cmp (op_eq.or (op_eqD hu)) f_eq (x_tree (x_blt call_len_seq f_len rfl T.n_len (by decide +kernel) (x_cons (x_ixV (i := 4) rfl (by first | exact .inl rfl | exact .inr (.inl rfl) | exact .inr (.inr rfl)) (x_var (i := 5) rfl (by first | exact .inl rfl | exact .inr (.inl rfl) | exact .inr (.inr rfl))) (fun _ _ => rfl)) x_nil))) x_int (nomark _))))))
  (ss_cons (s_set (i := 7) nd rfl (by first | exact .inl rfl | exact .inr rfl) rfl (x_typ call_list_of f_list rfl T.n_list (by decide +kernel) (x_cons (x_ixV (i := 4) rfl (by first | exact .inl rfl | exact .inr (.inl rfl) | exact .inr (.inr rfl)) (x_var (i := 5) rfl (by first | exact .inl rfl | exact .inr (.inl rfl) | exact .inr (.inr rfl))) (fun _ _ => rfl)) x_nil)))
  (ss_one (s_if (o_cmp op_lt f_cmp (x_var (i := 2) rfl (by first | exact .inl rfl | exact .inr (.inl rfl) | exact .inr (.inr rfl))) x_int (nomark _))
  (ss_cons (s_set (i := 8) nd rfl (by first | exact .inl rfl | exact .inr rfl) rfl (x_val x_int))
  (ss_cons (s_if (o_val (x_tree (x_call (ok__law_int T) (hr.mono (by decide)) tk rfl T.g__law_int T.F__law_int.kp (bd__law_int T.F__law_int) (x_cons (x_var (i := 3) rfl (by first | exact .inl rfl | exact .inr (.inl rfl) | exact .inr (.inr rfl))) x_nil))))
  (ss_one (s_set (i := 8) nd rfl (by first | exact .inl rfl | exact .inr rfl) rfl (x_val (x_var (i := 3) rfl (by first | exact .inl rfl | exact .inr (.inl rfl) | exact .inr (.inr rfl))))))
  ss_nil)
  (ss_cons (s_set (i := 9) nd rfl (by first | exact .inl rfl | exact .inr rfl) rfl (x_callP (i := 0) (ok__law_take T) (hr.mono (by decide)) tk rfl T.g__law_take T.F__law_take.kp (bd__law_take T.F__law_take) rfl (by first | exact .inl rfl | exact .inr (.inl rfl) | exact .inr (.inr rfl)) (x_cons x_int x_nil)))
  (ss_cons (s_setIx (i := 7) rfl (by first | exact .inl rfl | exact .inr (.inl rfl) | exact .inr (.inr rfl)) (x_var (i := 9) rfl (by first | exact .inl rfl | exact .inr (.inl rfl) | exact .inr (.inr rfl))) (x_tree (x_ix (ix_list.or ix_tup) f_ix (x_tree (x_lst (x_cons x_non (x_cons x_bl (x_cons x_bl (x_cons (x_tree (x_un un_neg f_neg x_int)) (x_cons x_int (x_cons (x_var (i := 8) rfl (by first | exact .inl rfl | exact .inr (.inl rfl) | exact .inr (.inr rfl))) (x_cons (x_tree (x_op op_sub f_sub (x_var (i := 8) rfl (by first | exact .inl rfl | exact .inr (.inl rfl) | exact .inr (.inr rfl))) x_int)) (x_cons x_str (x_cons (x_tup (x_cons x_int x_nil)) (x_cons (x_tree (x_op op_pow f_pow x_int x_int)) x_nil)))))))))))) (x_tree (x_callP (i := 0) (ok__law_take T) (hr.mono (by decide)) tk rfl T.g__law_take T.F__law_take.kp (bd__law_take T.F__law_take) rfl (by first | exact .inl rfl | exact .inr (.inl rfl) | exact .inr (.inr rfl)) (x_cons x_int x_nil))) (fun _ _ => rfl))))
  (ss_one (s_setIx (i := 4) rfl (by first | exact .inl rfl | exact .inr (.inl rfl) | exact .inr (.inr rfl)) (x_var (i := 5) rfl (by first | exact .inl rfl | exact .inr (.inl rfl) | exact .inr (.inr rfl))) (x_tree (x_typ call_tupX f_tuple rfl T.n_tuple (by decide +kernel) (x_cons (x_var (i := 7) rfl (by first | exact .inl rfl | exact .inr (.inl rfl) | exact .inr (.inr rfl))) x_nil)))))))))
  (ss_one (s_setIx (i := 4) rfl (by first | exact .inl rfl | exact .inr (.inl rfl) | exact .inr (.inr rfl)) (x_var (i := 5) rfl (by first | exact .inl rfl | exact .inr (.inl rfl) | exact .inr (.inr rfl))) (x_var (i := 7) rfl (by first | exact .inl rfl | exact .inr (.inl rfl) | exact .inr (.inr rfl))))))))
  ss_nil)
  (ss_one (s_ret (x_val (x_tup (x_cons (x_var (i := 3) rfl (by first | exact .inl rfl | exact .inr (.inl rfl) | exact .inr (.inr rfl))) (x_cons (x_tree (x_typ call_tupX f_tuple rfl T.n_tuple (by decide +kernel) (x_cons (x_var (i := 4) rfl (by first | exact .inl rfl | exact .inr (.inl rfl) | exact .inr (.inr rfl))) x_nil))) x_nil)))))))))))))))))
def M__law_bent : Ms := (mSeq (mSet 3 (mCallP D__law_take 0 (mCons (mC (.int 8)) mNil)))
  (mSeq (mIfS (mTst (mTree (m2 fLt (mVar 3) (mC (.int 3)))))
  (mRet (mN fTuple (mCons (mVar 1) mNil)))
  mNx)
  (mSeq (mIfS (mTst (mTree (m2 fEq (mVar 3) (mC (.int 3)))))
  (mRet (mN fList (mCons (mVar 1) mNil)))
  mNx)
  (mSeq (mIfS (mOrT (mTst (mTree (m2 fEq (mVar 3) (mC (.int 4))))) (mTst (mTree (m2 fEq (mLenV 1) (mC (.int 0))))))
  (mRet (mN fTuple (mCons (mTree (m2 fAdd (mVar 1) (mTree (mLst (mCons (mTree (m2 fIx (mTree (mLst (mCons (mC (.int 0)) (mCons (mVar 2) (mCons (mC (.bool true)) (mCons (mC .none) (mCons (mTree (m1 fNeg (mC (.int 1)))) mNil))))))) (mTree (mCallP D__law_take 0 (mCons (mC (.int 5)) mNil))))) mNil))))) mNil)))
  mNx)
  (mSeq (mIfS (mTst (mTree (m2 fEq (mVar 3) (mC (.int 5)))))
  (mRet (mN fTuple (mCons (mTree (mSl (mVar 1) none (some (mTree (m1 fNeg (mC (.int 1))))))) mNil)))
  mNx)
  (mSeq (mIfS (mTst (mTree (m2 fEq (mVar 3) (mC (.int 6)))))
  (mSeq (mSet 4 (mCallP D__law_take 0 (mCons (mLenV 1) mNil)))
  (mRet (mN fTuple (mCons (mTree (m2 fAdd (mTree (m2 fAdd (mTree (mSl (mVar 1) none (some (mVar 4)))) (mTree (mLst (mCons (mTree (m2 fIx (mTree (mLst (mCons (mC (.int 0)) (mCons (mVar 2) (mCons (mC (.bool true)) (mCons (mC (.bool false)) (mCons (mC (.str "0")) (mCons (mTree (m2 fAdd (mIxV 1 (mVar 4)) (mC (.int 1)))) mNil)))))))) (mTree (mCallP D__law_take 0 (mCons (mC (.int 6)) mNil))))) mNil))))) (mTree (mSl (mVar 1) (some (mTree (m2 fAdd (mVar 4) (mC (.int 1))))) none)))) mNil))))
  mNx)
  (mRet (mN fTuple (mCons (mTree (m1 fRev (mVar 1))) mNil)))))))))
def D__law_bent : DF := runDef 5 3 [0, 1, 2] M__law_bent
theorem ok__law_bent (T : Txt K mg A FD CA CI FC) : FnOk P w K mg base (L2.CX P w) 2 (A 23) (FD 23) ["_law_pool_here", "_law_row", "_law_n"] (spD K mg D__law_bent) := by
  refine def_ok T.F__law_bent sc__law_bent fun cdv A outer s H E hr tk => ?_
  have nd := sc__law_bent.nd
  have hu := hr.u64
  exact (ss_cons (s_set (i := 3) nd rfl (by first | exact .inl rfl | exact .inr rfl) rfl (x_callP (i := 0) (ok__law_take T) (hr.mono (by decide)) tk rfl T.g__law_take T.F__law_take.kp (bd__law_take T.F__law_take) rfl (by first | exact .inl rfl | exact .inr (.inl rfl) | exact .inr (.inr rfl)) (x_cons x_int x_nil)))
  (ss_cons (s_if (o_cmp op_lt f_cmp (x_var (i := 3) rfl (by first | exact .inl rfl | exact .inr (.inl rfl) | exact .inr (.inr rfl))) x_int (nomark _))
  (ss_one (s_ret (x_typ call_tupX f_tuple rfl T.n_tuple (by decide +kernel) (x_cons (x_var (i := 1) rfl (by first | exact .inl rfl | exact .inr (.inl rfl) | exact .inr (.inr rfl))) x_nil))))
  ss_nil)
  (ss_cons (s_if (o_cmp (op_eq.or (op_eqD hu)) f_eq (x_var (i := 3) rfl (by first | exact .inl rfl | exact .inr (.inl rfl) | exact .inr (.inr rfl))) x_int (nomark _))
  (ss_one (s_ret (x_typ call_list_of f_list rfl T.n_list (by decide +kernel) (x_cons (x_var (i := 1) rfl (by first | exact .inl rfl | exact .inr (.inl rfl) | exact .inr (.inr rfl))) x_nil))))
  ss_nil)
  (ss_cons (s_if (PW.pt (o_or (o_cmp (op_eq.or (op_eqD hu)) f_eq (x_var (i := 3) rfl (by first | exact .inl rfl | exact .inr (.inl rfl) | exact .inr (.inr rfl))) x_int (nomark _)) (o_or1 (o_cmp (op_eq.or (op_eqD hu)) f_eq (x_lenV (i := 1) rfl T.n_len rfl (by first | exact .inl rfl | exact .inr (.inl rfl) | exact .inr (.inr rfl))) x_int (nomark _)))))
  (ss_one (s_ret (x_typ call_tupX f_tuple rfl T.n_tuple (by decide +kernel) (x_cons (x_tree (x_op o_add f_add (x_var (i := 1) rfl (by first | exact .inl rfl | exact .inr (.inl rfl) | exact .inr (.inr rfl))) (x_tree (x_lst (x_cons (x_tree (x_ix (ix_list.or ix_tup) f_ix (x_tree (x_lst (x_cons x_int (x_cons (x_var (i := 2) rfl (by first | exact .inl rfl | exact .inr (.inl rfl) | exact .inr (.inr rfl))) (x_cons x_bl (x_cons x_non (x_cons (x_tree (x_un un_neg f_neg x_int)) x_nil))))))) (x_tree (x_callP (i := 0) (ok__law_take T) (hr.mono (by decide)) tk rfl T.g__law_take T.F__law_take.kp (bd__law_take T.F__law_take) rfl (by first | exact .inl rfl | exact .inr (.inl rfl) | exact .inr (.inr rfl)) (x_cons x_int x_nil))) (fun _ _ => rfl))) x_nil))))) x_nil))))
  ss_nil)
  (ss_cons (s_if (o_cmp (op_eq.or (op_eqD hu)) f_eq (x_var (i := 3) rfl (by first | exact .inl rfl | exact .inr (.inl rfl) | exact .inr (.inr rfl))) x_int (nomark _))
  (ss_one (s_ret (x_typ call_tupX f_tuple rfl T.n_tuple (by decide +kernel) (x_cons (x_tree (x_sl (x_var (i := 1) rfl (by first | exact .inl rfl | exact .inr (.inl rfl) | exact .inr (.inr rfl))) p_none (p_some (x_tree (x_un un_neg f_neg x_int))))) x_nil))))
  ss_nil)
  (ss_cons (s_if (o_cmp (op_eq.or (op_eqD hu)) f_eq (x_var (i := 3) rfl (by first | exact .inl rfl | exact .inr (.inl rfl) | exact .inr (.inr rfl))) x_int (nomark _))
  (ss_cons (s_set (i := 4) nd rfl (by first | exact .inl rfl | exact .inr rfl) rfl (x_callP (i := 0) (ok__law_take T) (hr.mono (by decide)) tk rfl T.g__law_take T.F__law_take.kp (bd__law_take T.F__law_take) rfl (by first | exact .inl rfl | exact .inr (.inl rfl) | exact .inr (.inr rfl)) (x_cons (x_lenV (i := 1) rfl T.n_len rfl (by first | exact .inl rfl | exact .inr (.inl rfl) | exact .inr (.inr rfl))) x_nil)))
  (ss_one (s_ret (x_typ call_tupX f_tuple rfl T.n_tuple (by decide +kernel) (x_cons (x_tree (x_op o_add f_add (x_tree (x_op o_add f_add (x_tree (x_sl (x_var (i := 1) rfl (by first | exact .inl rfl | exact .inr (.inl rfl) | exact .inr (.inr rfl))) p_none (p_some (x_var (i := 4) rfl (by first | exact .inl rfl | exact .inr (.inl rfl) | exact .inr (.inr rfl)))))) (x_tree (x_lst (x_cons (x_tree (x_ix (ix_list.or ix_tup) f_ix (x_tree (x_lst (x_cons x_int (x_cons (x_var (i := 2) rfl (by first | exact .inl rfl | exact .inr (.inl rfl) | exact .inr (.inr rfl))) (x_cons x_bl (x_cons x_bl (x_cons x_str (x_cons (x_tree (x_op o_add f_add (x_ixV (i := 1) rfl (by first | exact .inl rfl | exact .inr (.inl rfl) | exact .inr (.inr rfl)) (x_var (i := 4) rfl (by first | exact .inl rfl | exact .inr (.inl rfl) | exact .inr (.inr rfl))) (fun _ _ => rfl)) x_int)) x_nil)))))))) (x_tree (x_callP (i := 0) (ok__law_take T) (hr.mono (by decide)) tk rfl T.g__law_take T.F__law_take.kp (bd__law_take T.F__law_take) rfl (by first | exact .inl rfl | exact .inr (.inl rfl) | exact .inr (.inr rfl)) (x_cons x_int x_nil))) (fun _ _ => rfl))) x_nil))))) (x_tree (x_sl (x_var (i := 1) rfl (by first | exact .inl rfl | exact .inr (.inl rfl) | exact .inr (.inr rfl))) (p_some (x_tree (x_op o_add f_add (x_var (i := 4) rfl (by first | exact .inl rfl | exact .inr (.inl rfl) | exact .inr (.inr rfl))) x_int))) p_none)))) x_nil)))))
  ss_nil)
  (ss_one (s_ret (x_typ call_tupX f_tuple rfl T.n_tuple (by decide +kernel) (x_cons (x_tree (x_rev (x_var (i := 1) rfl (by first | exact .inl rfl | exact .inr (.inl rfl) | exact .inr (.inr rfl))))) x_nil))))))))))
def M__law_word : Ms := (mSeq (mIfS (mOrT (mNotT (mTst (mIsi .tup (mVar 0)))) (mTst (mTree (m2 fNe (mLenV 0) (mC (.int 2))))))
  (mRet (mVal (mTup (mCons (mC (.str "shape")) (mCons (mTree (m1 fNeg (mC (.int 1)))) mNil)))))
  mNx)
  (mSeq (mIfS (mOrT (mNotT (mTst (mTree (mCall D__law_int (mCons (mIxV 0 (mC (.int 0))) mNil))))) (mTst (mTree (m2 fLt (mIxV 0 (mC (.int 0))) (mC (.int 1))))))
  (mRet (mVal (mTup (mCons (mC (.str "size")) (mCons (mTree (m1 fNeg (mC (.int 1)))) mNil)))))
  mNx)
  (mSeq (mIfS (mNotT (mTst (mIsi .tup (mIxV 0 (mC (.int 1))))))
  (mRet (mVal (mTup (mCons (mC (.str "lines")) (mCons (mTree (m1 fNeg (mC (.int 1)))) mNil)))))
  mNx)
  (mSeq (mFor (mRng (mCons (mTree (mN fLen (mCons (mIxV 0 (mC (.int 1))) mNil))) mNil)) (gN 1)
  (mSeq (mSet 2 (m2 fIx (mIxV 0 (mC (.int 1))) (mVar 1)))
  (mSeq (mIfS (mOrT (mNotT (mTst (mIsi .tup (mVar 2)))) (mTst (mTree (m2 fNe (mLenV 2) (mC (.int 3))))))
  (mRet (mVal (mTup (mCons (mC (.str "shape")) (mCons (mVar 1) mNil)))))
  mNx)
  (mSeq (mIfS (mOrT (mNotT (mTst (mTree (mCall D__law_int (mCons (mIxV 2 (mC (.int 0))) mNil))))) (mOrT (mNotT (mTst (mTree (mCall D__law_int (mCons (mIxV 2 (mC (.int 1))) mNil))))) (mNotT (mChainT (mC (.int 0)) (qLink fLe (mIxV 2 (mC (.int 0))) (qLink fLt (mIxV 2 (mC (.int 1))) (qLast fLt (mIxV 0 (mC (.int 0))))))))))
  (mRet (mVal (mTup (mCons (mC (.str "house")) (mCons (mVar 1) mNil)))))
  mNx)
  (mIfS (mOrT (mNotT (mTst (mTree (mCall D__law_int (mCons (mIxV 2 (mC (.int 2))) mNil))))) (mTst (mTree (m2 fLt (mIxV 2 (mC (.int 2))) (mC (.int 1))))))
  (mRet (mVal (mTup (mCons (mC (.str "room")) (mCons (mVar 1) mNil)))))
  mNx)))))
  (mRet (mVal (mTup (mCons (mC (.str "")) (mCons (mTree (mN fLen (mCons (mIxV 0 (mC (.int 1))) mNil))) mNil)))))))))
def D__law_word : DF := runDef 3 1 [0] M__law_word
theorem ok__law_word (T : Txt K mg A FD CA CI FC) : FnOk P w K mg base (L2.CX P w) 2 (A 24) (FD 24) ["_law_value"] (spD K mg D__law_word) := by
  refine def_ok T.F__law_word sc__law_word fun cdv A outer s H E hr tk => ?_
  have nd := sc__law_word.nd
  have hu := hr.u64
  exact (ss_cons (s_if (PW.pt (o_or (o_not (o_val (x_isi (y := .tup) rfl T.n_isinstance rfl T.n_tuple (x_var (i := 0) rfl (by first | exact .inl rfl | exact .inr (.inl rfl) | exact .inr (.inr rfl)))))) (o_or1 (o_cmp (op_ne.or (op_neD hu)) f_ne (x_lenV (i := 0) rfl T.n_len rfl (by first | exact .inl rfl | exact .inr (.inl rfl) | exact .inr (.inr rfl))) x_int (nomark _)))))
  (ss_one (s_ret (x_val (x_tup (x_cons x_str (x_cons (x_tree (x_un un_neg f_neg x_int)) x_nil))))))
  ss_nil)
  (ss_cons (s_if (PW.pt (o_or (o_not (o_val (x_tree (x_call (ok__law_int T) (hr.mono (by decide)) tk rfl T.g__law_int T.F__law_int.kp (bd__law_int T.F__law_int) (x_cons (x_ixV (i := 0) rfl (by first | exact .inl rfl | exact .inr (.inl rfl) | exact .inr (.inr rfl)) x_int (fun _ _ => rfl)) x_nil))))) (o_or1 (o_cmp op_lt f_cmp (x_ixV (i := 0) rfl (by first | exact .inl rfl | exact .inr (.inl rfl) | exact .inr (.inr rfl)) x_int (fun _ _ => rfl)) x_int (nomark _)))))
  (ss_one (s_ret (x_val (x_tup (x_cons x_str (x_cons (x_tree (x_un un_neg f_neg x_int)) x_nil))))))
  ss_nil)
  (ss_cons (s_if (o_not (o_val (x_isi (y := .tup) rfl T.n_isinstance rfl T.n_tuple (x_ixV (i := 0) rfl (by first | exact .inl rfl | exact .inr (.inl rfl) | exact .inr (.inr rfl)) x_int (fun _ _ => rfl)))))
  (ss_one (s_ret (x_val (x_tup (x_cons x_str (x_cons (x_tree (x_un un_neg f_neg x_int)) x_nil))))))
  ss_nil)
  (ss_cons (s_for (passes_of rfl) rfl (i_rng rfl T.n_range (x_cons (x_tree (x_blt call_len_seq f_len rfl T.n_len (by decide +kernel) (x_cons (x_ixV (i := 0) rfl (by first | exact .inl rfl | exact .inr (.inl rfl) | exact .inr (.inr rfl)) x_int (fun _ _ => rfl)) x_nil))) x_nil)) (g_name (i := 1) nd rfl (by first | exact .inl rfl | exact .inr rfl)) rfl
  (ss_cons (s_set (i := 2) nd rfl (by first | exact .inl rfl | exact .inr rfl) rfl (x_ix (ix_list.or ix_tup) f_ix (x_ixV (i := 0) rfl (by first | exact .inl rfl | exact .inr (.inl rfl) | exact .inr (.inr rfl)) x_int (fun _ _ => rfl)) (x_var (i := 1) rfl (by first | exact .inl rfl | exact .inr (.inl rfl) | exact .inr (.inr rfl))) (fun _ _ => rfl)))
  (ss_cons (s_if (PW.pt (o_or (o_not (o_val (x_isi (y := .tup) rfl T.n_isinstance rfl T.n_tuple (x_var (i := 2) rfl (by first | exact .inl rfl | exact .inr (.inl rfl) | exact .inr (.inr rfl)))))) (o_or1 (o_cmp (op_ne.or (op_neD hu)) f_ne (x_lenV (i := 2) rfl T.n_len rfl (by first | exact .inl rfl | exact .inr (.inl rfl) | exact .inr (.inr rfl))) x_int (nomark _)))))
  (ss_one (s_ret (x_val (x_tup (x_cons x_str (x_cons (x_var (i := 1) rfl (by first | exact .inl rfl | exact .inr (.inl rfl) | exact .inr (.inr rfl))) x_nil))))))
  ss_nil)
  (ss_cons (s_if (PW.pt (o_or (o_not (o_val (x_tree (x_call (ok__law_int T) (hr.mono (by decide)) tk rfl T.g__law_int T.F__law_int.kp (bd__law_int T.F__law_int) (x_cons (x_ixV (i := 2) rfl (by first | exact .inl rfl | exact .inr (.inl rfl) | exact .inr (.inr rfl)) x_int (fun _ _ => rfl)) x_nil))))) (o_or (o_not (o_val (x_tree (x_call (ok__law_int T) (hr.mono (by decide)) tk rfl T.g__law_int T.F__law_int.kp (bd__law_int T.F__law_int) (x_cons (x_ixV (i := 2) rfl (by first | exact .inl rfl | exact .inr (.inl rfl) | exact .inr (.inr rfl)) x_int (fun _ _ => rfl)) x_nil))))) (o_or1 (o_not (o_chain x_int (q_link op_le f_cmp (x_ixV (i := 2) rfl (by first | exact .inl rfl | exact .inr (.inl rfl) | exact .inr (.inr rfl)) x_int (fun _ _ => rfl)) (q_link op_lt f_cmp (x_ixV (i := 2) rfl (by first | exact .inl rfl | exact .inr (.inl rfl) | exact .inr (.inr rfl)) x_int (fun _ _ => rfl)) (q_last op_lt f_cmp (x_ixV (i := 0) rfl (by first | exact .inl rfl | exact .inr (.inl rfl) | exact .inr (.inr rfl)) x_int (fun _ _ => rfl)))))))))))
  (ss_one (s_ret (x_val (x_tup (x_cons x_str (x_cons (x_var (i := 1) rfl (by first | exact .inl rfl | exact .inr (.inl rfl) | exact .inr (.inr rfl))) x_nil))))))
  ss_nil)
  (ss_one (s_if (PW.pt (o_or (o_not (o_val (x_tree (x_call (ok__law_int T) (hr.mono (by decide)) tk rfl T.g__law_int T.F__law_int.kp (bd__law_int T.F__law_int) (x_cons (x_ixV (i := 2) rfl (by first | exact .inl rfl | exact .inr (.inl rfl) | exact .inr (.inr rfl)) x_int (fun _ _ => rfl)) x_nil))))) (o_or1 (o_cmp op_lt f_cmp (x_ixV (i := 2) rfl (by first | exact .inl rfl | exact .inr (.inl rfl) | exact .inr (.inr rfl)) x_int (fun _ _ => rfl)) x_int (nomark _)))))
  (ss_one (s_ret (x_val (x_tup (x_cons x_str (x_cons (x_var (i := 1) rfl (by first | exact .inl rfl | exact .inr (.inl rfl) | exact .inr (.inr rfl))) x_nil))))))
  ss_nil))))))
  (ss_one (s_ret (x_val (x_tup (x_cons x_str (x_cons (x_tree (x_blt call_len_seq f_len rfl T.n_len (by decide +kernel) (x_cons (x_ixV (i := 0) rfl (by first | exact .inl rfl | exact .inr (.inl rfl) | exact .inr (.inr rfl)) x_int (fun _ _ => rfl)) x_nil))) x_nil))))))))))
def M__law_lowest : Ms := (mSeq (mIfS (mOrT (mNotT (mTst (mIsi .tup (mVar 0)))) (mOrT (mTst (mTree (m2 fNe (mLenV 0) (mC (.int 2))))) (mOrT (mNotT (mTst (mTree (mCall D__law_int (mCons (mIxV 0 (mC (.int 0))) mNil))))) (mNotT (mTst (mTree (mCall D__law_int (mCons (mIxV 0 (mC (.int 1))) mNil))))))))
  (mRet (mVal (mC (.bool false))))
  mNx)
  (mSeq (mIfS (mTst (mTree (m2 fLt (mIxV 0 (mC (.int 1))) (mC (.int 1)))))
  (mRet (mVal (mC (.bool false))))
  mNx)
  (mSeq (mSet 1 (mVal (mIxV 0 (mC (.int 1)))))
  (mSeq (mSet 2 (mN fAbs (mCons (mIxV 0 (mC (.int 0))) mNil)))
  (mSeq (mFor (mRng (mCons (mC (.int 400)) mNil)) (gN 3)
  (mSeq (mIfS (mTst (mTree (m2 fEq (mVar 2) (mC (.int 0)))))
  (fun e => .ok .bk e)
  mNx)
  (mSeq (mSet 4 (m2 fSub (mVar 1) (mTree (m2 fMul (mTree (m2 fDiv (mVar 1) (mVar 2))) (mVar 2)))))
  (mSeq (mSet 1 (mVal (mVar 2)))
  (mSet 2 (mVal (mVar 4)))))))
  (mRet (m2 fEq (mVar 1) (mC (.int 1)))))))))
def D__law_lowest : DF := runDef 5 1 [0] M__law_lowest
theorem ok__law_lowest (T : Txt K mg A FD CA CI FC) : FnOk P w K mg base (L2.CX P w) 2 (A 25) (FD 25) ["_law_value"] (spD K mg D__law_lowest) := by
  refine def_ok T.F__law_lowest sc__law_lowest fun cdv A outer s H E hr tk => ?_
  have nd := sc__law_lowest.nd
  have hu := hr.u64
  exact (ss_cons (s_if (PW.pt (o_or (o_not (o_val (x_isi (y := .tup) rfl T.n_isinstance rfl T.n_tuple (x_var (i := 0) rfl (by first | exact .inl rfl | exact .inr (.inl rfl) | exact .inr (.inr rfl)))))) (o_or (o_cmp (op_ne.or (op_neD hu)) f_ne (x_lenV (i := 0) rfl T.n_len rfl (by first | exact .inl rfl | exact .inr (.inl rfl) | exact .inr (.inr rfl))) x_int (nomark _)) (o_or (o_not (o_val (x_tree (x_call (ok__law_int T) (hr.mono (by decide)) tk rfl T.g__law_int T.F__law_int.kp (bd__law_int T.F__law_int) (x_cons (x_ixV (i := 0) rfl (by first | exact .inl rfl | exact .inr (.inl rfl) | exact .inr (.inr rfl)) x_int (fun _ _ => rfl)) x_nil))))) (o_or1 (o_not (o_val (x_tree (x_call (ok__law_int T) (hr.mono (by decide)) tk rfl T.g__law_int T.F__law_int.kp (bd__law_int T.F__law_int) (x_cons (x_ixV (i := 0) rfl (by first | exact .inl rfl | exact .inr (.inl rfl) | exact .inr (.inr rfl)) x_int (fun _ _ => rfl)) x_nil))))))))))
  (ss_one (s_ret (x_val x_bl)))
  ss_nil)
  (ss_cons (s_if (o_cmp op_lt f_cmp (x_ixV (i := 0) rfl (by first | exact .inl rfl | exact .inr (.inl rfl) | exact .inr (.inr rfl)) x_int (fun _ _ => rfl)) x_int (nomark _))
  (ss_one (s_ret (x_val x_bl)))
  ss_nil)
  (ss_cons (s_set (i := 1) nd rfl (by first | exact .inl rfl | exact .inr rfl) rfl (x_val (x_ixV (i := 0) rfl (by first | exact .inl rfl | exact .inr (.inl rfl) | exact .inr (.inr rfl)) x_int (fun _ _ => rfl))))
  (ss_cons (s_set (i := 2) nd rfl (by first | exact .inl rfl | exact .inr rfl) rfl (x_blt call_abs f_abs rfl T.n_abs (by decide +kernel) (x_cons (x_ixV (i := 0) rfl (by first | exact .inl rfl | exact .inr (.inl rfl) | exact .inr (.inr rfl)) x_int (fun _ _ => rfl)) x_nil)))
  (ss_cons (s_for (passes_of rfl) rfl (i_rng rfl T.n_range (x_cons x_int x_nil)) (g_name (i := 3) nd rfl (by first | exact .inl rfl | exact .inr rfl)) rfl
  (ss_cons (s_if (o_cmp (op_eq.or (op_eqD hu)) f_eq (x_var (i := 2) rfl (by first | exact .inl rfl | exact .inr (.inl rfl) | exact .inr (.inr rfl))) x_int (nomark _))
  (ss_one s_break)
  ss_nil)
  (ss_cons (s_set (i := 4) nd rfl (by first | exact .inl rfl | exact .inr rfl) rfl (x_op op_sub f_sub (x_var (i := 1) rfl (by first | exact .inl rfl | exact .inr (.inl rfl) | exact .inr (.inr rfl))) (x_tree (x_op op_mulW f_mul (x_tree (x_op op_fdivW f_div (x_var (i := 1) rfl (by first | exact .inl rfl | exact .inr (.inl rfl) | exact .inr (.inr rfl))) (x_var (i := 2) rfl (by first | exact .inl rfl | exact .inr (.inl rfl) | exact .inr (.inr rfl))))) (x_var (i := 2) rfl (by first | exact .inl rfl | exact .inr (.inl rfl) | exact .inr (.inr rfl)))))))
  (ss_cons (s_set (i := 1) nd rfl (by first | exact .inl rfl | exact .inr rfl) rfl (x_val (x_var (i := 2) rfl (by first | exact .inl rfl | exact .inr (.inl rfl) | exact .inr (.inr rfl)))))
  (ss_one (s_set (i := 2) nd rfl (by first | exact .inl rfl | exact .inr rfl) rfl (x_val (x_var (i := 4) rfl (by first | exact .inl rfl | exact .inr (.inl rfl) | exact .inr (.inr rfl))))))))))
  (ss_one (s_ret (x_cmp (op_eq.or (op_eqD hu)) f_eq (x_var (i := 1) rfl (by first | exact .inl rfl | exact .inr (.inl rfl) | exact .inr (.inr rfl))) x_int (nomark _)))))))))
def M__law_numbers : Ms := (mRet (mVal (mAndV (mIsi .tup (mVar 0)) (mTree (m2 fEq (mTree (mN fLen (mCons (mTree (mComp (mSeq1 (mVar 0)) (gN 1) (mAndT (mTst (mTree (mCall D__law_int (mCons (mVar 1) mNil)))) (mTst (mTree (m2 fGe (mVar 1) (mC (.int 0)))))) (mVar 1) [1])) mNil))) (mLenV 0))))))
def D__law_numbers : DF := runDef 2 1 [0] M__law_numbers
theorem ok__law_numbers (T : Txt K mg A FD CA CI FC) : FnOk P w K mg base (L2.CX P w) 2 (A 26) (FD 26) ["_law_value"] (spD K mg D__law_numbers) := by
  refine def_ok T.F__law_numbers sc__law_numbers fun cdv A outer s H E hr tk => ?_
  have nd := sc__law_numbers.nd
  have hu := hr.u64
  exact (ss_one (s_ret (x_val (x_and (x_isi (y := .tup) rfl T.n_isinstance rfl T.n_tuple (x_var (i := 0) rfl (by first | exact .inl rfl | exact .inr (.inl rfl) | exact .inr (.inr rfl)))) (x_one (x_tree (x_cmp (op_eq.or (op_eqD hu)) f_eq (x_tree (x_blt call_len_seq f_len rfl T.n_len (by decide +kernel) (x_cons (x_tree (x_lc (own := [("_law_x", 1)]) rfl nd (i_seq (x_var (i := 0) rfl (by first | exact .inl rfl | exact .inr (.inl rfl) | exact .inr (.inr rfl)))) (blkOk_by (N := N__law_numbers) (sc := defScope s__law_numbers) (by decide +kernel)) (by decide) (fun _ _ _ _ _ => (g_name (i := 1) nd rfl (by first | exact .inl rfl | exact .inr rfl))) (fun _ _ _ _ _ => (o_one (PW.pt (o_and (o_val (x_tree (x_call (ok__law_int T) (hr.mono (by decide)) takes0 rfl T.g__law_int T.F__law_int.kp (bd__law_int T.F__law_int) (x_cons (x_var (i := 1) rfl (by first | exact .inl rfl | exact .inr (.inl rfl) | exact .inr (.inr rfl))) x_nil)))) (o_and1 (o_cmp op_ge f_cmp (x_var (i := 1) rfl (by first | exact .inl rfl | exact .inr (.inl rfl) | exact .inr (.inr rfl))) x_int (nomark _))))))) (fun _ _ _ _ _ => (x_var (i := 1) rfl (by first | exact .inl rfl | exact .inr (.inl rfl) | exact .inr (.inr rfl)))))) x_nil))) (x_lenV (i := 0) rfl T.n_len rfl (by first | exact .inl rfl | exact .inr (.inl rfl) | exact .inr (.inr rfl))) (nomark _))))))))
def M__law_due : Ms := (mSeq (mSet 3 (mCall D__law_numbers (mCons (mVar 0) mNil)))
  (mSeq (mSet 4 (mVal (mC (.bool false))))
  (mSeq (mSet 5 (mVal (mC (.bool false))))
  (mSeq (mSet 6 (mVal (mC (.bool false))))
  (mSeq (mSet 7 (mVal (mC (.bool false))))
  (mSeq (mIfS (mTst (mVar 3))
  (mSeq (mSet 4 (m2 fEq (mVar 0) (mTree (mN fTuple (mCons (mTree (mComp (mRng (mCons (mVar 1) mNil)) (gN 10) (mTst (mTree (m2 (fIn false) (mVar 10) (mVar 0)))) (mVar 10) [10])) mNil)))))
  (mSeq (mSet 5 (m2 fEq (mLenV 0) (mVar 1)))
  (mSeq (mSet 6 (mVal (mAndV (mTree (m2 fEq (mLenV 0) (mVar 1))) (mTree (m2 fEq (mTree (mN fLen (mCons (mTree (mComp (mRng (mCons (mVar 1) mNil)) (gN 10) (mTst (mTree (m2 fNe (mTree (mIdx (mVar 0) (mIxV 0 (mVar 10)))) (mIxV 0 (mVar 10))))) (mVar 10) [10])) mNil))) (mC (.int 0)))))))
  (mSeq (mSet 9 (mComp (mRng (mCons (mTree (mN fMin (mCons (mLenV 0) (mCons (mTree (mN fLen (mCons (mIxV 2 (mC (.int 1))) mNil))) mNil)))) mNil)) (gN 10) (mTst (mTree (m2 fLe (mIxV 0 (mVar 10)) (mTree (m2 fIx (mTree (m2 fIx (mIxV 2 (mC (.int 1))) (mVar 10))) (mC (.int 2))))))) (mVar 10) [10]))
  (mSet 7 (mVal (mAndV (mTree (m2 fEq (mLenV 0) (mTree (mN fLen (mCons (mIxV 2 (mC (.int 1))) mNil))))) (mTree (m2 fEq (mLenV 9) (mLenV 0))))))))))
  mNx)
  (mSeq (mSet 8 (mVal (mAndV (mTree (mCall D__law_int (mCons (mVar 0) mNil))) (mTree (m2 fGe (mVar 0) (mC (.int 0)))))))
  (mRet (mVal (mTup (mCons (mTree (mCall D__law_int (mCons (mVar 0) mNil))) (mCons (mVar 8) (mCons (mTree (mCall D__law_lowest (mCons (mVar 0) mNil))) (mCons (mVar 4) (mCons (mVar 5) (mCons (mVar 6) (mCons (mTree (m2 fEq (mTree (m2 fIx (mTree (mCall D__law_word (mCons (mVar 0) mNil))) (mC (.int 0)))) (mC (.str "")))) (mCons (mVar 7) mNil))))))))))))))))))
def D__law_due : DF := runDef 11 3 [0, 1, 2] M__law_due
theorem ok__law_due (T : Txt K mg A FD CA CI FC) : FnOk P w K mg base (L2.CX P w) 3 (A 27) (FD 27) ["_law_value", "_law_n", "_law_net_here"] (spD K mg D__law_due) := by
  refine def_ok T.F__law_due sc__law_due fun cdv A outer s H E hr tk => ?_
  have nd := sc__law_due.nd
  have hu := hr.u64
  exact (ss_cons (s_set (i := 3) nd rfl (by first | exact .inl rfl | exact .inr rfl) rfl (x_call (ok__law_numbers T) (hr.mono (by decide)) tk rfl T.g__law_numbers T.F__law_numbers.kp (bd__law_numbers T.F__law_numbers) (x_cons (x_var (i := 0) rfl (by first | exact .inl rfl | exact .inr (.inl rfl) | exact .inr (.inr rfl))) x_nil)))
  (ss_cons (s_set (i := 4) nd rfl (by first | exact .inl rfl | exact .inr rfl) rfl (x_val x_bl))
  (ss_cons (s_set (i := 5) nd rfl (by first | exact .inl rfl | exact .inr rfl) rfl (x_val x_bl))
  (ss_cons (s_set (i := 6) nd rfl (by first | exact .inl rfl | exact .inr rfl) rfl (x_val x_bl))
  (ss_cons (s_set (i := 7) nd rfl (by first | exact .inl rfl | exact .inr rfl) rfl (x_val x_bl))
  (ss_cons (s_if (o_val (x_var (i := 3) rfl (by first | exact .inl rfl | exact .inr (.inl rfl) | exact .inr (.inr rfl))))
  (ss_cons (s_set (i := 4) nd rfl (by first | exact .inl rfl | exact .inr rfl) rfl (x_cmp (op_eq.or (op_eqD hu)) f_eq (x_var (i := 0) rfl (by first | exact .inl rfl | exact .inr (.inl rfl) | exact .inr (.inr rfl))) (x_tree (x_typ call_tupX f_tuple rfl T.n_tuple (by decide +kernel) (x_cons (x_tree (x_lc (own := [("_law_k", 10)]) rfl nd (i_rng rfl T.n_range (x_cons (x_var (i := 1) rfl (by first | exact .inl rfl | exact .inr (.inl rfl) | exact .inr (.inr rfl))) x_nil)) (blkOk_by (N := N__law_due) (sc := defScope s__law_due) (by decide +kernel)) (by decide) (fun _ _ _ _ _ => (g_name (i := 10) nd rfl (by first | exact .inl rfl | exact .inr rfl))) (fun _ _ _ _ _ => (o_one (o_cmp op_in_seq f_in (x_var (i := 10) rfl (by first | exact .inl rfl | exact .inr (.inl rfl) | exact .inr (.inr rfl))) (x_var (i := 0) rfl (by first | exact .inl rfl | exact .inr (.inl rfl) | exact .inr (.inr rfl))) (by with_unfolding_all rfl)))) (fun _ _ _ _ _ => (x_var (i := 10) rfl (by first | exact .inl rfl | exact .inr (.inl rfl) | exact .inr (.inr rfl)))))) x_nil))) (nomark _)))
  (ss_cons (s_set (i := 5) nd rfl (by first | exact .inl rfl | exact .inr rfl) rfl (x_cmp (op_eq.or (op_eqD hu)) f_eq (x_lenV (i := 0) rfl T.n_len rfl (by first | exact .inl rfl | exact .inr (.inl rfl) | exact .inr (.inr rfl))) (x_var (i := 1) rfl (by first | exact .inl rfl | exact .inr (.inl rfl) | exact .inr (.inr rfl))) (nomark _)))
  (ss_cons (s_set (i := 6) nd rfl (by first | exact .inl rfl | exact .inr rfl) rfl (x_val (x_and (x_tree (x_cmp (op_eq.or (op_eqD hu)) f_eq (x_lenV (i := 0) rfl T.n_len rfl (by first | exact .inl rfl | exact .inr (.inl rfl) | exact .inr (.inr rfl))) (x_var (i := 1) rfl (by first | exact .inl rfl | exact .inr (.inl rfl) | exact .inr (.inr rfl))) (nomark _))) (x_one (x_tree (x_cmp (op_eq.or (op_eqD hu)) f_eq (x_tree (x_blt call_len_seq f_len rfl T.n_len (by decide +kernel) (x_cons (x_tree (x_lc (own := [("_law_k", 10)]) rfl nd (i_rng rfl T.n_range (x_cons (x_var (i := 1) rfl (by first | exact .inl rfl | exact .inr (.inl rfl) | exact .inr (.inr rfl))) x_nil)) (blkOk_by (N := N__law_due) (sc := defScope s__law_due) (by decide +kernel)) (by decide) (fun _ _ _ _ _ => (g_name (i := 10) nd rfl (by first | exact .inl rfl | exact .inr rfl))) (fun _ _ _ _ _ => (o_one (o_cmp (op_ne.or (op_neD hu)) f_ne (x_tree (x_idx (x_var (i := 0) rfl (by first | exact .inl rfl | exact .inr (.inl rfl) | exact .inr (.inr rfl))) (x_ixV (i := 0) rfl (by first | exact .inl rfl | exact .inr (.inl rfl) | exact .inr (.inr rfl)) (x_var (i := 10) rfl (by first | exact .inl rfl | exact .inr (.inl rfl) | exact .inr (.inr rfl))) (fun _ _ => rfl)))) (x_ixV (i := 0) rfl (by first | exact .inl rfl | exact .inr (.inl rfl) | exact .inr (.inr rfl)) (x_var (i := 10) rfl (by first | exact .inl rfl | exact .inr (.inl rfl) | exact .inr (.inr rfl))) (fun _ _ => rfl)) (nomark _)))) (fun _ _ _ _ _ => (x_var (i := 10) rfl (by first | exact .inl rfl | exact .inr (.inl rfl) | exact .inr (.inr rfl)))))) x_nil))) x_int (nomark _)))))))
  (ss_cons (by first | exact (s_set (i := 9) nd rfl (by first | exact .inl rfl | exact .inr rfl) rfl (x_lc (own := [("_law_k", 10)]) rfl nd (i_rng rfl T.n_range (x_cons (x_tree (x_blt (call_min2 rfl) f_min rfl T.n_min (by decide +kernel) (x_cons (x_lenV (i := 0) rfl T.n_len rfl (by first | exact .inl rfl | exact .inr (.inl rfl) | exact .inr (.inr rfl))) (x_cons (x_tree (x_blt call_len_seq f_len rfl T.n_len (by decide +kernel) (x_cons (x_ixV (i := 2) rfl (by first | exact .inl rfl | exact .inr (.inl rfl) | exact .inr (.inr rfl)) x_int (fun _ _ => rfl)) x_nil))) x_nil)))) x_nil)) (blkOk_by (N := N__law_due) (sc := defScope s__law_due) (by decide +kernel)) (by decide) (fun _ _ _ _ _ => (g_name (i := 10) nd rfl (by first | exact .inl rfl | exact .inr rfl))) (fun _ _ _ _ _ => (o_one (o_cmp op_le f_cmp (x_ixV (i := 0) rfl (by first | exact .inl rfl | exact .inr (.inl rfl) | exact .inr (.inr rfl)) (x_var (i := 10) rfl (by first | exact .inl rfl | exact .inr (.inl rfl) | exact .inr (.inr rfl))) (fun _ _ => rfl)) (x_tree (x_ix (ix_list.or ix_tup) f_ix (x_tree (x_ix (ix_list.or ix_tup) f_ix (x_ixV (i := 2) rfl (by first | exact .inl rfl | exact .inr (.inl rfl) | exact .inr (.inr rfl)) x_int (fun _ _ => rfl)) (x_var (i := 10) rfl (by first | exact .inl rfl | exact .inr (.inl rfl) | exact .inr (.inr rfl))) (fun _ _ => rfl))) x_int (fun _ _ => rfl))) (nomark _)))) (fun _ _ _ _ _ => (x_var (i := 10) rfl (by first | exact .inl rfl | exact .inr (.inl rfl) | exact .inr (.inr rfl)))))) | exact (s_setLc (i := 9) (hc := rfl) (hN := nd) (hy := rfl) (hyl := rfl) (hkeep := rfl) (hsw := sw_true rfl rfl rfl (by decide +kernel)) (own := [("_law_k", 10)]) (hi := (i_rng rfl T.n_range (x_cons (x_tree (x_blt (call_min2 rfl) f_min rfl T.n_min (by decide +kernel) (x_cons (x_lenV (i := 0) rfl T.n_len rfl (by first | exact .inl rfl | exact .inr (.inl rfl) | exact .inr (.inr rfl))) (x_cons (x_tree (x_blt call_len_seq f_len rfl T.n_len (by decide +kernel) (x_cons (x_ixV (i := 2) rfl (by first | exact .inl rfl | exact .inr (.inl rfl) | exact .inr (.inr rfl)) x_int (fun _ _ => rfl)) x_nil))) x_nil)))) x_nil))) (ok := blkOk_by (N := N__law_due) (sc := defScope s__law_due) (by decide +kernel)) (hk := by decide) (hg := fun _ _ _ _ _ => (g_name (i := 10) nd rfl (by first | exact .inl rfl | exact .inr rfl))) (ht := fun _ _ _ _ _ => (o_one (o_cmp op_le f_cmp (x_ixV (i := 0) rfl (by first | exact .inl rfl | exact .inr (.inl rfl) | exact .inr (.inr rfl)) (x_var (i := 10) rfl (by first | exact .inl rfl | exact .inr (.inl rfl) | exact .inr (.inr rfl))) (fun _ _ => rfl)) (x_tree (x_ix (ix_list.or ix_tup) f_ix (x_tree (x_ix (ix_list.or ix_tup) f_ix (x_ixV (i := 2) rfl (by first | exact .inl rfl | exact .inr (.inl rfl) | exact .inr (.inr rfl)) x_int (fun _ _ => rfl)) (x_var (i := 10) rfl (by first | exact .inl rfl | exact .inr (.inl rfl) | exact .inr (.inr rfl))) (fun _ _ => rfl))) x_int (fun _ _ => rfl))) (nomark _)))) (he := fun _ _ _ _ _ => (x_var (i := 10) rfl (by first | exact .inl rfl | exact .inr (.inl rfl) | exact .inr (.inr rfl))))))
  (ss_one (s_set (i := 7) nd rfl (by first | exact .inl rfl | exact .inr rfl) rfl (x_val (x_and (x_tree (x_cmp (op_eq.or (op_eqD hu)) f_eq (x_lenV (i := 0) rfl T.n_len rfl (by first | exact .inl rfl | exact .inr (.inl rfl) | exact .inr (.inr rfl))) (x_tree (x_blt call_len_seq f_len rfl T.n_len (by decide +kernel) (x_cons (x_ixV (i := 2) rfl (by first | exact .inl rfl | exact .inr (.inl rfl) | exact .inr (.inr rfl)) x_int (fun _ _ => rfl)) x_nil))) (nomark _))) (x_one (x_tree (x_cmp (op_eq.or (op_eqD hu)) f_eq (x_lenV (i := 9) rfl T.n_len rfl (by first | exact .inl rfl | exact .inr (.inl rfl) | exact .inr (.inr rfl))) (x_lenV (i := 0) rfl T.n_len rfl (by first | exact .inl rfl | exact .inr (.inl rfl) | exact .inr (.inr rfl))) (nomark _))))))))))))
  ss_nil)
  (ss_cons (s_set (i := 8) nd rfl (by first | exact .inl rfl | exact .inr rfl) rfl (x_val (x_and (x_tree (x_call (ok__law_int T) (hr.mono (by decide)) tk rfl T.g__law_int T.F__law_int.kp (bd__law_int T.F__law_int) (x_cons (x_var (i := 0) rfl (by first | exact .inl rfl | exact .inr (.inl rfl) | exact .inr (.inr rfl))) x_nil))) (x_one (x_tree (x_cmp op_ge f_cmp (x_var (i := 0) rfl (by first | exact .inl rfl | exact .inr (.inl rfl) | exact .inr (.inr rfl))) x_int (nomark _)))))))
  (ss_one (s_ret (x_val (x_tup (x_cons (x_tree (x_call (ok__law_int T) (hr.mono (by decide)) tk rfl T.g__law_int T.F__law_int.kp (bd__law_int T.F__law_int) (x_cons (x_var (i := 0) rfl (by first | exact .inl rfl | exact .inr (.inl rfl) | exact .inr (.inr rfl))) x_nil))) (x_cons (x_var (i := 8) rfl (by first | exact .inl rfl | exact .inr (.inl rfl) | exact .inr (.inr rfl))) (x_cons (x_tree (x_call (ok__law_lowest T) (hr.mono (by decide)) tk rfl T.g__law_lowest T.F__law_lowest.kp (bd__law_lowest T.F__law_lowest) (x_cons (x_var (i := 0) rfl (by first | exact .inl rfl | exact .inr (.inl rfl) | exact .inr (.inr rfl))) x_nil))) (x_cons (x_var (i := 4) rfl (by first | exact .inl rfl | exact .inr (.inl rfl) | exact .inr (.inr rfl))) (x_cons (x_var (i := 5) rfl (by first | exact .inl rfl | exact .inr (.inl rfl) | exact .inr (.inr rfl))) (x_cons (x_var (i := 6) rfl (by first | exact .inl rfl | exact .inr (.inl rfl) | exact .inr (.inr rfl))) (x_cons (x_tree (x_cmp (op_eq.or (op_eqD hu)) f_eq (x_tree (x_ix (ix_list.or ix_tup) f_ix (x_tree (x_call (ok__law_word T) (hr.mono (by decide)) tk rfl T.g__law_word T.F__law_word.kp (bd__law_word T.F__law_word) (x_cons (x_var (i := 0) rfl (by first | exact .inl rfl | exact .inr (.inl rfl) | exact .inr (.inr rfl))) x_nil))) x_int (fun _ _ => rfl))) x_str (nomark _))) (x_cons (x_var (i := 7) rfl (by first | exact .inl rfl | exact .inr (.inl rfl) | exact .inr (.inr rfl))) x_nil)))))))))))))))))))
def M__law_told : Ms := (mSeq (mIfS (mTst (mVar 3))
  (mSeq (mSet 4 (mVal (mTup (mCons (mTree (mCallKW D_is_integer [0] 1 (mCons (mVar 0) mNil))) (mCons (mTree (mCallKW D_is_number [0] 1 (mCons (mVar 0) mNil))) (mCons (mTree (mCallKW D_is_quotient [0] 1 (mCons (mVar 0) mNil))) mNil))))))
  (mSeq (mSet 5 (mVal (mTup (mCons (mTree (mCallKW D_is_lot [1, 0] 2 (mCons (mVar 0) (mCons (mVar 1) mNil)))) (mCons (mTree (mCallKW D_is_purses [1, 0] 2 (mCons (mVar 0) (mCons (mVar 1) mNil)))) (mCons (mTree (mCallKW D_is_joining [1, 0] 2 (mCons (mVar 0) (mCons (mVar 1) mNil)))) mNil))))))
  (mRet (m2 fAdd (mTree (m2 fAdd (mVar 4) (mVar 5))) (mTup (mCons (mTree (mCallKW D_is_web [0] 1 (mCons (mVar 0) mNil))) (mCons (mTree (mCallKW D_is_split [1, 0] 2 (mCons (mVar 0) (mCons (mVar 2) mNil)))) mNil)))))))
  mNx)
  (mSeq (mSet 4 (mVal (mTup (mCons (mTree (mCall D_is_integer (mCons (mVar 0) mNil))) (mCons (mTree (mCall D_is_number (mCons (mVar 0) mNil))) (mCons (mTree (mCall D_is_quotient (mCons (mVar 0) mNil))) mNil))))))
  (mSeq (mSet 5 (mVal (mTup (mCons (mTree (mCall D_is_lot (mCons (mVar 1) (mCons (mVar 0) mNil)))) (mCons (mTree (mCall D_is_purses (mCons (mVar 1) (mCons (mVar 0) mNil)))) (mCons (mTree (mCall D_is_joining (mCons (mVar 1) (mCons (mVar 0) mNil)))) mNil))))))
  (mRet (m2 fAdd (mTree (m2 fAdd (mVar 4) (mVar 5))) (mTup (mCons (mTree (mCall D_is_web (mCons (mVar 0) mNil))) (mCons (mTree (mCall D_is_split (mCons (mVar 2) (mCons (mVar 0) mNil)))) mNil))))))))
def D__law_told : DF := runDef 6 4 [0, 1, 2, 3] M__law_told
theorem ok__law_told (T : Txt K mg A FD CA CI FC) : FnOk P w K mg base (L2.CX P w) 6 (A 28) (FD 28) ["_law_value", "_law_n", "_law_net_here", "_law_named"] (spD K mg D__law_told) := by
  refine def_ok T.F__law_told sc__law_told fun cdv A outer s H E hr tk => ?_
  have nd := sc__law_told.nd
  have hu := hr.u64
  exact (ss_cons (s_if (o_val (x_var (i := 3) rfl (by first | exact .inl rfl | exact .inr (.inl rfl) | exact .inr (.inr rfl))))
  (ss_cons (s_set (i := 4) nd rfl (by first | exact .inl rfl | exact .inr rfl) rfl (x_val (x_tup (x_cons (x_tree (x_callK (pm := [0]) (ok_is_integer T) (hr.mono (by decide)) tk rfl T.g_is_integer T.F_is_integer.kp (kb_is_integer_0 T.F_is_integer) (k_cons (x_var (i := 0) rfl (by first | exact .inl rfl | exact .inr (.inl rfl) | exact .inr (.inr rfl))) k_nil))) (x_cons (x_tree (x_callK (pm := [0]) (ok_is_number T) (hr.mono (by decide)) tk rfl T.g_is_number T.F_is_number.kp (kb_is_number_0 T.F_is_number) (k_cons (x_var (i := 0) rfl (by first | exact .inl rfl | exact .inr (.inl rfl) | exact .inr (.inr rfl))) k_nil))) (x_cons (x_tree (x_callK (pm := [0]) (ok_is_quotient T) (hr.mono (by decide)) tk rfl T.g_is_quotient T.F_is_quotient.kp (kb_is_quotient_0 T.F_is_quotient) (k_cons (x_var (i := 0) rfl (by first | exact .inl rfl | exact .inr (.inl rfl) | exact .inr (.inr rfl))) k_nil))) x_nil))))))
  (ss_cons (s_set (i := 5) nd rfl (by first | exact .inl rfl | exact .inr rfl) rfl (x_val (x_tup (x_cons (x_tree (x_callK (pm := [1, 0]) (ok_is_lot T) (hr.mono (by decide)) tk rfl T.g_is_lot T.F_is_lot.kp (kb_is_lot_1_0 T.F_is_lot) (k_cons (x_var (i := 0) rfl (by first | exact .inl rfl | exact .inr (.inl rfl) | exact .inr (.inr rfl))) (k_cons (x_var (i := 1) rfl (by first | exact .inl rfl | exact .inr (.inl rfl) | exact .inr (.inr rfl))) k_nil)))) (x_cons (x_tree (x_callK (pm := [1, 0]) (ok_is_purses T) (hr.mono (by decide)) tk rfl T.g_is_purses T.F_is_purses.kp (kb_is_purses_1_0 T.F_is_purses) (k_cons (x_var (i := 0) rfl (by first | exact .inl rfl | exact .inr (.inl rfl) | exact .inr (.inr rfl))) (k_cons (x_var (i := 1) rfl (by first | exact .inl rfl | exact .inr (.inl rfl) | exact .inr (.inr rfl))) k_nil)))) (x_cons (x_tree (x_callK (pm := [1, 0]) (ok_is_joining T) (hr.mono (by decide)) tk rfl T.g_is_joining T.F_is_joining.kp (kb_is_joining_1_0 T.F_is_joining) (k_cons (x_var (i := 0) rfl (by first | exact .inl rfl | exact .inr (.inl rfl) | exact .inr (.inr rfl))) (k_cons (x_var (i := 1) rfl (by first | exact .inl rfl | exact .inr (.inl rfl) | exact .inr (.inr rfl))) k_nil)))) x_nil))))))
  (ss_one (s_ret (x_op o_add f_add (x_tree (x_op o_add f_add (x_var (i := 4) rfl (by first | exact .inl rfl | exact .inr (.inl rfl) | exact .inr (.inr rfl))) (x_var (i := 5) rfl (by first | exact .inl rfl | exact .inr (.inl rfl) | exact .inr (.inr rfl))))) (x_tup (x_cons (x_tree (x_callK (pm := [0]) (ok_is_web T) (hr.mono (by decide)) tk rfl T.g_is_web T.F_is_web.kp (kb_is_web_0 T.F_is_web) (k_cons (x_var (i := 0) rfl (by first | exact .inl rfl | exact .inr (.inl rfl) | exact .inr (.inr rfl))) k_nil))) (x_cons (x_tree (x_callK (pm := [1, 0]) (ok_is_split T) (hr.mono (by decide)) tk rfl T.g_is_split T.F_is_split.kp (kb_is_split_1_0 T.F_is_split) (k_cons (x_var (i := 0) rfl (by first | exact .inl rfl | exact .inr (.inl rfl) | exact .inr (.inr rfl))) (k_cons (x_var (i := 2) rfl (by first | exact .inl rfl | exact .inr (.inl rfl) | exact .inr (.inr rfl))) k_nil)))) x_nil))))))))
  ss_nil)
  (ss_cons (s_set (i := 4) nd rfl (by first | exact .inl rfl | exact .inr rfl) rfl (x_val (x_tup (x_cons (x_tree (x_call (ok_is_integer T) (hr.mono (by decide)) tk rfl T.g_is_integer T.F_is_integer.kp (bd_is_integer T.F_is_integer) (x_cons (x_var (i := 0) rfl (by first | exact .inl rfl | exact .inr (.inl rfl) | exact .inr (.inr rfl))) x_nil))) (x_cons (x_tree (x_call (ok_is_number T) (hr.mono (by decide)) tk rfl T.g_is_number T.F_is_number.kp (bd_is_number T.F_is_number) (x_cons (x_var (i := 0) rfl (by first | exact .inl rfl | exact .inr (.inl rfl) | exact .inr (.inr rfl))) x_nil))) (x_cons (x_tree (x_call (ok_is_quotient T) (hr.mono (by decide)) tk rfl T.g_is_quotient T.F_is_quotient.kp (bd_is_quotient T.F_is_quotient) (x_cons (x_var (i := 0) rfl (by first | exact .inl rfl | exact .inr (.inl rfl) | exact .inr (.inr rfl))) x_nil))) x_nil))))))
  (ss_cons (s_set (i := 5) nd rfl (by first | exact .inl rfl | exact .inr rfl) rfl (x_val (x_tup (x_cons (x_tree (x_call (ok_is_lot T) (hr.mono (by decide)) tk rfl T.g_is_lot T.F_is_lot.kp (bd_is_lot T.F_is_lot) (x_cons (x_var (i := 1) rfl (by first | exact .inl rfl | exact .inr (.inl rfl) | exact .inr (.inr rfl))) (x_cons (x_var (i := 0) rfl (by first | exact .inl rfl | exact .inr (.inl rfl) | exact .inr (.inr rfl))) x_nil)))) (x_cons (x_tree (x_call (ok_is_purses T) (hr.mono (by decide)) tk rfl T.g_is_purses T.F_is_purses.kp (bd_is_purses T.F_is_purses) (x_cons (x_var (i := 1) rfl (by first | exact .inl rfl | exact .inr (.inl rfl) | exact .inr (.inr rfl))) (x_cons (x_var (i := 0) rfl (by first | exact .inl rfl | exact .inr (.inl rfl) | exact .inr (.inr rfl))) x_nil)))) (x_cons (x_tree (x_call (ok_is_joining T) (hr.mono (by decide)) tk rfl T.g_is_joining T.F_is_joining.kp (bd_is_joining T.F_is_joining) (x_cons (x_var (i := 1) rfl (by first | exact .inl rfl | exact .inr (.inl rfl) | exact .inr (.inr rfl))) (x_cons (x_var (i := 0) rfl (by first | exact .inl rfl | exact .inr (.inl rfl) | exact .inr (.inr rfl))) x_nil)))) x_nil))))))
  (ss_one (s_ret (x_op o_add f_add (x_tree (x_op o_add f_add (x_var (i := 4) rfl (by first | exact .inl rfl | exact .inr (.inl rfl) | exact .inr (.inr rfl))) (x_var (i := 5) rfl (by first | exact .inl rfl | exact .inr (.inl rfl) | exact .inr (.inr rfl))))) (x_tup (x_cons (x_tree (x_call (ok_is_web T) (hr.mono (by decide)) tk rfl T.g_is_web T.F_is_web.kp (bd_is_web T.F_is_web) (x_cons (x_var (i := 0) rfl (by first | exact .inl rfl | exact .inr (.inl rfl) | exact .inr (.inr rfl))) x_nil))) (x_cons (x_tree (x_call (ok_is_split T) (hr.mono (by decide)) tk rfl T.g_is_split T.F_is_split.kp (bd_is_split T.F_is_split) (x_cons (x_var (i := 2) rfl (by first | exact .inl rfl | exact .inr (.inl rfl) | exact .inr (.inr rfl))) (x_cons (x_var (i := 0) rfl (by first | exact .inl rfl | exact .inr (.inl rfl) | exact .inr (.inr rfl))) x_nil)))) x_nil)))))))))
def Su__law_heard_0 (a dx : Nat) : Ms := (mSeq (mSet 3 (mVal (mAndV (mIsE a dx true (mVar 2)) (mAndV (mIsE a dx true (mVar 2)) (mIsE a dx true (mVar 2))))))
  (mRet (mVal (mTup (mCons (mC (.str "no")) (mCons (mFldE a dx "word" (mVar 2)) (mCons (mFldE a dx "at" (mVar 2)) (mCons (mAndV (mVar 3) (mNotV (mIsE a dx false (mVar 2)))) mNil))))))))
theorem ind_Su__law_heard_0 (a dx : Nat) (fs : List (Str × T)) (e : En) (hl : e.length = 4) : fgt 2 (Su__law_heard_0 a dx (e.set 2 (some (.val (exnT a dx fs))))) = fgt 2 (Su__law_heard_0 0 0 (e.set 2 (some (.val (exnT 0 0 fs))))) := by
  match e, hl with
  | [_, _, _, _], _ => cases h_at : look "at" (fs.map fun p => (PyData.str p.1, p.2)) <;> cases h_word : look "word" (fs.map fun p => (PyData.str p.1, p.2)) <;> simp [Su__law_heard_0, fgt, mSeq, mSet, mRet, mTree, mTup, mVal, mCons, mNil, mAndV, mOrV, mNotV, mNotT, mTst, mC, mVar, mFldE, mIsE, exnT, Res.bind, RV.tree, h_at, h_word]
def M__law_heard : Ms := (mTry 4 2 "InvalidPaper"
  (mSeq (mIfS (mTst (mVar 1))
  (mRet (mVal (mTup (mCons (mC (.str "yes")) (mCons (mTree (mCallKW D_lets_web [0] 1 (mCons (mVar 0) mNil))) mNil)))))
  mNx)
  (mRet (mVal (mTup (mCons (mC (.str "yes")) (mCons (mTree (mCall D_lets_web (mCons (mVar 0) mNil))) mNil))))))
  Su__law_heard_0)
def D__law_heard : DF := runDef 4 2 [0, 1] M__law_heard
theorem ok__law_heard (T : Txt K mg A FD CA CI FC) : FnOk P w K mg base (L2.CX P w) 7 (A 29) (FD 29) ["_law_value", "_law_named"] (spD K mg D__law_heard) := by
  refine def_ok T.F__law_heard sc__law_heard fun cdv A outer s H E hr tk => ?_
  have nd := sc__law_heard.nd
  have hu := hr.u64
  exact (ss_one (s_try nd (i := 2) (n := 4) (su := Su__law_heard_0) rfl rfl T.x_InvalidPaper rfl tk (fun _ _ _ tk => (ss_cons (s_if (o_val (x_var (i := 1) rfl (by first | exact .inl rfl | exact .inr (.inl rfl) | exact .inr (.inr rfl))))
  (ss_one (s_ret (x_val (x_tup (x_cons x_str (x_cons (x_tree (x_callK (pm := [0]) (ok_lets_web T) (hr.mono (by decide)) tk rfl T.g_lets_web T.F_lets_web.kp (kb_lets_web_0 T.F_lets_web) (k_cons (x_var (i := 0) rfl (by first | exact .inl rfl | exact .inr (.inl rfl) | exact .inr (.inr rfl))) k_nil))) x_nil))))))
  ss_nil)
  (ss_one (s_ret (x_val (x_tup (x_cons x_str (x_cons (x_tree (x_call (ok_lets_web T) (hr.mono (by decide)) tk rfl T.g_lets_web T.F_lets_web.kp (bd_lets_web T.F_lets_web) (x_cons (x_var (i := 0) rfl (by first | exact .inl rfl | exact .inr (.inl rfl) | exact .inr (.inr rfl))) x_nil))) x_nil))))))))
  (fun a dx oe pn hz hf => (ss_cons (s_set (i := 3) nd rfl (by first | exact .inl rfl | exact .inr rfl) rfl (x_val (x_and (x_isO (b := true) T.xi_InvalidPaper hz hf rfl T.n_isinstance rfl T.gc_PaperError T.kit_InvalidPaper_PaperError (x_var (i := 2) rfl (by first | exact .inl rfl | exact .inr (.inl rfl) | exact .inr (.inr rfl)))) (x_and (x_isO (b := true) T.xi_InvalidPaper hz hf rfl T.n_isinstance rfl T.gc_LedError T.kit_InvalidPaper_LedError (x_var (i := 2) rfl (by first | exact .inl rfl | exact .inr (.inl rfl) | exact .inr (.inr rfl)))) (x_one (x_isB (b := true) T.xi_InvalidPaper hz hf rfl T.n_isinstance rfl T.n_ValueError (by decide +kernel) T.kit_InvalidPaper_ValueError (x_var (i := 2) rfl (by first | exact .inl rfl | exact .inr (.inl rfl) | exact .inr (.inr rfl)))))))))
  (ss_one (s_ret (x_val (x_tup (x_cons x_str (x_cons (x_fldE T.x_InvalidPaper.xf T.no_InvalidPaper_word hz hf (x_var (i := 2) rfl (by first | exact .inl rfl | exact .inr (.inl rfl) | exact .inr (.inr rfl)))) (x_cons (x_fldE T.x_InvalidPaper.xf T.no_InvalidPaper_at hz hf (x_var (i := 2) rfl (by first | exact .inl rfl | exact .inr (.inl rfl) | exact .inr (.inr rfl)))) (x_cons (x_and (x_var (i := 3) rfl (by first | exact .inl rfl | exact .inr (.inl rfl) | exact .inr (.inr rfl))) (x_one (x_not (x_isO (b := false) T.xi_InvalidPaper hz hf rfl T.n_isinstance rfl T.gc_WebError T.kit_InvalidPaper_WebError (x_var (i := 2) rfl (by first | exact .inl rfl | exact .inr (.inl rfl) | exact .inr (.inr rfl))))))) x_nil)))))))))) ind_Su__law_heard_0))
def M__law_checked : Ms := (mSeq (mSet 2 (mCall D__law_word (mCons (mVar 0) mNil)))
  (mSeq (mIfS (mTst (mTree (m2 fEq (mIxV 2 (mC (.int 0))) (mC (.str "")))))
  (mRet (mCall D__law_same (mCons (mTree (mCall D__law_heard (mCons (mVar 0) (mCons (mVar 1) mNil)))) (mCons (mTup (mCons (mC (.str "yes")) (mCons (mIxV 2 (mC (.int 1))) mNil))) mNil))))
  mNx)
  (mRet (mCall D__law_same (mCons (mTree (mCall D__law_heard (mCons (mVar 0) (mCons (mVar 1) mNil)))) (mCons (mTup (mCons (mC (.str "no")) (mCons (mIxV 2 (mC (.int 0))) (mCons (mIxV 2 (mC (.int 1))) (mCons (mC (.bool true)) mNil))))) mNil))))))
def D__law_checked : DF := runDef 3 2 [0, 1] M__law_checked
theorem ok__law_checked (T : Txt K mg A FD CA CI FC) : FnOk P w K mg base (L2.CX P w) 11 (A 30) (FD 30) ["_law_value", "_law_named"] (spD K mg D__law_checked) := by
  refine def_ok T.F__law_checked sc__law_checked fun cdv A outer s H E hr tk => ?_
  have nd := sc__law_checked.nd
  have hu := hr.u64
  exact (ss_cons (s_set (i := 2) nd rfl (by first | exact .inl rfl | exact .inr rfl) rfl (x_call (ok__law_word T) (hr.mono (by decide)) tk rfl T.g__law_word T.F__law_word.kp (bd__law_word T.F__law_word) (x_cons (x_var (i := 0) rfl (by first | exact .inl rfl | exact .inr (.inl rfl) | exact .inr (.inr rfl))) x_nil)))
  (ss_cons (s_if (o_cmp (op_eq.or (op_eqD hu)) f_eq (x_ixV (i := 2) rfl (by first | exact .inl rfl | exact .inr (.inl rfl) | exact .inr (.inr rfl)) x_int (fun _ _ => rfl)) x_str (nomark _))
  (ss_one (s_ret (x_call (ok__law_same T) (hr.mono (by decide)) tk rfl T.g__law_same T.F__law_same.kp (bd__law_same T.F__law_same) (x_cons (x_tree (x_call (ok__law_heard T) (hr.mono (by decide)) tk rfl T.g__law_heard T.F__law_heard.kp (bd__law_heard T.F__law_heard) (x_cons (x_var (i := 0) rfl (by first | exact .inl rfl | exact .inr (.inl rfl) | exact .inr (.inr rfl))) (x_cons (x_var (i := 1) rfl (by first | exact .inl rfl | exact .inr (.inl rfl) | exact .inr (.inr rfl))) x_nil)))) (x_cons (x_tup (x_cons x_str (x_cons (x_ixV (i := 2) rfl (by first | exact .inl rfl | exact .inr (.inl rfl) | exact .inr (.inr rfl)) x_int (fun _ _ => rfl)) x_nil))) x_nil)))))
  ss_nil)
  (ss_one (s_ret (x_call (ok__law_same T) (hr.mono (by decide)) tk rfl T.g__law_same T.F__law_same.kp (bd__law_same T.F__law_same) (x_cons (x_tree (x_call (ok__law_heard T) (hr.mono (by decide)) tk rfl T.g__law_heard T.F__law_heard.kp (bd__law_heard T.F__law_heard) (x_cons (x_var (i := 0) rfl (by first | exact .inl rfl | exact .inr (.inl rfl) | exact .inr (.inr rfl))) (x_cons (x_var (i := 1) rfl (by first | exact .inl rfl | exact .inr (.inl rfl) | exact .inr (.inr rfl))) x_nil)))) (x_cons (x_tup (x_cons x_str (x_cons (x_ixV (i := 2) rfl (by first | exact .inl rfl | exact .inr (.inl rfl) | exact .inr (.inr rfl)) x_int (fun _ _ => rfl)) (x_cons (x_ixV (i := 2) rfl (by first | exact .inl rfl | exact .inr (.inl rfl) | exact .inr (.inr rfl)) x_int (fun _ _ => rfl)) (x_cons x_bl x_nil))))) x_nil)))))))
def M__law_written : Ms := (mSeq (mSet 0 (mLst (mCons (mC .none) (mCons (mC (.bool true)) (mCons (mC (.bool false)) (mCons (mC (.int 0)) (mCons (mC (.int 1)) (mCons (mTree (m1 fNeg (mC (.int 1)))) (mCons (mTree (m2 fPow (mC (.int 10)) (mC (.int 59)))) (mCons (mTree (m1 fNeg (mC (.int 3)))) (mCons (mC (.str "")) (mCons (mC (.str "0")) (mCons (mC (.str "ab")) (mCons (mC (.str "abc")) (mCons (mTup mNil) (mCons (mTree (mLst mNil)) (mCons (mTup (mCons (mC (.int 0)) mNil)) (mCons (mTree (mLst (mCons (mC (.int 0)) mNil))) (mCons (mTup (mCons (mC (.int 1)) mNil)) (mCons (mTup (mCons (mC (.bool true)) mNil)) (mCons (mTup (mCons (mC .none) mNil)) mNil)))))))))))))))))))))
  (mSeq (mSet 0 (m2 fAdd (mVar 0) (mTree (mLst (mCons (mTup (mCons (mC (.int 0)) (mCons (mC (.int 1)) mNil))) (mCons (mTree (mLst (mCons (mC (.int 0)) (mCons (mC (.int 1)) mNil)))) (mCons (mTup (mCons (mC (.int 1)) (mCons (mC (.int 2)) mNil))) (mCons (mTup (mCons (mC (.int 2)) (mCons (mC (.int 4)) mNil))) (mCons (mTup (mCons (mC (.int 0)) (mCons (mC (.int 2)) mNil))) (mCons (mTup (mCons (mTree (m1 fNeg (mC (.int 3)))) (mCons (mC (.int 2)) mNil))) (mCons (mTup (mCons (mC (.int 3)) (mCons (mTree (m1 fNeg (mC (.int 2)))) mNil))) (mCons (mTup (mCons (mC (.int 0)) (mCons (mC (.int 0)) mNil))) (mCons (mTup (mCons (mC (.int 1)) (mCons (mC (.int 0)) mNil))) (mCons (mTup (mCons (mC (.bool true)) (mCons (mC (.int 2)) mNil))) (mCons (mTup (mCons (mC (.int 1)) (mCons (mC (.bool true)) mNil))) mNil)))))))))))))))
  (mSeq (mSet 0 (m2 fAdd (mVar 0) (mTree (mLst (mCons (mTup (mCons (mC (.int 1)) (mCons (mC (.int 2)) (mCons (mC (.int 3)) mNil)))) (mCons (mTup (mCons (mC (.int 6)) (mCons (mC (.int 35)) mNil))) (mCons (mTup (mCons (mTree (m1 fNeg (mC (.int 6)))) (mCons (mC (.int 35)) mNil))) (mCons (mTup (mCons (mC (.int 91)) (mCons (mC (.int 77)) mNil))) (mCons (mTup (mCons (mC (.int 341)) (mCons (mC (.int 561)) mNil))) (mCons (mTup (mCons (mTree (m2 fPow (mC (.int 10)) (mC (.int 59)))) (mCons (mC (.int 7)) mNil))) (mCons (mTup (mCons (mTree (m2 fPow (mC (.int 10)) (mC (.int 40)))) (mCons (mTree (m2 fPow (mC (.int 10)) (mC (.int 20)))) mNil))) (mCons (mTup (mCons (mC (.int 5)) (mCons (mC (.int 1)) mNil))) mNil))))))))))))
  (mSeq (mSet 0 (m2 fAdd (mVar 0) (mTree (mLst (mCons (mTup (mCons (mC (.int 0)) (mCons (mC (.int 0)) (mCons (mC (.int 1)) mNil)))) (mCons (mTup (mCons (mC (.int 0)) (mCons (mC (.int 1)) (mCons (mC (.int 1)) mNil)))) (mCons (mTup (mCons (mC (.int 1)) (mCons (mC (.int 1)) mNil))) (mCons (mTup (mCons (mC (.int 0)) (mCons (mC (.int 0)) (mCons (mC (.int 0)) mNil)))) (mCons (mTup (mCons (mC (.int 0)) (mCons (mC (.int 1)) (mCons (mC (.int 2)) mNil)))) (mCons (mTup (mCons (mC (.int 0)) (mCons (mC (.int 2)) (mCons (mC (.int 2)) mNil)))) (mCons (mTup (mCons (mC (.int 0)) (mCons (mC (.int 0)) (mCons (mC (.int 2)) mNil)))) (mCons (mTup (mCons (mC (.int 0)) (mCons (mC (.int 1)) (mCons (mC (.int 0)) mNil)))) (mCons (mTup (mCons (mC (.int 1)) (mCons (mC (.int 1)) (mCons (mC (.int 2)) mNil)))) mNil)))))))))))))
  (mSeq (mSet 0 (m2 fAdd (mVar 0) (mTree (mLst (mCons (mTup (mCons (mC (.int 0)) (mCons (mC (.bool false)) mNil))) (mCons (mTup (mCons (mC (.int 0)) (mCons (mC (.int 0)) (mCons (mC (.bool false)) mNil)))) (mCons (mTup (mCons (mC (.int 0)) (mCons (mC (.int 1)) (mCons (mC (.int 3)) mNil)))) (mCons (mTup (mCons (mC (.int 2)) (mCons (mC (.int 0)) mNil))) (mCons (mTup (mCons (mC (.int 2)) (mCons (mC (.int 1)) (mCons (mC (.int 0)) mNil)))) (mCons (mTup (mCons (mC (.int 0)) (mCons (mC (.int 3)) mNil))) (mCons (mTup (mCons (mC (.int 0)) (mCons (mC (.int 1)) (mCons (mC (.int 2)) (mCons (mC (.int 3)) mNil))))) (mCons (mTup (mCons (mC (.int 0)) (mCons (mC (.int 0)) (mCons (mC (.int 2)) (mCons (mC (.int 2)) mNil))))) mNil))))))))))))
  (mSeq (mSet 0 (m2 fAdd (mVar 0) (mTree (mLst (mCons (mTup (mCons (mC (.int 0)) (mCons (mC (.int 1)) (mCons (mC (.int 0)) (mCons (mC (.int 1)) mNil))))) (mCons (mTup (mCons (mC (.int 0)) (mCons (mC (.int 1)) (mCons (mC (.int 1)) (mCons (mC (.int 0)) mNil))))) (mCons (mTup (mCons (mC (.int 0)) (mCons (mC (.int 1)) (mCons (mC (.int 2)) (mCons (mC (.int 1)) (mCons (mC (.int 0)) mNil)))))) (mCons (mTree (mLst (mCons (mC (.int 0)) (mCons (mC (.int 0)) (mCons (mC (.int 1)) mNil))))) (mCons (mTup (mCons (mTup (mCons (mC (.int 0)) (mCons (mC (.int 1)) mNil))) mNil)) (mCons (mTup (mCons (mC (.int 1)) (mCons (mTup mNil) mNil))) (mCons (mTup (mCons (mC (.int 0)) (mCons (mTup mNil) mNil))) (mCons (mTup (mCons (mC (.int 2)) (mCons (mTup mNil) mNil))) mNil))))))))))))
  (mSeq (mSet 0 (m2 fAdd (mVar 0) (mTree (mLst (mCons (mTup (mCons (mC (.int 1)) (mCons (mTree (mLst mNil)) mNil))) (mCons (mTree (mLst (mCons (mC (.int 1)) (mCons (mTup mNil) mNil)))) (mCons (mTup (mCons (mC (.bool true)) (mCons (mTup mNil) mNil))) (mCons (mTup (mCons (mC (.int 1)) (mCons (mTup (mCons (mTup (mCons (mC (.int 0)) (mCons (mC (.int 1)) (mCons (mC (.int 1)) mNil)))) mNil)) mNil))) (mCons (mTup (mCons (mC (.int 2)) (mCons (mTup (mCons (mTup (mCons (mC (.int 0)) (mCons (mC (.int 1)) (mCons (mC (.int 1)) mNil)))) mNil)) mNil))) (mCons (mTup (mCons (mC (.int 2)) (mCons (mTup (mCons (mTup (mCons (mC (.int 0)) (mCons (mC (.bool true)) (mCons (mC (.int 1)) mNil)))) mNil)) mNil))) (mCons (mTup (mCons (mC (.str "2")) (mCons (mTup mNil) mNil))) mNil)))))))))))
  (mSeq (mSet 0 (m2 fAdd (mVar 0) (mTree (mLst (mCons (mTup (mCons (mC (.int 2)) (mCons (mTup (mCons (mTup (mCons (mC (.int 0)) (mCons (mC (.int 1)) (mCons (mC (.bool true)) mNil)))) mNil)) mNil))) (mCons (mTup (mCons (mC (.int 2)) (mCons (mTup (mCons (mTup (mCons (mC (.bool false)) (mCons (mC (.int 1)) (mCons (mC (.int 1)) mNil)))) mNil)) mNil))) (mCons (mTup (mCons (mC (.int 2)) (mCons (mTup (mCons (mTup (mCons (mC (.int 0)) (mCons (mC (.int 1)) (mCons (mC (.int 0)) mNil)))) mNil)) mNil))) (mCons (mTup (mCons (mC (.int 2)) (mCons (mTup (mCons (mTup (mCons (mC (.int 1)) (mCons (mC (.int 0)) (mCons (mC (.int 1)) mNil)))) mNil)) mNil))) (mCons (mTup (mCons (mC (.int 2)) (mCons (mTup (mCons (mC (.int 0)) (mCons (mC (.int 1)) (mCons (mC (.int 1)) mNil)))) mNil))) mNil)))))))))
  (mSeq (mSet 0 (m2 fAdd (mVar 0) (mTree (mLst (mCons (mTup (mCons (mC (.int 2)) (mCons (mTup (mCons (mTup (mCons (mC (.int 0)) (mCons (mC (.int 0)) (mCons (mC (.int 1)) mNil)))) mNil)) mNil))) (mCons (mTup (mCons (mC (.int 3)) (mCons (mTup (mCons (mTup (mCons (mC (.int 0)) (mCons (mC (.int 1)) (mCons (mC (.int 1)) mNil)))) (mCons (mTup (mCons (mC (.int 1)) (mCons (mC (.int 2)) (mCons (mC (.int 1)) mNil)))) (mCons (mTup (mCons (mC (.int 0)) (mCons (mC (.int 2)) (mCons (mC (.int 1)) mNil)))) mNil)))) mNil))) (mCons (mTup (mCons (mC (.int 3)) (mCons (mTup (mCons (mTup (mCons (mC (.int 0)) (mCons (mC (.int 1)) (mCons (mC (.int 1)) mNil)))) (mCons (mTree (mLst (mCons (mC (.int 1)) (mCons (mC (.int 2)) (mCons (mC (.int 1)) mNil))))) mNil))) mNil))) (mCons (mTup (mCons (mC (.int 2)) (mCons (mC (.str "abc")) mNil))) mNil))))))))
  (mSeq (mSet 0 (m2 fAdd (mVar 0) (mTree (mLst (mCons (mTup (mCons (mC (.int 2)) (mCons (mTup (mCons (mC (.str "011")) mNil)) mNil))) (mCons (mTup (mCons (mC (.int 2)) (mCons (mTup (mCons (mTup (mCons (mC (.int 0)) (mCons (mC (.int 1)) mNil))) mNil)) mNil))) (mCons (mTup (mCons (mC (.int 2)) (mCons (mTup (mCons (mTup (mCons (mC (.int 0)) (mCons (mC (.int 1)) (mCons (mC (.int 1)) (mCons (mC (.int 1)) mNil))))) mNil)) mNil))) (mCons (mTup (mCons (mC (.int 2)) (mCons (mC .none) mNil))) (mCons (mTup (mCons (mTree (m1 fNeg (mC (.int 2)))) (mCons (mTup mNil) mNil))) (mCons (mTup (mCons (mTup mNil) (mCons (mC (.int 2)) mNil))) (mCons (mTup (mCons (mC (.str "a")) (mCons (mC (.str "b")) mNil))) mNil)))))))))))
  (mSeq (mSet 1 (mVal (mTup (mCons (mC (.int 1)) mNil))))
  (mSeq (mFor (mRng (mCons (mC (.int 27)) mNil)) (gN 2)
  (mSet 1 (mVal (mTup (mCons (mVar 1) mNil)))))
  (mRet (m2 fAdd (mVar 0) (mTree (mLst (mCons (mVar 1) (mCons (mTup (mCons (mC (.int 2)) (mCons (mVar 1) mNil))) (mCons (mTree (mN fTuple (mCons (mTree (mRep (mLst (mCons (mC (.int 0)) mNil)) (mC (.int 900)))) mNil))) (mCons (mTup (mCons (mC (.int 9973)) (mCons (mTup mNil) mNil))) (mCons (mTup (mCons (mC (.int 9999)) (mCons (mTup (mCons (mTup (mCons (mC (.int 0)) (mCons (mC (.int 9998)) (mCons (mTree (m2 fPow (mC (.int 10)) (mC (.int 59)))) mNil)))) mNil)) mNil))) mNil)))))))))))))))))))))
def D__law_written : DF := runDef 3 0 [] M__law_written
theorem ok__law_written (T : Txt K mg A FD CA CI FC) : FnOk P w K mg base (L2.CX P w) 1 (A 31) (FD 31) [] (spD K mg D__law_written) := by
  refine def_ok T.F__law_written sc__law_written fun cdv A outer s H E hr tk => ?_
  have nd := sc__law_written.nd
  have hu := hr.u64
  exact (ss_cons (s_set (i := 0) nd rfl (by first | exact .inl rfl | exact .inr rfl) rfl (x_lst (x_cons x_non (x_cons x_bl (x_cons x_bl (x_cons x_int (x_cons x_int (x_cons (x_tree (x_un un_neg f_neg x_int)) (x_cons (x_tree (x_op op_pow f_pow x_int x_int)) (x_cons (x_tree (x_un un_neg f_neg x_int)) (x_cons x_str (x_cons x_str (x_cons x_str (x_cons x_str (x_cons (x_tup x_nil) (x_cons (x_tree (x_lst x_nil)) (x_cons (x_tup (x_cons x_int x_nil)) (x_cons (x_tree (x_lst (x_cons x_int x_nil))) (x_cons (x_tup (x_cons x_int x_nil)) (x_cons (x_tup (x_cons x_bl x_nil)) (x_cons (x_tup (x_cons x_non x_nil)) x_nil)))))))))))))))))))))
  (ss_cons (s_set (i := 0) nd rfl (by first | exact .inl rfl | exact .inr rfl) rfl (x_op o_add f_add (x_var (i := 0) rfl (by first | exact .inl rfl | exact .inr (.inl rfl) | exact .inr (.inr rfl))) (x_tree (x_lst (x_cons (x_tup (x_cons x_int (x_cons x_int x_nil))) (x_cons (x_tree (x_lst (x_cons x_int (x_cons x_int x_nil)))) (x_cons (x_tup (x_cons x_int (x_cons x_int x_nil))) (x_cons (x_tup (x_cons x_int (x_cons x_int x_nil))) (x_cons (x_tup (x_cons x_int (x_cons x_int x_nil))) (x_cons (x_tup (x_cons (x_tree (x_un un_neg f_neg x_int)) (x_cons x_int x_nil))) (x_cons (x_tup (x_cons x_int (x_cons (x_tree (x_un un_neg f_neg x_int)) x_nil))) (x_cons (x_tup (x_cons x_int (x_cons x_int x_nil))) (x_cons (x_tup (x_cons x_int (x_cons x_int x_nil))) (x_cons (x_tup (x_cons x_bl (x_cons x_int x_nil))) (x_cons (x_tup (x_cons x_int (x_cons x_bl x_nil))) x_nil)))))))))))))))
  (ss_cons (s_set (i := 0) nd rfl (by first | exact .inl rfl | exact .inr rfl) rfl (x_op o_add f_add (x_var (i := 0) rfl (by first | exact .inl rfl | exact .inr (.inl rfl) | exact .inr (.inr rfl))) (x_tree (x_lst (x_cons (x_tup (x_cons x_int (x_cons x_int (x_cons x_int x_nil)))) (x_cons (x_tup (x_cons x_int (x_cons x_int x_nil))) (x_cons (x_tup (x_cons (x_tree (x_un un_neg f_neg x_int)) (x_cons x_int x_nil))) (x_cons (x_tup (x_cons x_int (x_cons x_int x_nil))) (x_cons (x_tup (x_cons x_int (x_cons x_int x_nil))) (x_cons (x_tup (x_cons (x_tree (x_op op_pow f_pow x_int x_int)) (x_cons x_int x_nil))) (x_cons (x_tup (x_cons (x_tree (x_op op_pow f_pow x_int x_int)) (x_cons (x_tree (x_op op_pow f_pow x_int x_int)) x_nil))) (x_cons (x_tup (x_cons x_int (x_cons x_int x_nil))) x_nil))))))))))))
  (ss_cons (s_set (i := 0) nd rfl (by first | exact .inl rfl | exact .inr rfl) rfl (x_op o_add f_add (x_var (i := 0) rfl (by first | exact .inl rfl | exact .inr (.inl rfl) | exact .inr (.inr rfl))) (x_tree (x_lst (x_cons (x_tup (x_cons x_int (x_cons x_int (x_cons x_int x_nil)))) (x_cons (x_tup (x_cons x_int (x_cons x_int (x_cons x_int x_nil)))) (x_cons (x_tup (x_cons x_int (x_cons x_int x_nil))) (x_cons (x_tup (x_cons x_int (x_cons x_int (x_cons x_int x_nil)))) (x_cons (x_tup (x_cons x_int (x_cons x_int (x_cons x_int x_nil)))) (x_cons (x_tup (x_cons x_int (x_cons x_int (x_cons x_int x_nil)))) (x_cons (x_tup (x_cons x_int (x_cons x_int (x_cons x_int x_nil)))) (x_cons (x_tup (x_cons x_int (x_cons x_int (x_cons x_int x_nil)))) (x_cons (x_tup (x_cons x_int (x_cons x_int (x_cons x_int x_nil)))) x_nil)))))))))))))
  (ss_cons (s_set (i := 0) nd rfl (by first | exact .inl rfl | exact .inr rfl) rfl (x_op o_add f_add (x_var (i := 0) rfl (by first | exact .inl rfl | exact .inr (.inl rfl) | exact .inr (.inr rfl))) (x_tree (x_lst (x_cons (x_tup (x_cons x_int (x_cons x_bl x_nil))) (x_cons (x_tup (x_cons x_int (x_cons x_int (x_cons x_bl x_nil)))) (x_cons (x_tup (x_cons x_int (x_cons x_int (x_cons x_int x_nil)))) (x_cons (x_tup (x_cons x_int (x_cons x_int x_nil))) (x_cons (x_tup (x_cons x_int (x_cons x_int (x_cons x_int x_nil)))) (x_cons (x_tup (x_cons x_int (x_cons x_int x_nil))) (x_cons (x_tup (x_cons x_int (x_cons x_int (x_cons x_int (x_cons x_int x_nil))))) (x_cons (x_tup (x_cons x_int (x_cons x_int (x_cons x_int (x_cons x_int x_nil))))) x_nil))))))))))))
  (ss_cons (s_set (i := 0) nd rfl (by first | exact .inl rfl | exact .inr rfl) rfl (x_op o_add f_add (x_var (i := 0) rfl (by first | exact .inl rfl | exact .inr (.inl rfl) | exact .inr (.inr rfl))) (x_tree (x_lst (x_cons (x_tup (x_cons x_int (x_cons x_int (x_cons x_int (x_cons x_int x_nil))))) (x_cons (x_tup (x_cons x_int (x_cons x_int (x_cons x_int (x_cons x_int x_nil))))) (x_cons (x_tup (x_cons x_int (x_cons x_int (x_cons x_int (x_cons x_int (x_cons x_int x_nil)))))) (x_cons (x_tree (x_lst (x_cons x_int (x_cons x_int (x_cons x_int x_nil))))) (x_cons (x_tup (x_cons (x_tup (x_cons x_int (x_cons x_int x_nil))) x_nil)) (x_cons (x_tup (x_cons x_int (x_cons (x_tup x_nil) x_nil))) (x_cons (x_tup (x_cons x_int (x_cons (x_tup x_nil) x_nil))) (x_cons (x_tup (x_cons x_int (x_cons (x_tup x_nil) x_nil))) x_nil))))))))))))
  (ss_cons (s_set (i := 0) nd rfl (by first | exact .inl rfl | exact .inr rfl) rfl (x_op o_add f_add (x_var (i := 0) rfl (by first | exact .inl rfl | exact .inr (.inl rfl) | exact .inr (.inr rfl))) (x_tree (x_lst (x_cons (x_tup (x_cons x_int (x_cons (x_tree (x_lst x_nil)) x_nil))) (x_cons (x_tree (x_lst (x_cons x_int (x_cons (x_tup x_nil) x_nil)))) (x_cons (x_tup (x_cons x_bl (x_cons (x_tup x_nil) x_nil))) (x_cons (x_tup (x_cons x_int (x_cons (x_tup (x_cons (x_tup (x_cons x_int (x_cons x_int (x_cons x_int x_nil)))) x_nil)) x_nil))) (x_cons (x_tup (x_cons x_int (x_cons (x_tup (x_cons (x_tup (x_cons x_int (x_cons x_int (x_cons x_int x_nil)))) x_nil)) x_nil))) (x_cons (x_tup (x_cons x_int (x_cons (x_tup (x_cons (x_tup (x_cons x_int (x_cons x_bl (x_cons x_int x_nil)))) x_nil)) x_nil))) (x_cons (x_tup (x_cons x_str (x_cons (x_tup x_nil) x_nil))) x_nil)))))))))))
  (ss_cons (s_set (i := 0) nd rfl (by first | exact .inl rfl | exact .inr rfl) rfl (x_op o_add f_add (x_var (i := 0) rfl (by first | exact .inl rfl | exact .inr (.inl rfl) | exact .inr (.inr rfl))) (x_tree (x_lst (x_cons (x_tup (x_cons x_int (x_cons (x_tup (x_cons (x_tup (x_cons x_int (x_cons x_int (x_cons x_bl x_nil)))) x_nil)) x_nil))) (x_cons (x_tup (x_cons x_int (x_cons (x_tup (x_cons (x_tup (x_cons x_bl (x_cons x_int (x_cons x_int x_nil)))) x_nil)) x_nil))) (x_cons (x_tup (x_cons x_int (x_cons (x_tup (x_cons (x_tup (x_cons x_int (x_cons x_int (x_cons x_int x_nil)))) x_nil)) x_nil))) (x_cons (x_tup (x_cons x_int (x_cons (x_tup (x_cons (x_tup (x_cons x_int (x_cons x_int (x_cons x_int x_nil)))) x_nil)) x_nil))) (x_cons (x_tup (x_cons x_int (x_cons (x_tup (x_cons x_int (x_cons x_int (x_cons x_int x_nil)))) x_nil))) x_nil)))))))))
  (ss_cons (s_set (i := 0) nd rfl (by first | exact .inl rfl | exact .inr rfl) rfl (x_op o_add f_add (x_var (i := 0) rfl (by first | exact .inl rfl | exact .inr (.inl rfl) | exact .inr (.inr rfl))) (x_tree (x_lst (x_cons (x_tup (x_cons x_int (x_cons (x_tup (x_cons (x_tup (x_cons x_int (x_cons x_int (x_cons x_int x_nil)))) x_nil)) x_nil))) (x_cons (x_tup (x_cons x_int (x_cons (x_tup (x_cons (x_tup (x_cons x_int (x_cons x_int (x_cons x_int x_nil)))) (x_cons (x_tup (x_cons x_int (x_cons x_int (x_cons x_int x_nil)))) (x_cons (x_tup (x_cons x_int (x_cons x_int (x_cons x_int x_nil)))) x_nil)))) x_nil))) (x_cons (x_tup (x_cons x_int (x_cons (x_tup (x_cons (x_tup (x_cons x_int (x_cons x_int (x_cons x_int x_nil)))) (x_cons (x_tree (x_lst (x_cons x_int (x_cons x_int (x_cons x_int x_nil))))) x_nil))) x_nil))) (x_cons (x_tup (x_cons x_int (x_cons x_str x_nil))) x_nil))))))))
  (ss_cons (s_set (i := 0) nd rfl (by first | exact .inl rfl | exact .inr rfl) rfl (x_op o_add f_add (x_var (i := 0) rfl (by first | exact .inl rfl | exact .inr (.inl rfl) | exact .inr (.inr rfl))) (x_tree (x_lst (x_cons (x_tup (x_cons x_int (x_cons (x_tup (x_cons x_str x_nil)) x_nil))) (x_cons (x_tup (x_cons x_int (x_cons (x_tup (x_cons (x_tup (x_cons x_int (x_cons x_int x_nil))) x_nil)) x_nil))) (x_cons (x_tup (x_cons x_int (x_cons (x_tup (x_cons (x_tup (x_cons x_int (x_cons x_int (x_cons x_int (x_cons x_int x_nil))))) x_nil)) x_nil))) (x_cons (x_tup (x_cons x_int (x_cons x_non x_nil))) (x_cons (x_tup (x_cons (x_tree (x_un un_neg f_neg x_int)) (x_cons (x_tup x_nil) x_nil))) (x_cons (x_tup (x_cons (x_tup x_nil) (x_cons x_int x_nil))) (x_cons (x_tup (x_cons x_str (x_cons x_str x_nil))) x_nil)))))))))))
  (ss_cons (s_set (i := 1) nd rfl (by first | exact .inl rfl | exact .inr rfl) rfl (x_val (x_tup (x_cons x_int x_nil))))
  (ss_cons (s_for (passes_of rfl) rfl (i_rng rfl T.n_range (x_cons x_int x_nil)) (g_name (i := 2) nd rfl (by first | exact .inl rfl | exact .inr rfl)) rfl
  (ss_one (s_set (i := 1) nd rfl (by first | exact .inl rfl | exact .inr rfl) rfl (x_val (x_tup (x_cons (x_var (i := 1) rfl (by first | exact .inl rfl | exact .inr (.inl rfl) | exact .inr (.inr rfl))) x_nil))))))
  (ss_one (s_ret (x_op o_add f_add (x_var (i := 0) rfl (by first | exact .inl rfl | exact .inr (.inl rfl) | exact .inr (.inr rfl))) (x_tree (x_lst (x_cons (x_var (i := 1) rfl (by first | exact .inl rfl | exact .inr (.inl rfl) | exact .inr (.inr rfl))) (x_cons (x_tup (x_cons x_int (x_cons (x_var (i := 1) rfl (by first | exact .inl rfl | exact .inr (.inl rfl) | exact .inr (.inr rfl))) x_nil))) (x_cons (x_tree (x_typ call_tupX f_tuple rfl T.n_tuple (by decide +kernel) (x_cons (x_tree (x_rep (x_lst (x_cons x_int x_nil)) x_int)) x_nil))) (x_cons (x_tup (x_cons x_int (x_cons (x_tup x_nil) x_nil))) (x_cons (x_tup (x_cons x_int (x_cons (x_tup (x_cons (x_tup (x_cons x_int (x_cons x_int (x_cons (x_tree (x_op op_pow f_pow x_int x_int)) x_nil)))) x_nil)) x_nil))) x_nil))))))))))))))))))))))
def M__law_wide : Ms := (mSeq (mSet 1 (m2 fAdd (mC (.int 500)) (mTree (m2 fMul (mTree (mCallP D__law_take 0 (mCons (mC (.int 1000)) mNil))) (mC (.int 9))))))
  (mSeq (mSet 2 (mComp (mRng (mCons (mC (.int 61)) mNil)) (gN 6) mYes (mTup (mCons (mTree (m2 fMul (mVar 6) (mC (.int 7)))) (mCons (mTree (m2 fAdd (mVar 1) (mVar 6))) (mCons (mTree (m2 fAdd (mTree (m2 fPow (mC (.int 10)) (mC (.int 50)))) (mVar 6))) mNil)))) [6]))
  (mSeq (mSet 3 (mCallP D__law_take 0 (mCons (mC (.int 61)) mNil)))
  (mSeq (mSet 4 (mCallP D__law_take 0 (mCons (mC (.int 4)) mNil)))
  (mSeq (mIfS (mTst (mTree (m2 fLt (mVar 4) (mC (.int 3)))))
  (mSeq (mSet 5 (mN fList (mCons (mIxV 2 (mVar 3)) mNil)))
  (mSeq (mSetIx 5 (mVar 4) (mTree (m2 fIx (mTree (mLst (mCons (mTree (m1 fNeg (mC (.int 1)))) (mCons (mTree (m2 fMul (mVar 1) (mC (.int 2)))) (mCons (mC (.int 0)) mNil))))) (mVar 4))))
  (mSetIx 2 (mVar 3) (mTree (mN fTuple (mCons (mVar 5) mNil))))))
  mNx)
  (mRet (mVal (mTup (mCons (mTree (m2 fAdd (mVar 1) (mC (.int 61)))) (mCons (mTree (mN fTuple (mCons (mVar 2) mNil))) mNil))))))))))
def D__law_wide : DF := runDef 7 1 [0] M__law_wide
theorem ok__law_wide (T : Txt K mg A FD CA CI FC) : FnOk P w K mg base (L2.CX P w) 2 (A 32) (FD 32) ["_law_pool_here"] (spD K mg D__law_wide) := by
  refine def_ok T.F__law_wide sc__law_wide fun cdv A outer s H E hr tk => ?_
  have nd := sc__law_wide.nd
  have hu := hr.u64
  exact (ss_cons (s_set (i := 1) nd rfl (by first | exact .inl rfl | exact .inr rfl) rfl (x_op o_add f_add x_int (x_tree (x_op op_mulW f_mul (x_tree (x_callP (i := 0) (ok__law_take T) (hr.mono (by decide)) tk rfl T.g__law_take T.F__law_take.kp (bd__law_take T.F__law_take) rfl (by first | exact .inl rfl | exact .inr (.inl rfl) | exact .inr (.inr rfl)) (x_cons x_int x_nil))) x_int))))
  (ss_cons (by first | exact (s_set (i := 2) nd rfl (by first | exact .inl rfl | exact .inr rfl) rfl (x_lc (own := [("_law_k", 6)]) rfl nd (i_rng rfl T.n_range (x_cons x_int x_nil)) (blkOk_by (N := N__law_wide) (sc := defScope s__law_wide) (by decide +kernel)) (by decide) (fun _ _ _ _ _ => (g_name (i := 6) nd rfl (by first | exact .inl rfl | exact .inr rfl))) (fun _ _ _ _ _ => o_yes) (fun _ _ _ _ _ => (x_tup (x_cons (x_tree (x_op op_mulW f_mul (x_var (i := 6) rfl (by first | exact .inl rfl | exact .inr (.inl rfl) | exact .inr (.inr rfl))) x_int)) (x_cons (x_tree (x_op o_add f_add (x_var (i := 1) rfl (by first | exact .inl rfl | exact .inr (.inl rfl) | exact .inr (.inr rfl))) (x_var (i := 6) rfl (by first | exact .inl rfl | exact .inr (.inl rfl) | exact .inr (.inr rfl))))) (x_cons (x_tree (x_op o_add f_add (x_tree (x_op op_pow f_pow x_int x_int)) (x_var (i := 6) rfl (by first | exact .inl rfl | exact .inr (.inl rfl) | exact .inr (.inr rfl))))) x_nil))))))) | exact (s_setLc (i := 2) (hc := rfl) (hN := nd) (hy := rfl) (hyl := rfl) (hkeep := rfl) (hsw := sw_true rfl rfl rfl (by decide +kernel)) (own := [("_law_k", 6)]) (hi := (i_rng rfl T.n_range (x_cons x_int x_nil))) (ok := blkOk_by (N := N__law_wide) (sc := defScope s__law_wide) (by decide +kernel)) (hk := by decide) (hg := fun _ _ _ _ _ => (g_name (i := 6) nd rfl (by first | exact .inl rfl | exact .inr rfl))) (ht := fun _ _ _ _ _ => o_yes) (he := fun _ _ _ _ _ => (x_tup (x_cons (x_tree (x_op op_mulW f_mul (x_var (i := 6) rfl (by first | exact .inl rfl | exact .inr (.inl rfl) | exact .inr (.inr rfl))) x_int)) (x_cons (x_tree (x_op o_add f_add (x_var (i := 1) rfl (by first | exact .inl rfl | exact .inr (.inl rfl) | exact .inr (.inr rfl))) (x_var (i := 6) rfl (by first | exact .inl rfl | exact .inr (.inl rfl) | exact .inr (.inr rfl))))) (x_cons (x_tree (x_op o_add f_add (x_tree (x_op op_pow f_pow x_int x_int)) (x_var (i := 6) rfl (by first | exact .inl rfl | exact .inr (.inl rfl) | exact .inr (.inr rfl))))) x_nil)))))))
  (ss_cons (s_set (i := 3) nd rfl (by first | exact .inl rfl | exact .inr rfl) rfl (x_callP (i := 0) (ok__law_take T) (hr.mono (by decide)) tk rfl T.g__law_take T.F__law_take.kp (bd__law_take T.F__law_take) rfl (by first | exact .inl rfl | exact .inr (.inl rfl) | exact .inr (.inr rfl)) (x_cons x_int x_nil)))
  (ss_cons (s_set (i := 4) nd rfl (by first | exact .inl rfl | exact .inr rfl) rfl (x_callP (i := 0) (ok__law_take T) (hr.mono (by decide)) tk rfl T.g__law_take T.F__law_take.kp (bd__law_take T.F__law_take) rfl (by first | exact .inl rfl | exact .inr (.inl rfl) | exact .inr (.inr rfl)) (x_cons x_int x_nil)))
  (ss_cons (s_if (o_cmp op_lt f_cmp (x_var (i := 4) rfl (by first | exact .inl rfl | exact .inr (.inl rfl) | exact .inr (.inr rfl))) x_int (nomark _))
  (ss_cons (s_set (i := 5) nd rfl (by first | exact .inl rfl | exact .inr rfl) rfl (x_typ call_list_of f_list rfl T.n_list (by decide +kernel) (x_cons (x_ixV (i := 2) rfl (by first | exact .inl rfl | exact .inr (.inl rfl) | exact .inr (.inr rfl)) (x_var (i := 3) rfl (by first | exact .inl rfl | exact .inr (.inl rfl) | exact .inr (.inr rfl))) (fun _ _ => rfl)) x_nil)))
  (ss_cons (s_setIx (i := 5) rfl (by first | exact .inl rfl | exact .inr (.inl rfl) | exact .inr (.inr rfl)) (x_var (i := 4) rfl (by first | exact .inl rfl | exact .inr (.inl rfl) | exact .inr (.inr rfl))) (x_tree (x_ix (ix_list.or ix_tup) f_ix (x_tree (x_lst (x_cons (x_tree (x_un un_neg f_neg x_int)) (x_cons (x_tree (x_op op_mulW f_mul (x_var (i := 1) rfl (by first | exact .inl rfl | exact .inr (.inl rfl) | exact .inr (.inr rfl))) x_int)) (x_cons x_int x_nil))))) (x_var (i := 4) rfl (by first | exact .inl rfl | exact .inr (.inl rfl) | exact .inr (.inr rfl))) (fun _ _ => rfl))))
  (ss_one (s_setIx (i := 2) rfl (by first | exact .inl rfl | exact .inr (.inl rfl) | exact .inr (.inr rfl)) (x_var (i := 3) rfl (by first | exact .inl rfl | exact .inr (.inl rfl) | exact .inr (.inr rfl))) (x_tree (x_typ call_tupX f_tuple rfl T.n_tuple (by decide +kernel) (x_cons (x_var (i := 5) rfl (by first | exact .inl rfl | exact .inr (.inl rfl) | exact .inr (.inr rfl))) x_nil)))))))
  ss_nil)
  (ss_one (s_ret (x_val (x_tup (x_cons (x_tree (x_op o_add f_add (x_var (i := 1) rfl (by first | exact .inl rfl | exact .inr (.inl rfl) | exact .inr (.inr rfl))) x_int)) (x_cons (x_tree (x_typ call_tupX f_tuple rfl T.n_tuple (by decide +kernel) (x_cons (x_var (i := 2) rfl (by first | exact .inl rfl | exact .inr (.inl rfl) | exact .inr (.inr rfl))) x_nil))) x_nil)))))))))))
def M_law : Ms := (mSeq (mSet 1 (mCall D__law_pool (mCons (mVar 0) mNil)))
  (mSeq (mSet 2 (mCallP D__law_net 1 mNil))
  (mSeq (mSet 3 (mVal (mIxV 2 (mC (.int 0)))))
  (mSeq (mSet 4 (m2 fEq (mTree (mCallP D__law_take 1 (mCons (mC (.int 2)) mNil))) (mC (.int 1))))
  (mSeq (mSet 5 (mCallP D__law_bent 1 (mCons (mTree (mComp (mRng (mCons (mVar 3) mNil)) (gN 8) (mTst (mTree (m2 fEq (mTree (mCallP D__law_take 1 (mCons (mC (.int 2)) mNil))) (mC (.int 1))))) (mVar 8) [8])) (mCons (mVar 3) mNil))))
  (mSeq (mSet 6 (mCallP D__law_bent 1 (mCons (mTree (mComp (mRng (mCons (mVar 3) mNil)) (gN 8) mYes (mTree (mCallP D__law_take 1 (mCons (mC (.int 5)) mNil))) [8])) (mCons (mVar 3) mNil))))
  (mSeq (mSet 7 (mLst mNil))
  (mSeq (mFor (mRng (mCons (mVar 3) mNil)) (gN 8)
  (mIfS (mAndT (mTst (mTree (m2 fGt (mVar 8) (mC (.int 0))))) (mTst (mTree (m2 fEq (mTree (mCallP D__law_take 1 (mCons (mC (.int 2)) mNil))) (mC (.int 1))))))
  (mDrop (mApp 7 (mIxV 7 (mTree (mCallP D__law_take 1 (mCons (mVar 8) mNil))))))
  (mDrop (mApp 7 (mVar 8)))))
  (mSeq (mSet 9 (mCallP D__law_bent 1 (mCons (mTree (mComp (mSeq1 (mIxV 2 (mC (.int 1)))) (gN 18) mYes (mTree (m2 fIx (mTree (mLst (mCons (mC (.int 0)) (mCons (mIxV 18 (mC (.int 2))) (mCons (mTree (m2 fDiv (mIxV 18 (mC (.int 2))) (mC (.int 2)))) mNil))))) (mTree (mCallP D__law_take 1 (mCons (mC (.int 3)) mNil))))) [18])) (mCons (mC (.int 1)) mNil))))
  (mSeq (mSet 10 (m2 fAdd (mC (.int 1)) (mTree (mCallP D__law_take 1 (mCons (mC (.int 3)) mNil)))))
  (mSeq (mSet 11 (mVal (mTup (mCons (mTree (m2 fMul (mTree (m2 fSub (mTree (mCallP D__law_take 1 (mCons (mC (.int 999)) mNil))) (mC (.int 400)))) (mVar 10))) (mCons (mTree (m2 fMul (mTree (m2 fAdd (mC (.int 1)) (mTree (mCallP D__law_take 1 (mCons (mC (.int 60)) mNil))))) (mVar 10))) mNil)))))
  (mSeq (mSet 12 (mCallP D__law_great 1 mNil))
  (mSeq (mSet 13 (mLst (mCons (mVar 5) (mCons (mVar 6) (mCons (mTree (mCallP D__law_bent 1 (mCons (mVar 7) (mCons (mVar 3) mNil)))) (mCons (mVar 9) (mCons (mVar 11) (mCons (mTup (mCons (mVar 12) (mCons (mTree (m2 fAdd (mVar 12) (mC (.int 1)))) mNil))) (mCons (mTup (mCons (mTree (m2 fMul (mVar 12) (mC (.int 3)))) (mCons (mTree (m2 fAdd (mTree (m2 fMul (mVar 12) (mC (.int 3)))) (mC (.int 3)))) mNil))) (mCons (mVar 12) mNil))))))))))
  (mSeq (mSet 14 (mCallP D__law_spoilt 1 (mCons (mVar 2) mNil)))
  (mSeq (mSet 13 (m2 fAdd (mVar 13) (mTree (mLst (mCons (mVar 2) (mCons (mVar 14) (mCons (mTree (mCallP D__law_spoilt 1 (mCons (mVar 14) mNil))) (mCons (mTree (mN fTuple (mCons (mTree (mComp (mRng (mCons (mVar 3) mNil)) (gN 8) mYes (mTree (mCallP D__law_take 1 (mCons (mTree (m2 fAdd (mVar 8) (mC (.int 1)))) mNil))) [8])) mNil))) mNil))))))))
  (mSeq (mSet 15 (mCallP D__law_take 1 (mCons (mC (.int 8)) mNil)))
  (mSeq (mIfS (mTst (mTree (m2 fEq (mVar 15) (mC (.int 7)))))
  (mSeq (mSet 13 (m2 fAdd (mVar 13) (mTree (mCall00 D__law_written))))
  (mSeq (mSet 3 (m2 fAdd (mC (.int 2)) (mTree (mCallP D__law_take 1 (mCons (mC (.int 4)) mNil)))))
  (mSeq (mSet 2 (mVal (mTup (mCons (mVar 3) (mCons (mTup (mCons (mTup (mCons (mC (.int 0)) (mCons (mC (.int 1)) (mCons (mC (.int 1)) mNil)))) (mCons (mTup (mCons (mC (.int 0)) (mCons (mC (.int 1)) (mCons (mC (.int 2)) mNil)))) (mCons (mTup (mCons (mC (.int 0)) (mCons (mC (.int 1)) (mCons (mC (.int 2)) mNil)))) mNil)))) mNil)))))
  (mIfS (mOrT (mTst (mTree (m2 fIsN (mTree (mCall D_is_joining (mCons (mC (.int 0)) (mCons (mTup mNil) mNil)))) (mC (.bool true))))) (mOrT (mTst (mTree (m2 fIsN (mTree (mCall D_is_joining (mCons (mC (.int 0)) (mCons (mTup (mCons (mC (.int 0)) mNil)) mNil)))) (mC (.bool false))))) (mTst (mTree (m2 fIsN (mTree (mCall D_is_split (mCons (mTup (mCons (mC (.int 2)) (mCons (mTup mNil) mNil))) (mCons (mTup mNil) mNil)))) (mC (.bool true)))))))
  (mRet (mVal (mC (.bool false))))
  mNx))))
  mNx)
  (mSeq (mIfS (mTst (mTree (m2 fEq (mVar 15) (mC (.int 6)))))
  (mDrop (mApp 13 (mTree (mCallP D__law_wide 1 mNil))))
  mNx)
  (mSeq (mFor (mSeq1 (mVar 13)) (gN 16)
  (mSeq (mSet 17 (mCall D__law_due (mCons (mVar 16) (mCons (mVar 3) (mCons (mVar 2) mNil)))))
  (mSeq (mIfS (mNotT (mTst (mTree (mCall D__law_same (mCons (mTree (mCall D__law_told (mCons (mVar 16) (mCons (mVar 3) (mCons (mVar 2) (mCons (mVar 4) mNil)))))) (mCons (mVar 17) mNil))))))
  (mRet (mVal (mC (.bool false))))
  mNx)
  (mIfS (mNotT (mTst (mTree (mCall D__law_checked (mCons (mVar 16) (mCons (mVar 4) mNil))))))
  (mRet (mVal (mC (.bool false))))
  mNx))))
  (mSeq (mFor (mSeq1 (mTree (mSl (mVar 13) none (some (mC (.int 12)))))) (gN 16)
  (mSeq (mIfS (mNotT (mTst (mTree (mCall D__law_checked (mCons (mVar 16) (mCons (mNotV (mVar 4)) mNil))))))
  (mRet (mVal (mC (.bool false))))
  mNx)
  (mIfS (mNotT (mTst (mTree (mCall D__law_same (mCons (mTree (mCall D__law_told (mCons (mVar 16) (mCons (mVar 3) (mCons (mVar 2) (mCons (mNotV (mVar 4)) mNil)))))) (mCons (mTree (mCall D__law_due (mCons (mVar 16) (mCons (mVar 3) (mCons (mVar 2) mNil))))) mNil))))))
  (mRet (mVal (mC (.bool false))))
  mNx)))
  (mRet (mVal (mC (.bool true))))))))))))))))))))))))
def D_law : DF := runDef 19 1 [0] M_law
theorem ok_law (T : Txt K mg A FD CA CI FC) : FnOk P w K mg base (L2.CX P w) 12 (A 33) (FD 33) ["_law_script"] (spD K mg D_law) := by
  refine def_ok T.F_law sc_law fun cdv A outer s H E hr tk => ?_
  have nd := sc_law.nd
  have hu := hr.u64
  exact (ss_cons (s_set (i := 1) nd rfl (by first | exact .inl rfl | exact .inr rfl) rfl (x_call (ok__law_pool T) (hr.mono (by decide)) tk rfl T.g__law_pool T.F__law_pool.kp (bd__law_pool T.F__law_pool) (x_cons (x_var (i := 0) rfl (by first | exact .inl rfl | exact .inr (.inl rfl) | exact .inr (.inr rfl))) x_nil)))
  (ss_cons (s_set (i := 2) nd rfl (by first | exact .inl rfl | exact .inr rfl) rfl (x_callP (i := 1) (ok__law_net T) (hr.mono (by decide)) tk rfl T.g__law_net T.F__law_net.kp (bd__law_net T.F__law_net) rfl (by first | exact .inl rfl | exact .inr (.inl rfl) | exact .inr (.inr rfl)) x_nil))
  (ss_cons (s_set (i := 3) nd rfl (by first | exact .inl rfl | exact .inr rfl) rfl (x_val (x_ixV (i := 2) rfl (by first | exact .inl rfl | exact .inr (.inl rfl) | exact .inr (.inr rfl)) x_int (fun _ _ => rfl))))
  (ss_cons (s_set (i := 4) nd rfl (by first | exact .inl rfl | exact .inr rfl) rfl (x_cmp (op_eq.or (op_eqD hu)) f_eq (x_tree (x_callP (i := 1) (ok__law_take T) (hr.mono (by decide)) tk rfl T.g__law_take T.F__law_take.kp (bd__law_take T.F__law_take) rfl (by first | exact .inl rfl | exact .inr (.inl rfl) | exact .inr (.inr rfl)) (x_cons x_int x_nil))) x_int (nomark _)))
  (ss_cons (s_set (i := 5) nd rfl (by first | exact .inl rfl | exact .inr rfl) rfl (x_callP (i := 1) (ok__law_bent T) (hr.mono (by decide)) tk rfl T.g__law_bent T.F__law_bent.kp (bd__law_bent T.F__law_bent) rfl (by first | exact .inl rfl | exact .inr (.inl rfl) | exact .inr (.inr rfl)) (x_cons (x_tree (x_lc (own := [("_law_k", 8)]) rfl nd (i_rng rfl T.n_range (x_cons (x_var (i := 3) rfl (by first | exact .inl rfl | exact .inr (.inl rfl) | exact .inr (.inr rfl))) x_nil)) (blkOk_by (N := N_law) (sc := defScope s_law) (by decide +kernel)) (by decide) (fun _ _ _ _ _ => (g_name (i := 8) nd rfl (by first | exact .inl rfl | exact .inr rfl))) (fun _ _ _ _ _ => (o_one (o_cmp (op_eq.or (op_eqD hu)) f_eq (x_tree (x_callP (i := 1) (ok__law_take T) (hr.mono (by decide)) takes0 rfl T.g__law_take T.F__law_take.kp (bd__law_take T.F__law_take) rfl (by first | exact .inl rfl | exact .inr (.inl rfl) | exact .inr (.inr rfl)) (x_cons x_int x_nil))) x_int (nomark _)))) (fun _ _ _ _ _ => (x_var (i := 8) rfl (by first | exact .inl rfl | exact .inr (.inl rfl) | exact .inr (.inr rfl)))))) (x_cons (x_var (i := 3) rfl (by first | exact .inl rfl | exact .inr (.inl rfl) | exact .inr (.inr rfl))) x_nil))))
  (ss_cons (s_set (i := 6) nd rfl (by first | exact .inl rfl | exact .inr rfl) rfl (x_callP (i := 1) (ok__law_bent T) (hr.mono (by decide)) tk rfl T.g__law_bent T.F__law_bent.kp (bd__law_bent T.F__law_bent) rfl (by first | exact .inl rfl | exact .inr (.inl rfl) | exact .inr (.inr rfl)) (x_cons (x_tree (x_lc (own := [("_law_k", 8)]) rfl nd (i_rng rfl T.n_range (x_cons (x_var (i := 3) rfl (by first | exact .inl rfl | exact .inr (.inl rfl) | exact .inr (.inr rfl))) x_nil)) (blkOk_by (N := N_law) (sc := defScope s_law) (by decide +kernel)) (by decide) (fun _ _ _ _ _ => (g_name (i := 8) nd rfl (by first | exact .inl rfl | exact .inr rfl))) (fun _ _ _ _ _ => o_yes) (fun _ _ _ _ _ => (x_tree (x_callP (i := 1) (ok__law_take T) (hr.mono (by decide)) takes0 rfl T.g__law_take T.F__law_take.kp (bd__law_take T.F__law_take) rfl (by first | exact .inl rfl | exact .inr (.inl rfl) | exact .inr (.inr rfl)) (x_cons x_int x_nil)))))) (x_cons (x_var (i := 3) rfl (by first | exact .inl rfl | exact .inr (.inl rfl) | exact .inr (.inr rfl))) x_nil))))
  (ss_cons (s_set (i := 7) nd rfl (by first | exact .inl rfl | exact .inr rfl) rfl (x_lst x_nil))
  (ss_cons (s_for (passes_of rfl) rfl (i_rng rfl T.n_range (x_cons (x_var (i := 3) rfl (by first | exact .inl rfl | exact .inr (.inl rfl) | exact .inr (.inr rfl))) x_nil)) (g_name (i := 8) nd rfl (by first | exact .inl rfl | exact .inr rfl)) rfl
  (ss_one (s_if (PW.pt (o_and (o_cmp op_gt f_cmp (x_var (i := 8) rfl (by first | exact .inl rfl | exact .inr (.inl rfl) | exact .inr (.inr rfl))) x_int (nomark _)) (o_and1 (o_cmp (op_eq.or (op_eqD hu)) f_eq (x_tree (x_callP (i := 1) (ok__law_take T) (hr.mono (by decide)) tk rfl T.g__law_take T.F__law_take.kp (bd__law_take T.F__law_take) rfl (by first | exact .inl rfl | exact .inr (.inl rfl) | exact .inr (.inr rfl)) (x_cons x_int x_nil))) x_int (nomark _)))))
  (ss_one (s_expr (x_app (i := 7) rfl (by first | exact .inl rfl | exact .inr (.inl rfl) | exact .inr (.inr rfl)) (x_ixV (i := 7) rfl (by first | exact .inl rfl | exact .inr (.inl rfl) | exact .inr (.inr rfl)) (x_tree (x_callP (i := 1) (ok__law_take T) (hr.mono (by decide)) tk rfl T.g__law_take T.F__law_take.kp (bd__law_take T.F__law_take) rfl (by first | exact .inl rfl | exact .inr (.inl rfl) | exact .inr (.inr rfl)) (x_cons (x_var (i := 8) rfl (by first | exact .inl rfl | exact .inr (.inl rfl) | exact .inr (.inr rfl))) x_nil))) (fun _ _ => rfl)))))
  (ss_one (s_expr (x_app (i := 7) rfl (by first | exact .inl rfl | exact .inr (.inl rfl) | exact .inr (.inr rfl)) (x_var (i := 8) rfl (by first | exact .inl rfl | exact .inr (.inl rfl) | exact .inr (.inr rfl)))))))))
  (ss_cons (s_set (i := 9) nd rfl (by first | exact .inl rfl | exact .inr rfl) rfl (x_callP (i := 1) (ok__law_bent T) (hr.mono (by decide)) tk rfl T.g__law_bent T.F__law_bent.kp (bd__law_bent T.F__law_bent) rfl (by first | exact .inl rfl | exact .inr (.inl rfl) | exact .inr (.inr rfl)) (x_cons (x_tree (x_lc (own := [("_law_row", 18)]) rfl nd (i_seq (x_ixV (i := 2) rfl (by first | exact .inl rfl | exact .inr (.inl rfl) | exact .inr (.inr rfl)) x_int (fun _ _ => rfl))) (blkOk_by (N := N_law) (sc := defScope s_law) (by decide +kernel)) (by decide) (fun _ _ _ _ _ => (g_name (i := 18) nd rfl (by first | exact .inl rfl | exact .inr rfl))) (fun _ _ _ _ _ => o_yes) (fun _ _ _ _ _ => (x_tree (x_ix (ix_list.or ix_tup) f_ix (x_tree (x_lst (x_cons x_int (x_cons (x_ixV (i := 18) rfl (by first | exact .inl rfl | exact .inr (.inl rfl) | exact .inr (.inr rfl)) x_int (fun _ _ => rfl)) (x_cons (x_tree (x_op op_fdivW f_div (x_ixV (i := 18) rfl (by first | exact .inl rfl | exact .inr (.inl rfl) | exact .inr (.inr rfl)) x_int (fun _ _ => rfl)) x_int)) x_nil))))) (x_tree (x_callP (i := 1) (ok__law_take T) (hr.mono (by decide)) takes0 rfl T.g__law_take T.F__law_take.kp (bd__law_take T.F__law_take) rfl (by first | exact .inl rfl | exact .inr (.inl rfl) | exact .inr (.inr rfl)) (x_cons x_int x_nil))) (fun _ _ => rfl)))))) (x_cons x_int x_nil))))
  (ss_cons (s_set (i := 10) nd rfl (by first | exact .inl rfl | exact .inr rfl) rfl (x_op o_add f_add x_int (x_tree (x_callP (i := 1) (ok__law_take T) (hr.mono (by decide)) tk rfl T.g__law_take T.F__law_take.kp (bd__law_take T.F__law_take) rfl (by first | exact .inl rfl | exact .inr (.inl rfl) | exact .inr (.inr rfl)) (x_cons x_int x_nil)))))
  (ss_cons (s_set (i := 11) nd rfl (by first | exact .inl rfl | exact .inr rfl) rfl (x_val (x_tup (x_cons (x_tree (x_op op_mulW f_mul (x_tree (x_op op_sub f_sub (x_tree (x_callP (i := 1) (ok__law_take T) (hr.mono (by decide)) tk rfl T.g__law_take T.F__law_take.kp (bd__law_take T.F__law_take) rfl (by first | exact .inl rfl | exact .inr (.inl rfl) | exact .inr (.inr rfl)) (x_cons x_int x_nil))) x_int)) (x_var (i := 10) rfl (by first | exact .inl rfl | exact .inr (.inl rfl) | exact .inr (.inr rfl))))) (x_cons (x_tree (x_op op_mulW f_mul (x_tree (x_op o_add f_add x_int (x_tree (x_callP (i := 1) (ok__law_take T) (hr.mono (by decide)) tk rfl T.g__law_take T.F__law_take.kp (bd__law_take T.F__law_take) rfl (by first | exact .inl rfl | exact .inr (.inl rfl) | exact .inr (.inr rfl)) (x_cons x_int x_nil))))) (x_var (i := 10) rfl (by first | exact .inl rfl | exact .inr (.inl rfl) | exact .inr (.inr rfl))))) x_nil)))))
  (ss_cons (s_set (i := 12) nd rfl (by first | exact .inl rfl | exact .inr rfl) rfl (x_callP (i := 1) (ok__law_great T) (hr.mono (by decide)) tk rfl T.g__law_great T.F__law_great.kp (bd__law_great T.F__law_great) rfl (by first | exact .inl rfl | exact .inr (.inl rfl) | exact .inr (.inr rfl)) x_nil))
  (ss_cons (s_set (i := 13) nd rfl (by first | exact .inl rfl | exact .inr rfl) rfl (x_lst (x_cons (x_var (i := 5) rfl (by first | exact .inl rfl | exact .inr (.inl rfl) | exact .inr (.inr rfl))) (x_cons (x_var (i := 6) rfl (by first | exact .inl rfl | exact .inr (.inl rfl) | exact .inr (.inr rfl))) (x_cons (x_tree (x_callP (i := 1) (ok__law_bent T) (hr.mono (by decide)) tk rfl T.g__law_bent T.F__law_bent.kp (bd__law_bent T.F__law_bent) rfl (by first | exact .inl rfl | exact .inr (.inl rfl) | exact .inr (.inr rfl)) (x_cons (x_var (i := 7) rfl (by first | exact .inl rfl | exact .inr (.inl rfl) | exact .inr (.inr rfl))) (x_cons (x_var (i := 3) rfl (by first | exact .inl rfl | exact .inr (.inl rfl) | exact .inr (.inr rfl))) x_nil)))) (x_cons (x_var (i := 9) rfl (by first | exact .inl rfl | exact .inr (.inl rfl) | exact .inr (.inr rfl))) (x_cons (x_var (i := 11) rfl (by first | exact .inl rfl | exact .inr (.inl rfl) | exact .inr (.inr rfl))) (x_cons (x_tup (x_cons (x_var (i := 12) rfl (by first | exact .inl rfl | exact .inr (.inl rfl) | exact .inr (.inr rfl))) (x_cons (x_tree (x_op o_add f_add (x_var (i := 12) rfl (by first | exact .inl rfl | exact .inr (.inl rfl) | exact .inr (.inr rfl))) x_int)) x_nil))) (x_cons (x_tup (x_cons (x_tree (x_op op_mulW f_mul (x_var (i := 12) rfl (by first | exact .inl rfl | exact .inr (.inl rfl) | exact .inr (.inr rfl))) x_int)) (x_cons (x_tree (x_op o_add f_add (x_tree (x_op op_mulW f_mul (x_var (i := 12) rfl (by first | exact .inl rfl | exact .inr (.inl rfl) | exact .inr (.inr rfl))) x_int)) x_int)) x_nil))) (x_cons (x_var (i := 12) rfl (by first | exact .inl rfl | exact .inr (.inl rfl) | exact .inr (.inr rfl))) x_nil))))))))))
  (ss_cons (s_set (i := 14) nd rfl (by first | exact .inl rfl | exact .inr rfl) rfl (x_callP (i := 1) (ok__law_spoilt T) (hr.mono (by decide)) tk rfl T.g__law_spoilt T.F__law_spoilt.kp (bd__law_spoilt T.F__law_spoilt) rfl (by first | exact .inl rfl | exact .inr (.inl rfl) | exact .inr (.inr rfl)) (x_cons (x_var (i := 2) rfl (by first | exact .inl rfl | exact .inr (.inl rfl) | exact .inr (.inr rfl))) x_nil)))
  (ss_cons (s_set (i := 13) nd rfl (by first | exact .inl rfl | exact .inr rfl) rfl (x_op o_add f_add (x_var (i := 13) rfl (by first | exact .inl rfl | exact .inr (.inl rfl) | exact .inr (.inr rfl))) (x_tree (x_lst (x_cons (x_var (i := 2) rfl (by first | exact .inl rfl | exact .inr (.inl rfl) | exact .inr (.inr rfl))) (x_cons (x_var (i := 14) rfl (by first | exact .inl rfl | exact .inr (.inl rfl) | exact .inr (.inr rfl))) (x_cons (x_tree (x_callP (i := 1) (ok__law_spoilt T) (hr.mono (by decide)) tk rfl T.g__law_spoilt T.F__law_spoilt.kp (bd__law_spoilt T.F__law_spoilt) rfl (by first | exact .inl rfl | exact .inr (.inl rfl) | exact .inr (.inr rfl)) (x_cons (x_var (i := 14) rfl (by first | exact .inl rfl | exact .inr (.inl rfl) | exact .inr (.inr rfl))) x_nil))) (x_cons (x_tree (x_typ call_tupX f_tuple rfl T.n_tuple (by decide +kernel) (x_cons (x_tree (x_lc (own := [("_law_k", 8)]) rfl nd (i_rng rfl T.n_range (x_cons (x_var (i := 3) rfl (by first | exact .inl rfl | exact .inr (.inl rfl) | exact .inr (.inr rfl))) x_nil)) (blkOk_by (N := N_law) (sc := defScope s_law) (by decide +kernel)) (by decide) (fun _ _ _ _ _ => (g_name (i := 8) nd rfl (by first | exact .inl rfl | exact .inr rfl))) (fun _ _ _ _ _ => o_yes) (fun _ _ _ _ _ => (x_tree (x_callP (i := 1) (ok__law_take T) (hr.mono (by decide)) takes0 rfl T.g__law_take T.F__law_take.kp (bd__law_take T.F__law_take) rfl (by first | exact .inl rfl | exact .inr (.inl rfl) | exact .inr (.inr rfl)) (x_cons (x_tree (x_op o_add f_add (x_var (i := 8) rfl (by first | exact .inl rfl | exact .inr (.inl rfl) | exact .inr (.inr rfl))) x_int)) x_nil)))))) x_nil))) x_nil))))))))
  (ss_cons (s_set (i := 15) nd rfl (by first | exact .inl rfl | exact .inr rfl) rfl (x_callP (i := 1) (ok__law_take T) (hr.mono (by decide)) tk rfl T.g__law_take T.F__law_take.kp (bd__law_take T.F__law_take) rfl (by first | exact .inl rfl | exact .inr (.inl rfl) | exact .inr (.inr rfl)) (x_cons x_int x_nil)))
  (ss_cons (s_if (o_cmp (op_eq.or (op_eqD hu)) f_eq (x_var (i := 15) rfl (by first | exact .inl rfl | exact .inr (.inl rfl) | exact .inr (.inr rfl))) x_int (nomark _))
  (ss_cons (s_set (i := 13) nd rfl (by first | exact .inl rfl | exact .inr rfl) rfl (x_op o_add f_add (x_var (i := 13) rfl (by first | exact .inl rfl | exact .inr (.inl rfl) | exact .inr (.inr rfl))) (x_tree (x_call0 (ok__law_written T) (hr.mono (by decide)) tk rfl T.g__law_written T.F__law_written.kp (bd__law_written T.F__law_written)))))
  (ss_cons (s_set (i := 3) nd rfl (by first | exact .inl rfl | exact .inr rfl) rfl (x_op o_add f_add x_int (x_tree (x_callP (i := 1) (ok__law_take T) (hr.mono (by decide)) tk rfl T.g__law_take T.F__law_take.kp (bd__law_take T.F__law_take) rfl (by first | exact .inl rfl | exact .inr (.inl rfl) | exact .inr (.inr rfl)) (x_cons x_int x_nil)))))
  (ss_cons (s_set (i := 2) nd rfl (by first | exact .inl rfl | exact .inr rfl) rfl (x_val (x_tup (x_cons (x_var (i := 3) rfl (by first | exact .inl rfl | exact .inr (.inl rfl) | exact .inr (.inr rfl))) (x_cons (x_tup (x_cons (x_tup (x_cons x_int (x_cons x_int (x_cons x_int x_nil)))) (x_cons (x_tup (x_cons x_int (x_cons x_int (x_cons x_int x_nil)))) (x_cons (x_tup (x_cons x_int (x_cons x_int (x_cons x_int x_nil)))) x_nil)))) x_nil)))))
  (ss_one (s_if (PW.pt (o_or (o_cmp op_isGN f_isN (x_tree (x_call (ok_is_joining T) (hr.mono (by decide)) tk rfl T.g_is_joining T.F_is_joining.kp (bd_is_joining T.F_is_joining) (x_cons x_int (x_cons (x_tup x_nil) x_nil)))) x_bl (nomark _)) (o_or (o_cmp op_isGN f_isN (x_tree (x_call (ok_is_joining T) (hr.mono (by decide)) tk rfl T.g_is_joining T.F_is_joining.kp (bd_is_joining T.F_is_joining) (x_cons x_int (x_cons (x_tup (x_cons x_int x_nil)) x_nil)))) x_bl (nomark _)) (o_or1 (o_cmp op_isGN f_isN (x_tree (x_call (ok_is_split T) (hr.mono (by decide)) tk rfl T.g_is_split T.F_is_split.kp (bd_is_split T.F_is_split) (x_cons (x_tup (x_cons x_int (x_cons (x_tup x_nil) x_nil))) (x_cons (x_tup x_nil) x_nil)))) x_bl (nomark _))))))
  (ss_one (s_ret (x_val x_bl)))
  ss_nil)))))
  ss_nil)
  (ss_cons (s_if (o_cmp (op_eq.or (op_eqD hu)) f_eq (x_var (i := 15) rfl (by first | exact .inl rfl | exact .inr (.inl rfl) | exact .inr (.inr rfl))) x_int (nomark _))
  (ss_one (s_expr (x_app (i := 13) rfl (by first | exact .inl rfl | exact .inr (.inl rfl) | exact .inr (.inr rfl)) (x_tree (x_callP (i := 1) (ok__law_wide T) (hr.mono (by decide)) tk rfl T.g__law_wide T.F__law_wide.kp (bd__law_wide T.F__law_wide) rfl (by first | exact .inl rfl | exact .inr (.inl rfl) | exact .inr (.inr rfl)) x_nil)))))
  ss_nil)
  (ss_cons (s_for (passes_of rfl) rfl (i_seq (x_var (i := 13) rfl (by first | exact .inl rfl | exact .inr (.inl rfl) | exact .inr (.inr rfl)))) (g_name (i := 16) nd rfl (by first | exact .inl rfl | exact .inr rfl)) rfl
  (ss_cons (s_set (i := 17) nd rfl (by first | exact .inl rfl | exact .inr rfl) rfl (x_call (ok__law_due T) (hr.mono (by decide)) tk rfl T.g__law_due T.F__law_due.kp (bd__law_due T.F__law_due) (x_cons (x_var (i := 16) rfl (by first | exact .inl rfl | exact .inr (.inl rfl) | exact .inr (.inr rfl))) (x_cons (x_var (i := 3) rfl (by first | exact .inl rfl | exact .inr (.inl rfl) | exact .inr (.inr rfl))) (x_cons (x_var (i := 2) rfl (by first | exact .inl rfl | exact .inr (.inl rfl) | exact .inr (.inr rfl))) x_nil)))))
  (ss_cons (s_if (o_not (o_val (x_tree (x_call (ok__law_same T) (hr.mono (by decide)) tk rfl T.g__law_same T.F__law_same.kp (bd__law_same T.F__law_same) (x_cons (x_tree (x_call (ok__law_told T) (hr.mono (by decide)) tk rfl T.g__law_told T.F__law_told.kp (bd__law_told T.F__law_told) (x_cons (x_var (i := 16) rfl (by first | exact .inl rfl | exact .inr (.inl rfl) | exact .inr (.inr rfl))) (x_cons (x_var (i := 3) rfl (by first | exact .inl rfl | exact .inr (.inl rfl) | exact .inr (.inr rfl))) (x_cons (x_var (i := 2) rfl (by first | exact .inl rfl | exact .inr (.inl rfl) | exact .inr (.inr rfl))) (x_cons (x_var (i := 4) rfl (by first | exact .inl rfl | exact .inr (.inl rfl) | exact .inr (.inr rfl))) x_nil)))))) (x_cons (x_var (i := 17) rfl (by first | exact .inl rfl | exact .inr (.inl rfl) | exact .inr (.inr rfl))) x_nil))))))
  (ss_one (s_ret (x_val x_bl)))
  ss_nil)
  (ss_one (s_if (o_not (o_val (x_tree (x_call (ok__law_checked T) (hr.mono (by decide)) tk rfl T.g__law_checked T.F__law_checked.kp (bd__law_checked T.F__law_checked) (x_cons (x_var (i := 16) rfl (by first | exact .inl rfl | exact .inr (.inl rfl) | exact .inr (.inr rfl))) (x_cons (x_var (i := 4) rfl (by first | exact .inl rfl | exact .inr (.inl rfl) | exact .inr (.inr rfl))) x_nil))))))
  (ss_one (s_ret (x_val x_bl)))
  ss_nil)))))
  (ss_cons (s_for (passes_of rfl) rfl (i_seq (x_tree (x_sl (x_var (i := 13) rfl (by first | exact .inl rfl | exact .inr (.inl rfl) | exact .inr (.inr rfl))) p_none (p_some x_int)))) (g_name (i := 16) nd rfl (by first | exact .inl rfl | exact .inr rfl)) rfl
  (ss_cons (s_if (o_not (o_val (x_tree (x_call (ok__law_checked T) (hr.mono (by decide)) tk rfl T.g__law_checked T.F__law_checked.kp (bd__law_checked T.F__law_checked) (x_cons (x_var (i := 16) rfl (by first | exact .inl rfl | exact .inr (.inl rfl) | exact .inr (.inr rfl))) (x_cons (x_not (x_var (i := 4) rfl (by first | exact .inl rfl | exact .inr (.inl rfl) | exact .inr (.inr rfl)))) x_nil))))))
  (ss_one (s_ret (x_val x_bl)))
  ss_nil)
  (ss_one (s_if (o_not (o_val (x_tree (x_call (ok__law_same T) (hr.mono (by decide)) tk rfl T.g__law_same T.F__law_same.kp (bd__law_same T.F__law_same) (x_cons (x_tree (x_call (ok__law_told T) (hr.mono (by decide)) tk rfl T.g__law_told T.F__law_told.kp (bd__law_told T.F__law_told) (x_cons (x_var (i := 16) rfl (by first | exact .inl rfl | exact .inr (.inl rfl) | exact .inr (.inr rfl))) (x_cons (x_var (i := 3) rfl (by first | exact .inl rfl | exact .inr (.inl rfl) | exact .inr (.inr rfl))) (x_cons (x_var (i := 2) rfl (by first | exact .inl rfl | exact .inr (.inl rfl) | exact .inr (.inr rfl))) (x_cons (x_not (x_var (i := 4) rfl (by first | exact .inl rfl | exact .inr (.inl rfl) | exact .inr (.inr rfl)))) x_nil)))))) (x_cons (x_tree (x_call (ok__law_due T) (hr.mono (by decide)) tk rfl T.g__law_due T.F__law_due.kp (bd__law_due T.F__law_due) (x_cons (x_var (i := 16) rfl (by first | exact .inl rfl | exact .inr (.inl rfl) | exact .inr (.inr rfl))) (x_cons (x_var (i := 3) rfl (by first | exact .inl rfl | exact .inr (.inl rfl) | exact .inr (.inr rfl))) (x_cons (x_var (i := 2) rfl (by first | exact .inl rfl | exact .inr (.inl rfl) | exact .inr (.inr rfl))) x_nil))))) x_nil))))))
  (ss_one (s_ret (x_val x_bl)))
  ss_nil))))
  (ss_one (s_ret (x_val x_bl)))))))))))))))))))))))
end
end G
end
section
set_option Elab.async false
set_option linter.all false
set_option autoImplicit false
set_option maxRecDepth 100000
set_option maxHeartbeats 1000000
namespace G
open PySem PySem.Spec PyProof.Rows L2 TL
def nd : T → Bool
  | .dict _ => false
  | _ => true
def isI : T → Bool
  | .int _ => true
  | _ => false
def gI : T → Int
  | .int i => i
  | _ => 0
def isTu (n : Int) : T → Bool
  | .tuple ts => decide ((ts.length : Int) = n)
  | _ => false
/-- the answer is a value -/
def Is (r : Res RV) (t : T) : Prop := ∃ e, r = .ok (.val t) e
def isN (t : T) : Bool := match t with
  | .int i => decide (0 ≤ i)
  | _ => false
def isQ (t : T) : Bool := match t with
  | .int i => decide (1 ≤ i)
  | _ => false
theorem isN_or (t : T) : isN t = false ∨ ∃ i, t = .int i ∧ 0 ≤ i ∧ isN t = true := by
  cases t <;> first | exact .inl rfl | skip
  rename_i i
  by_cases h : 0 ≤ i
  · exact .inr ⟨i, rfl, h, decide_eq_true h⟩
  · exact .inl (decide_eq_false h)
theorem isQ_or (t : T) : isQ t = false ∨ ∃ i, t = .int i ∧ 1 ≤ i ∧ isQ t = true := by
  cases t <;> first | exact .inl rfl | skip
  rename_i i
  by_cases h : 1 ≤ i
  · exact .inr ⟨i, rfl, h, decide_eq_true h⟩
  · exact .inl (decide_eq_false h)
theorem isI_or (t : T) : isI t = false ∨ ∃ i, t = .int i ∧ isI t = true := by
  cases t <;> first | exact .inl rfl | exact .inr ⟨_, rfl, rfl⟩
theorem isTu_or (n : Int) (t : T) : isTu n t = false ∨ ∃ ts, t = .tuple ts ∧ (ts.length : Int) = n ∧ isTu n t = true := by
  cases t <;> first | exact .inl rfl | skip
  rename_i ts
  by_cases h : (ts.length : Int) = n
  · exact .inr ⟨ts, rfl, h, decide_eq_true h⟩
  · exact .inl (decide_eq_false h)
theorem is_integer_ok {t : T} (h : nd t = true) : Is (D_is_integer [.val t]) (.bool (isI t)) := by
  cases t <;> first | exact ⟨_, rfl⟩ | cases h
theorem law_int_ok {t : T} (h : nd t = true) : Is (D__law_int [.val t]) (.bool (isI t)) := by
  cases t <;> first | exact ⟨_, rfl⟩ | cases h
theorem is_number_ok {t : T} (h : nd t = true) : Is (D_is_number [.val t]) (.bool (isN t)) := by
  cases t <;> first | exact ⟨_, rfl⟩ | cases h
theorem is_positive_ok {t : T} (h : nd t = true) : Is (D_is_positive [.val t]) (.bool (isQ t)) := by
  cases t <;> first | exact ⟨_, rfl⟩ | cases h
theorem is_tuple_of_ok {t : T} {n : Int} (h : nd t = true) : Is (D_is_tuple_of [.val (.int n), .val t]) (.bool (isTu n t)) := by
  cases t <;> first | exact ⟨_, rfl⟩ | cases h
def lf (n : Int) (t : T) : T := match t with
  | .tuple [a, b, c] => if isN a && isN b && decide (gI a < gI b) && decide (gI b < n) then (if isQ c then .none else .str "room") else .str "house"
  | _ => .str "shape"
theorem three {ts : List T} (h : (ts.length : Int) = 3) : ∃ a b c, ts = [a, b, c] := by
  match ts, h with
  | [a, b, c], _ => exact ⟨a, b, c, rfl⟩
  | [], h => cases h
  | [_], h => cases h
  | [_, _], h => cases h
  | _ :: _ :: _ :: _ :: _, h => simp at h; omega
theorem lf_no {n : Int} {t : T} (h : isTu 3 t = false) : lf n t = .str "shape" := by
  unfold lf
  split
  · simp [isTu] at h
  · rfl
theorem line_fault_ok {t : T} {n : Int} (h : nd t = true) (h3 : ∀ ts, t = .tuple ts → ∀ x ∈ ts, nd x = true) : Is (D_line_fault [.val (.int n), .val t]) (lf n t) := by
  obtain ⟨e0, q0⟩ := is_tuple_of_ok (n := 3) h
  unfold Is
  rcases isTu_or 3 t with g | ⟨ts, rfl, g1, g⟩
  · rw [g] at q0
    rw [lf_no g]
    simp [runDef, List.replicate, mRet, mVal, mTree, mCall, mCons, mNil, mVar, mC, mSeq, mIfS, mNx, mNotT, mTst, mAndT, mOrT, mAndV, mOrV, mNotV, Res.bind, RV.tree, give, mAsg, gT, gN, gsCons, gsNil, mChainT, qLink, qLast, yes, asBool, m2, m1, mN, mTup, mSet, keepE, D_line_fault, M_line_fault, q0]
  · rw [g] at q0
    obtain ⟨a, b, c, rfl⟩ := three g1
    have na := h3 _ rfl a (by simp)
    have nb := h3 _ rfl b (by simp)
    have nc := h3 _ rfl c (by simp)
    obtain ⟨e1, q1⟩ := is_number_ok na
    obtain ⟨e2, q2⟩ := is_number_ok nb
    obtain ⟨e3, q3⟩ := is_positive_ok nc
    rcases isN_or a with g2 | ⟨i, rfl, h2, g2⟩
    · rw [g2] at q1
      simp [runDef, List.replicate, mRet, mVal, mTree, mCall, mCons, mNil, mVar, mC, mSeq, mIfS, mNx, mNotT, mTst, mAndT, mOrT, mAndV, mOrV, mNotV, Res.bind, RV.tree, give, mAsg, gT, gN, gsCons, gsNil, mChainT, qLink, qLast, yes, asBool, m2, m1, mN, mTup, mSet, keepE, D_line_fault, M_line_fault, q0, q1, lf, g2]
    · rw [g2] at q1
      rcases isN_or b with g4 | ⟨j, rfl, h4, g4⟩
      · rw [g4] at q2
        simp [runDef, List.replicate, mRet, mVal, mTree, mCall, mCons, mNil, mVar, mC, mSeq, mIfS, mNx, mNotT, mTst, mAndT, mOrT, mAndV, mOrV, mNotV, Res.bind, RV.tree, give, mAsg, gT, gN, gsCons, gsNil, mChainT, qLink, qLast, yes, asBool, m2, m1, mN, mTup, mSet, keepE, D_line_fault, M_line_fault, q0, q1, q2, lf, g2, g4]
      · rw [g4] at q2
        by_cases hij : i < j <;> by_cases hjn : j < n
        · rcases isQ_or c with g5 | ⟨k, rfl, h5, g5⟩ <;> rw [g5] at q3 <;> simp [runDef, List.replicate, mRet, mVal, mTree, mCall, mCons, mNil, mVar, mC, mSeq, mIfS, mNx, mNotT, mTst, mAndT, mOrT, mAndV, mOrV, mNotV, Res.bind, RV.tree, give, mAsg, gT, gN, gsCons, gsNil, mChainT, qLink, qLast, yes, asBool, m2, m1, mN, mTup, mSet, keepE, D_line_fault, M_line_fault, q0, q1, q2, q3, lf, g2, g4, g5, gI, fLt, fCmp, hij, hjn]
        all_goals simp [runDef, List.replicate, mRet, mVal, mTree, mCall, mCons, mNil, mVar, mC, mSeq, mIfS, mNx, mNotT, mTst, mAndT, mOrT, mAndV, mOrV, mNotV, Res.bind, RV.tree, give, mAsg, gT, gN, gsCons, gsNil, mChainT, qLink, qLast, yes, asBool, m2, m1, mN, mTup, mSet, keepE, D_line_fault, M_line_fault, q0, q1, q2, lf, g2, g4, gI, fLt, fCmp, hij, hjn]
end G
end
section
set_option Elab.async false
set_option linter.all false
set_option autoImplicit false
set_option maxRecDepth 100000
set_option maxHeartbeats 1000000
namespace G
open PySem PySem.Spec PyProof.Rows L2 TL
theorem compL_ok {g : Mg} {tt : Mb} {te : Mt} {vs : List Nat} {f : T → T} {p : T → Bool} {e : En} : ∀ (ts acc : List T)
    (h : ∀ t ∈ ts, ∃ e1 e2, g t e = some e1 ∧ tt e1 = .ok (p t) e2 ∧ (p t = true → ∃ e3, te e2 = .ok (f t) e3 ∧ wipeE e3 vs = e) ∧ (p t = false → wipeE e2 vs = e)) (hl : acc.length + ts.length ≤ 100000),
    mCompL g tt te vs ts acc e = .ok (acc ++ (ts.filter p).map f) e
  | [], acc, _, _ => by simp [mCompL]
  | t :: ts, acc, h, hl => by
    obtain ⟨e1, e2, h1, h2, h3, h4⟩ := h t (by simp)
    rw [List.length_cons] at hl
    unfold mCompL
    rw [h1]
    dsimp only
    rw [h2]
    cases hp : p t with
    | true =>
      obtain ⟨e3, h5, h6⟩ := h3 hp
      dsimp only
      rw [h5]
      dsimp only
      rw [if_pos (by omega), h6, compL_ok ts (acc ++ [f t]) (fun u hu => h u (by simp [hu])) (by rw [List.length_append]; simp; omega)]
      simp [hp]
    | false =>
      dsimp only
      rw [h4 hp, compL_ok ts acc (fun u hu => h u (by simp [hu])) (by omega)]
      simp [hp]
theorem comp_eq {mi : Ml} {g : Mg} {tt : Mb} {te : Mt} {vs : List Nat} {f : T → T} {p : T → Bool} {e e1 : En} {ts : List T} (hi : mi e = .ok ts e1) (hl : ts.length ≤ 100000)
    (h : ∀ t ∈ ts, ∃ e2 e3, g t (wipeE e1 vs) = some e2 ∧ tt e2 = .ok (p t) e3 ∧ (p t = true → ∃ e4, te e3 = .ok (f t) e4 ∧ wipeE e4 vs = wipeE e1 vs) ∧ (p t = false → wipeE e3 vs = wipeE e1 vs)) :
    mComp mi g tt te vs e = .ok (.own ((ts.filter p).map f)) (backE e1 (wipeE e1 vs) vs) := by
  unfold mComp
  rw [hi]
  show (match mCompL g tt te vs ts [] (wipeE e1 vs) with | .ok acc e2 => _ | _ => _) = _
  rw [compL_ok ts [] h (by simpa using hl)]
  rfl
theorem comp_yes {mi : Ml} {g : Mg} {te : Mt} {vs : List Nat} {f : T → T} {e e1 : En} {ts : List T} (hi : mi e = .ok ts e1) (hl : ts.length ≤ 100000)
    (h : ∀ t ∈ ts, ∃ e2 e3, g t (wipeE e1 vs) = some e2 ∧ te e2 = .ok (f t) e3 ∧ wipeE e3 vs = wipeE e1 vs) :
    mComp mi g mYes te vs e = .ok (.own (ts.map f)) (backE e1 (wipeE e1 vs) vs) := by
  rw [comp_eq (p := fun _ => true) (f := f) hi hl fun t ht => ?_]
  · rw [List.filter_eq_self.mpr fun _ _ => rfl]
  · obtain ⟨e2, e3, h1, h2, h3⟩ := h t ht
    exact ⟨e2, e2, h1, rfl, fun _ => ⟨e3, h2, h3⟩, fun z => by cases z⟩
theorem bools_map {α : Type} (f : α → Bool) : ∀ ts : List α, bools (ts.map fun t => .bool (f t)) = some (ts.map f)
  | [] => rfl
  | t :: ts => by
    show (bools (ts.map fun t => .bool (f t))).map (f t :: ·) = _
    rw [bools_map f ts]
    rfl
theorem all_eq {mi : Ml} {g : Mg} {te : Mt} {vs : List Nat} {f : T → Bool} {e e1 : En} {ts : List T} (hi : mi e = .ok ts e1) (hl : ts.length ≤ 100000)
    (h : ∀ t ∈ ts, ∃ e2 e3, g t (wipeE e1 vs) = some e2 ∧ te e2 = .ok (.bool (f t)) e3 ∧ wipeE e3 vs = wipeE e1 vs) :
    mN fAll (mCons (mTree (mComp mi g mYes te vs)) mNil) e = .ok (.val (.bool (ts.all f))) (backE e1 (wipeE e1 vs) vs) := by
  have q := comp_yes (f := fun t => .bool (f t)) hi hl h
  simp only [mN, mCons, mTree, mNil, q, Res.bind, RV.tree, give, fAll, bools_map, Option.map]
  simp [List.all_map]
/-! ### steps -/
theorem run_ret {n np : Nat} {keep : List Nat} {m : Mt} {args : List RV} {t : T} {e : En} (hl : args.length = np) (h : m (args.map some ++ List.replicate (n - np) none) = .ok t e) : Is (runDef n np keep (mRet (mVal m)) args) t := by
  unfold Is runDef
  rw [if_pos hl]
  simp [mRet, mVal, Res.bind, h]
theorem run_retV {n np : Nat} {keep : List Nat} {m : Mv} {args : List RV} {t : T} {e : En} (hl : args.length = np) (h : m (args.map some ++ List.replicate (n - np) none) = .ok (.val t) e) : Is (runDef n np keep (mRet m) args) t := by
  unfold Is runDef
  rw [if_pos hl]
  simp [mRet, Res.bind, h]
theorem and_t {m n : Mt} {e e1 : En} (h : m e = .ok (.bool true) e1) : mAndV m n e = n e1 := by
  simp [mAndV, mTst, Res.bind, h]
theorem and_f {m n : Mt} {e e1 : En} (h : m e = .ok (.bool false) e1) : mAndV m n e = .ok (.bool false) e1 := by
  simp [mAndV, mTst, Res.bind, h]
theorem tree_ok {m : Mv} {r : RV} {e e1 : En} (h : m e = .ok r e1) : mTree m e = .ok r.tree e1 := by
  simp [mTree, Res.bind, h]
theorem call1 {D : DF} {m : Mt} {e e1 : En} {t u : T} (hm : m e = .ok t e1) (h : Is (D [.val t]) u) : (mTree (mCall D (mCons m mNil))) e = .ok u e1 := by
  obtain ⟨e2, h⟩ := h
  simp [mTree, mCall, mCons, mNil, Res.bind, hm, h, RV.tree]
theorem call2 {D : DF} {m n : Mt} {e e1 e2 : En} {t s u : T} (hm : m e = .ok t e1) (hn : n e1 = .ok s e2) (h : Is (D [.val t, .val s]) u) : (mTree (mCall D (mCons m (mCons n mNil)))) e = .ok u e2 := by
  obtain ⟨e3, h⟩ := h
  simp [mTree, mCall, mCons, mNil, Res.bind, hm, hn, h, RV.tree]
/-- a test that leaves by a return -/
theorem if_ret {c : Mb} {m : Mv} {rest : Ms} {e e1 : En} {b : Bool} (h : c e = .ok b e1) : mSeq (mIfS c (mRet m) mNx) rest e = if b = true then mRet m e1 else rest e1 := by
  cases b with
  | true =>
    simp only [mSeq, mIfS, h, Res.bind, if_pos]
    unfold mRet
    cases m e1 <;> rfl
  | false => simp [mSeq, mIfS, h, Res.bind, mNx]
theorem run_if {n np : Nat} {keep : List Nat} {c : Mb} {m : Mt} {rest : Ms} {args : List RV} {t : T} {e1 : En} {b : Bool} (hl : args.length = np) (h : c (args.map some ++ List.replicate (n - np) none) = .ok b e1) (h1 : b = true → ∃ e, m e1 = .ok t e)
    (h2 : b = false → ∃ e2, rest e1 = .ok (.rt (.val t)) e2) : Is (runDef n np keep (mSeq (mIfS c (mRet (mVal m)) mNx) rest) args) t := by
  unfold Is runDef
  rw [if_pos hl, if_ret h]
  cases b with
  | true =>
    obtain ⟨e, h1⟩ := h1 rfl
    simp [mRet, mVal, Res.bind, h1]
  | false =>
    obtain ⟨e2, h3⟩ := h2 rfl
    simp [h3]
theorem run_body {n np : Nat} {keep : List Nat} {m : Ms} {args : List RV} {t : T} {e : En} (hl : args.length = np) (h : m (args.map some ++ List.replicate (n - np) none) = .ok (.rt (.val t)) e) : Is (runDef n np keep m args) t := by
  unfold Is runDef
  rw [if_pos hl, h]
  exact ⟨_, rfl⟩
theorem ret_eq {m : Mv} {r : RV} {e e1 : En} (h : m e = .ok r e1) : mRet m e = .ok (.rt r) e1 := by
  simp [mRet, Res.bind, h]
theorem seq_if_t {c : Mb} {b rest : Ms} {e e1 e2 : En} {r : RV} (h : c e = .ok true e1) (h2 : b e1 = .ok (.rt r) e2) : mSeq (mIfS c b mNx) rest e = .ok (.rt r) e2 := by
  simp [mSeq, mIfS, h, Res.bind, h2]
theorem seq_if_f {c : Mb} {b rest : Ms} {e e1 : En} (h : c e = .ok false e1) : mSeq (mIfS c b mNx) rest e = rest e1 := by
  simp [mSeq, mIfS, h, Res.bind, mNx]
theorem seq_nx {m n : Ms} {e e1 : En} (h : m e = .ok .nx e1) : mSeq m n e = n e1 := by
  simp [mSeq, h]
theorem seq_rt {m n : Ms} {e e1 : En} {r : RV} (h : m e = .ok (.rt r) e1) : mSeq m n e = .ok (.rt r) e1 := by
  simp [mSeq, h]
theorem notT_ok {c : Mb} {e e1 : En} {b : Bool} (h : c e = .ok b e1) : mNotT c e = .ok (!b) e1 := by
  simp [mNotT, Res.bind, h]
theorem tst_eq {m : Mt} {e e1 : En} {b : Bool} (h : m e = .ok (.bool b) e1) : mTst m e = .ok b e1 := by
  simp [mTst, Res.bind, h]
def isB (n : Int) : T → Bool
  | .tuple ts => ts.all fun x => isN x && decide (gI x < n)
  | _ => false
/-- no dict at the top, nor among the items -/
def nd1 (t : T) : Prop := nd t = true ∧ ∀ ts, t = .tuple ts → ts.length ≤ 100000 ∧ ∀ x ∈ ts, nd x = true
theorem are_below_ok {t : T} {n : Int} (h : nd1 t) : Is (D_are_below [.val (.int n), .val t]) (.bool (isB n t)) := by
  obtain ⟨h, h3⟩ := h
  cases t with
  | dict => cases h
  | tuple ts =>
    obtain ⟨hl, hx⟩ := h3 _ rfl
    have q := all_eq (mi := mSeq1 (mVar 1)) (g := gN 2) (vs := [2]) (te := mAndV (mTree (mCall D_is_number (mCons (mVar 2) mNil))) (mTree (m2 fLt (mVar 2) (mVar 0)))) (f := fun x => isN x && decide (gI x < n)) (e := [some (.val (.int n)), some (.val (.tuple ts)), none]) (e1 := [some (.val (.int n)), some (.val (.tuple ts)), none]) (ts := ts) rfl hl
      fun x hm => by
        obtain ⟨e0, q0⟩ := is_number_ok (hx x hm)
        refine ⟨_, [some (.val (.int n)), some (.val (.tuple ts)), some (.val x)], rfl, ?_, rfl⟩
        rcases isN_or x with g | ⟨i, rfl, _, g⟩ <;> rw [g] at q0 <;> (simp [runDef, List.replicate, mRet, mVal, mTree, mCall, mCons, mNil, mVar, mC, mSeq, mIfS, mNx, mNotT, mTst, mAndT, mOrT, mAndV, mOrV, mNotV, Res.bind, RV.tree, give, mAsg, gT, gN, gsCons, gsNil, mChainT, qLink, qLast, yes, asBool, m2, m1, mN, mTup, mSet, keepE, q0, g, fCmp, gI, wipeE]; try rfl)
    exact run_ret rfl ((and_t rfl).trans (tree_ok q))
  | _ => exact ⟨_, rfl⟩
def isPu (n : Int) : T → Bool
  | .tuple ts => decide ((ts.length : Int) = n) && ts.all isN
  | _ => false
theorem is_purses_ok {t : T} {n : Int} (h : nd1 t) : Is (D_is_purses [.val (.int n), .val t]) (.bool (isPu n t)) := by
  have q1 := call2 (m := mVar 0) (n := mVar 1) (e := [some (.val (.int n)), some (.val t), none]) rfl rfl (is_tuple_of_ok (n := n) h.1)
  rcases isTu_or n t with g | ⟨ts, rfl, g1, g⟩ <;> rw [g] at q1
  · have z : isPu n t = false := by
      cases t <;> first | rfl | (simp only [isTu, isPu] at g ⊢; rw [g]; rfl)
    rw [z]
    exact run_ret rfl (and_f q1)
  · obtain ⟨hl, hx⟩ := h.2 _ rfl
    have q := all_eq (mi := mSeq1 (mVar 1)) (g := gN 2) (vs := [2]) (te := mTree (mCall D_is_number (mCons (mVar 2) mNil))) (f := isN) (e := [some (.val (.int n)), some (.val (.tuple ts)), none]) (e1 := [some (.val (.int n)), some (.val (.tuple ts)), none]) (ts := ts) rfl hl
      fun x hm => ⟨_, [some (.val (.int n)), some (.val (.tuple ts)), some (.val x)], rfl, call1 rfl (is_number_ok (hx x hm)), rfl⟩
    have z : isPu n (.tuple ts) = ts.all isN := by simp [isPu, g1]
    rw [z]
    exact run_ret rfl ((and_t q1).trans (tree_ok q))
theorem zipP : ∀ ts us : List T, List.zipWith pair ts us = (ts.zip us).map fun p => pair p.1 p.2
  | [], _ => by simp
  | _ :: _, [] => by simp
  | a :: ts, u :: us => by simp [zipP ts us]
theorem cut1 : ∀ ts : List T, cutT ts (some 1) none = ts.drop 1
  | [] => rfl
  | t :: ts => by
    have h : min (1 : Int).toNat (t :: ts).length = 1 := by simp
    simp [cutT, HT.sIx]
def onP (f : T → T → Bool) : T → Bool
  | .dict ((a, u) :: _) => f a u
  | _ => false
def asc (ts : List T) : Bool := (ts.zip (ts.drop 1)).all fun p => decide (gI p.1 < gI p.2)
def isL (n : Int) (t : T) : Bool := isB n t && match t with
  | .tuple ts => asc ts
  | _ => false
theorem isB_int {n : Int} {ts : List T} (h : isB n (.tuple ts) = true) : ∀ x ∈ ts, ∃ i, x = .int i ∧ 0 ≤ i ∧ i < n := fun x hx => by
  have z := List.all_eq_true.mp h x hx
  rcases isN_or x with g | ⟨i, rfl, h1, g⟩
  · rw [g] at z; cases z
  · rw [g] at z
    exact ⟨i, rfl, h1, of_decide_eq_true z⟩
theorem is_lot_ok {t : T} {n : Int} (h : nd1 t) : Is (D_is_lot [.val (.int n), .val t]) (.bool (isL n t)) := by
  have q1 := call2 (m := mVar 0) (n := mVar 1) (e := [some (.val (.int n)), some (.val t), none, none]) rfl rfl (are_below_ok (n := n) h)
  cases hb : isB n t with
  | false =>
    rw [hb] at q1
    have z : isL n t = false := by unfold isL; rw [hb]; rfl
    rw [z]
    exact run_ret rfl (and_f q1)
  | true =>
    rw [hb] at q1
    cases t with
    | tuple ts =>
      obtain ⟨hl, hx⟩ := h.2 _ rfl
      have hi := isB_int hb
      have q := all_eq (mi := mZip (mCons (mVar 1) (mCons (mTree (mSl (mVar 1) (some (mC (.int 1))) none)) mNil))) (g := gT (gsCons (gN 2) (gsCons (gN 3) gsNil)) 2) (vs := [2, 3]) (te := mTree (m2 fLt (mVar 2) (mVar 3))) (f := onP fun a b => decide (gI a < gI b))
        (e := [some (.val (.int n)), some (.val (.tuple ts)), none, none]) (e1 := [some (.val (.int n)), some (.val (.tuple ts)), none, none]) (ts := (ts.zip (ts.drop 1)).map fun p => pair p.1 p.2)
        (by rw [← zipP, ← cut1]; rfl) (by rw [List.length_map, List.length_zip]; omega) fun x hm => by
          obtain ⟨⟨a, b⟩, hm2, rfl⟩ := List.mem_map.mp hm
          obtain ⟨ha, hb2⟩ := List.of_mem_zip hm2
          obtain ⟨i, rfl, _, _⟩ := hi a ha
          obtain ⟨j, rfl, _, _⟩ := hi b (List.mem_of_mem_drop hb2)
          exact ⟨_, [some (.val (.int n)), some (.val (.tuple ts)), some (.val (.int i)), some (.val (.int j))], rfl, rfl, rfl⟩
      have z : isL n (.tuple ts) = ((ts.zip (ts.drop 1)).map fun p => pair p.1 p.2).all (onP fun a b => decide (gI a < gI b)) := by
        unfold isL
        rw [hb, List.all_map]
        rfl
      rw [z]
      exact run_ret rfl ((and_t q1).trans (tree_ok q))
    | _ => cases hb
theorem enumP : ∀ (ts : List T) (k : Nat), enumT k ts = (ts.zipIdx k).map fun p => pair (.int (p.2 : Nat)) p.1
  | [], _ => rfl
  | t :: ts, k => by simp [enumT, List.zipIdx_cons, enumP ts (k + 1)]
def joinL (ts : List T) : Bool := (ts.zipIdx 0).all fun p => decide (gI p.1 ≤ (p.2 : Int)) && decide (gI ((atI ts (gI p.1)).getD .none) = gI p.1)
def isJ (n : Int) (t : T) : Bool := isTu n t && isB n t && match t with
  | .tuple ts => joinL ts
  | _ => false
theorem atI_in {ts : List T} {i : Int} (h : 0 ≤ i) (h2 : i < ts.length) : ∃ t ∈ ts, atI ts i = some t := by
  have q : i.toNat < ts.length := by omega
  refine ⟨ts[i.toNat], List.getElem_mem q, ?_⟩
  unfold atI ixN
  rw [if_pos h, if_pos h2]
  simp [q]
theorem is_joining_ok {t : T} {n : Int} (h : nd1 t) : Is (D_is_joining [.val (.int n), .val t]) (.bool (isJ n t)) := by
  have q1 := notT_ok (tst_eq (call2 (m := mVar 0) (n := mVar 1) (e := [some (.val (.int n)), some (.val t), none, none]) rfl rfl (is_tuple_of_ok (n := n) h.1)))
  have q2 := notT_ok (tst_eq (call2 (m := mVar 0) (n := mVar 1) (e := [some (.val (.int n)), some (.val t), none, none]) rfl rfl (are_below_ok (n := n) h)))
  have q3 : mOrT (mNotT (mTst (mTree (mCall D_is_tuple_of (mCons (mVar 0) (mCons (mVar 1) mNil)))))) (mNotT (mTst (mTree (mCall D_are_below (mCons (mVar 0) (mCons (mVar 1) mNil)))))) [some (.val (.int n)), some (.val t), none, none] = .ok (!(isTu n t && isB n t)) [some (.val (.int n)), some (.val t), none, none] := by
    simp only [mOrT, q1, q2, Res.bind]
    cases isTu n t <;> rfl
  refine run_if rfl q3 (fun hb => ?_) (fun hb => ?_)
  · have z : isJ n t = false := by
      unfold isJ
      simp only [Bool.not_eq_true'] at hb
      rw [hb]
      rfl
    rw [z]
    exact ⟨_, rfl⟩
  · simp only [Bool.not_eq_false', Bool.and_eq_true] at hb
    obtain ⟨hb1, hb⟩ := hb
    cases t with
    | tuple ts =>
      obtain ⟨hl, hx⟩ := h.2 _ rfl
      have hn : (ts.length : Int) = n := of_decide_eq_true hb1
      have hi := isB_int hb
      have q := all_eq (mi := mEnum (mCons (mVar 1) mNil)) (g := gT (gsCons (gN 3) (gsCons (gN 2) gsNil)) 2) (vs := [3, 2]) (te := mAndV (mTree (m2 fLe (mVar 2) (mVar 3))) (mTree (m2 fEq (mIxV 1 (mVar 2)) (mVar 2))))
        (f := onP fun k x => decide (gI x ≤ gI k) && decide (gI ((atI ts (gI x)).getD .none) = gI x))
        (e := [some (.val (.int n)), some (.val (.tuple ts)), none, none]) (e1 := [some (.val (.int n)), some (.val (.tuple ts)), none, none]) (ts := (ts.zipIdx 0).map fun p => pair (.int (p.2 : Nat)) p.1)
        (by rw [← enumP]; rfl) (by rw [List.length_map, List.length_zipIdx]; omega) fun x hm => by
          obtain ⟨⟨a, k⟩, hm2, rfl⟩ := List.mem_map.mp hm
          have ha : a ∈ ts := by
            have := List.mem_zipIdx hm2
            rw [this.2.2]
            exact List.getElem_mem _
          obtain ⟨i, rfl, h0, h1⟩ := hi a ha
          obtain ⟨u, hu, hu2⟩ := atI_in (ts := ts) h0 (by omega)
          obtain ⟨j, rfl, _, _⟩ := hi u hu
          refine ⟨_, [some (.val (.int n)), some (.val (.tuple ts)), some (.val (.int i)), some (.val (.int (k : Nat)))], rfl, ?_, rfl⟩
          by_cases hk : i ≤ (k : Int)
          · rw [and_t (by simp [mTree, m2, mVar, Res.bind, wipeE, give, fCmp, RV.tree, hk]; rfl)]
            simp [mTree, m2, mVar, Res.bind, wipeE, give, fEq, TL.same, RV.tree, hk, mIxV, peek, items, hu2, onP, pair, gI]
          · rw [and_f (by simp [mTree, m2, mVar, Res.bind, wipeE, give, fCmp, RV.tree, hk]; rfl)]
            simp [onP, pair, gI, hk]
      have z : isJ n (.tuple ts) = ((ts.zipIdx 0).map fun p => pair (.int (p.2 : Nat)) p.1).all (onP fun k x => decide (gI x ≤ gI k) && decide (gI ((atI ts (gI x)).getD .none) = gI x)) := by
        unfold isJ
        rw [hb, hb1, List.all_map]
        rfl
      rw [z]
      exact ⟨_, ret_eq q⟩
    | _ => cases hb
end G
end
section
set_option Elab.async false
set_option linter.all false
set_option autoImplicit false
set_option maxRecDepth 100000
set_option maxHeartbeats 1000000
namespace G
open PySem PySem.Spec PyProof.Rows L2 TL
/-- a line of a good web -/
def room : T → Int
  | .tuple [_, _, .int r] => r
  | _ => 0
def okLine (l : T) : Prop := ∃ a b r : Int, l = .tuple [.int a, .int b, .int r]
def isS (ls : List T) : T → Bool
  | .tuple ts => decide ((ts.length : Int) = (ls.length : Int)) && (ts.zip ls).all fun p => isN p.1 && decide (gI p.1 ≤ room p.2)
  | _ => false
theorem is_split_ok {t w0 : T} {ls : List T} (h : nd1 t) (hl : ∀ l ∈ ls, okLine l) : Is (D_is_split [.val (.tuple [w0, .tuple ls]), .val t]) (.bool (isS ls t)) := by
  have q1 := notT_ok (tst_eq (call2 (m := mLenV 3) (n := mVar 1) (e := [some (.val (.tuple [w0, .tuple ls])), some (.val t), some (.val w0), some (.val (.tuple ls)), none, none]) rfl rfl (is_tuple_of_ok (n := (ls.length : Int)) h.1)))
  have key : ∃ e2, (mSeq (mIfS (mNotT (mTst (mTree (mCall D_is_tuple_of (mCons (mLenV 3) (mCons (mVar 1) mNil)))))) (mRet (mVal (mC (.bool false)))) mNx)
      (mRet (mN fAll (mCons (mTree (mComp (mZip (mCons (mVar 1) (mCons (mVar 3) mNil))) (gT (gsCons (gN 5) (gsCons (gN 4) gsNil)) 2) mYes (mAndV (mTree (mCall D_is_number (mCons (mVar 5) mNil))) (mTree (m2 fLe (mVar 5) (mIxV 4 (mC (.int 2)))))) [5, 4])) mNil))))
      [some (.val (.tuple [w0, .tuple ls])), some (.val t), some (.val w0), some (.val (.tuple ls)), none, none] = .ok (.rt (.val (.bool (isS ls t)))) e2 := by
    rw [if_ret q1]
    rcases isTu_or (ls.length : Int) t with g | ⟨ts, rfl, g1, g⟩
    · have z : isS ls t = false := by
        cases t <;> first | rfl | (simp only [isTu, isS] at g ⊢; rw [g]; rfl)
      rw [g, z]
      exact ⟨_, rfl⟩
    · rw [g]
      obtain ⟨hl1, hx⟩ := h.2 _ rfl
      have q := all_eq (mi := mZip (mCons (mVar 1) (mCons (mVar 3) mNil))) (g := gT (gsCons (gN 5) (gsCons (gN 4) gsNil)) 2) (vs := [5, 4]) (te := mAndV (mTree (mCall D_is_number (mCons (mVar 5) mNil))) (mTree (m2 fLe (mVar 5) (mIxV 4 (mC (.int 2))))))
        (f := onP fun a b => isN a && decide (gI a ≤ room b)) (e := [some (.val (.tuple [w0, .tuple ls])), some (.val (.tuple ts)), some (.val w0), some (.val (.tuple ls)), none, none])
        (e1 := [some (.val (.tuple [w0, .tuple ls])), some (.val (.tuple ts)), some (.val w0), some (.val (.tuple ls)), none, none]) (ts := (ts.zip ls).map fun p => pair p.1 p.2)
        (by rw [← zipP]; rfl) (by rw [List.length_map, List.length_zip]; omega) fun x hm => by
          obtain ⟨⟨a, l⟩, hm2, rfl⟩ := List.mem_map.mp hm
          obtain ⟨ha, hb2⟩ := List.of_mem_zip hm2
          obtain ⟨i, j, r, rfl⟩ := hl l hb2
          refine ⟨_, [some (.val (.tuple [w0, .tuple ls])), some (.val (.tuple ts)), some (.val w0), some (.val (.tuple ls)), some (.val (.tuple [.int i, .int j, .int r])), some (.val a)], rfl, ?_, rfl⟩
          have c := call1 (m := mVar 5) (e := [some (.val (.tuple [w0, .tuple ls])), some (.val (.tuple ts)), some (.val w0), some (.val (.tuple ls)), some (.val (.tuple [.int i, .int j, .int r])), some (.val a)]) rfl (is_number_ok (hx a ha))
          rcases isN_or a with g | ⟨k, rfl, _, g⟩ <;> rw [g] at c
          · exact (and_f c).trans (by simp [onP, pair, g])
          · exact (and_t c).trans (by simp [onP, pair, g, gI, room, mTree, m2, mVar, mIxV, mC, Res.bind, give, fCmp, RV.tree, peek, items, atI, ixN]; rfl)
      have z : isS ls (.tuple ts) = ((ts.zip ls).map fun p => pair p.1 p.2).all (onP fun a b => isN a && decide (gI a ≤ room b)) := by
        simp only [isS, g1, List.all_map]
        simp
        rfl
      rw [z]
      exact ⟨_, ret_eq q⟩
  obtain ⟨e2, key⟩ := key
  exact run_body rfl ((show ∀ (rest : Ms), mSeq (mAsg (gT (gsCons (gN 2) (gsCons (gN 3) gsNil)) 2) (mVar 0)) rest (List.map some [RV.val (.tuple [w0, .tuple ls]), .val t] ++ List.replicate (6 - 2) none) = rest [some (.val (.tuple [w0, .tuple ls])), some (.val t), some (.val w0), some (.val (.tuple ls)), none, none] from fun _ => rfl) _ |>.trans key)
def isQu : T → Bool
  | .tuple [a, b] => isI a && (isQ b && decide (Nat.gcd (gI a).natAbs (gI b).natAbs = 1))
  | _ => false
theorem two {ts : List T} (h : (ts.length : Int) = 2) : ∃ a b, ts = [a, b] := by
  match ts, h with
  | [a, b], _ => exact ⟨a, b, rfl⟩
  | [], h => cases h
  | [_], h => cases h
  | _ :: _ :: _ :: _, h => simp at h; omega
theorem isQu_no {t : T} (h : isTu 2 t = false) : isQu t = false := by
  unfold isQu
  split
  · simp [isTu] at h
  · rfl
theorem is_quotient_ok {t : T} (h : nd1 t) : Is (D_is_quotient [.val t]) (.bool (isQu t)) := by
  obtain ⟨e0, q0⟩ := is_tuple_of_ok (n := 2) h.1
  unfold Is
  rcases isTu_or 2 t with g | ⟨ts, rfl, g1, g⟩ <;> rw [g] at q0
  · rw [isQu_no g]
    simp [runDef, List.replicate, mRet, mVal, mTree, mCall, mCons, mNil, mVar, mC, mSeq, mIfS, mNx, mNotT, mTst, mAndT, mOrT, mAndV, mOrV, mNotV, Res.bind, RV.tree, give, mAsg, gT, gN, gsCons, gsNil, mChainT, qLink, qLast, yes, asBool, m2, m1, mN, mTup, mSet, keepE, D_is_quotient, M_is_quotient, q0]
  · obtain ⟨a, b, rfl⟩ := two g1
    obtain ⟨hl, hx⟩ := h.2 _ rfl
    obtain ⟨e1, q1⟩ := is_integer_ok (hx a (by simp))
    obtain ⟨e2, q2⟩ := is_positive_ok (hx b (by simp))
    rcases isI_or a with g2 | ⟨i, rfl, g2⟩ <;> rw [g2] at q1
    · simp [runDef, List.replicate, mRet, mVal, mTree, mCall, mCons, mNil, mVar, mC, mSeq, mIfS, mNx, mNotT, mTst, mAndT, mOrT, mAndV, mOrV, mNotV, Res.bind, RV.tree, give, mAsg, gT, gN, gsCons, gsNil, mChainT, qLink, qLast, yes, asBool, m2, m1, mN, mTup, mSet, keepE, D_is_quotient, M_is_quotient, q0, q1, isQu, g2]
    · rcases isQ_or b with g3 | ⟨j, rfl, h3, g3⟩ <;> rw [g3] at q2
      · simp [runDef, List.replicate, mRet, mVal, mTree, mCall, mCons, mNil, mVar, mC, mSeq, mIfS, mNx, mNotT, mTst, mAndT, mOrT, mAndV, mOrV, mNotV, Res.bind, RV.tree, give, mAsg, gT, gN, gsCons, gsNil, mChainT, qLink, qLast, yes, asBool, m2, m1, mN, mTup, mSet, keepE, D_is_quotient, M_is_quotient, q0, q1, q2, isQu, g2, g3]
      · simp [runDef, List.replicate, mRet, mVal, mTree, mCall, mCons, mNil, mVar, mC, mSeq, mIfS, mNx, mNotT, mTst, mAndT, mOrT, mAndV, mOrV, mNotV, Res.bind, RV.tree, give, mAsg, gT, gN, gsCons, gsNil, mChainT, qLink, qLast, yes, asBool, m2, m1, mN, mTup, mSet, keepE, D_is_quotient, M_is_quotient, q0, q1, q2, isQu, g2, g3, gI, fGcd, fEq, TL.same]
        exact decide_eq_decide.mpr (by omega)
end G
end
section
set_option Elab.async false
set_option linter.all false
set_option autoImplicit false
set_option maxRecDepth 100000
set_option maxHeartbeats 1000000
namespace G
open PySem PySem.Spec PyProof.Rows L2 TL
mutual
def fit : T → Bool
  | .dict _ => false
  | .tuple ts => decide (ts.length ≤ 100000) && fits ts
  | .list ts => fits ts
  | _ => true
def fits : List T → Bool
  | [] => true
  | t :: ts => fit t && fits ts
end
theorem fits_mem : ∀ {ts : List T}, fits ts = true → ∀ x ∈ ts, fit x = true
  | t :: ts, h, x, hx => by
    have h' : (fit t && fits ts) = true := h
    rw [Bool.and_eq_true] at h'
    rcases List.mem_cons.mp hx with rfl | hx
    · exact h'.1
    · exact fits_mem h'.2 x hx
theorem fit_nd {t : T} (h : fit t = true) : nd t = true := by
  cases t <;> first | rfl | cases h
theorem fit_tup {ts : List T} (h : fit (.tuple ts) = true) : ts.length ≤ 100000 ∧ fits ts = true := by
  have h' : (decide (ts.length ≤ 100000) && fits ts) = true := h
  rw [Bool.and_eq_true] at h'
  exact ⟨of_decide_eq_true h'.1, h'.2⟩
theorem fit_nd1 {t : T} (h : fit t = true) : nd1 t := ⟨fit_nd h, fun ts e => by
  subst e
  exact ⟨(fit_tup h).1, fun x hx => fit_nd (fits_mem (fit_tup h).2 x hx)⟩⟩
theorem fit_it {ts : List T} {x : T} (h : fit (.tuple ts) = true) (hx : x ∈ ts) : fit x = true := fits_mem (fit_tup h).2 x hx
theorem lf_or (n : Int) (t : T) : lf n t = .none ∨ ∃ s, lf n t = .str s := by
  unfold lf
  split
  · split
    · split
      · exact .inl rfl
      · exact .inr ⟨_, rfl⟩
    · exact .inr ⟨_, rfl⟩
  · exact .inr ⟨_, rfl⟩
def wfl (n : Int) : Nat → List T → T
  | _, [] => .none
  | k, l :: ls => match lf n l with
    | .none => wfl n (k + 1) ls
    | w => .tuple [w, .int (k : Nat)]
def wf : T → T
  | .tuple [a, b] => if isQ a then match b with
    | .tuple ls => wfl (gI a) 0 ls
    | _ => .tuple [.str "lines", .int (-1)] else .tuple [.str "size", .int (-1)]
  | _ => .tuple [.str "shape", .int (-1)]
theorem wfl_or (n : Int) : ∀ (ls : List T) (k : Nat), wfl n k ls = .none ∨ ∃ s i, wfl n k ls = .tuple [.str s, .int i]
  | [], _ => .inl rfl
  | l :: ls, k => by
    unfold wfl
    rcases lf_or n l with h | ⟨s, h⟩ <;> rw [h]
    · exact wfl_or n ls (k + 1)
    · exact .inr ⟨s, _, rfl⟩
theorem wf_or (t : T) : wf t = .none ∨ ∃ s i, wf t = .tuple [.str s, .int i] := by
  unfold wf
  split
  · split
    · split
      · exact wfl_or _ _ _
      · exact .inr ⟨_, _, rfl⟩
    · exact .inr ⟨_, _, rfl⟩
  · exact .inr ⟨_, _, rfl⟩
def bodyW : Ms := mSeq (mSet 5 (mCall D_line_fault (mCons (mVar 1) (mCons (mVar 4) mNil)))) (mIfS (mTst (mTree (m2 fIsN (mVar 5) (mC .none)))) (mRet (mVal (mTup (mCons (mVar 5) (mCons (mVar 3) mNil))))) mNx)
theorem line_fault_fit {t : T} {n : Int} (h : fit t = true) : Is (D_line_fault [.val (.int n), .val t]) (lf n t) :=
  line_fault_ok (fit_nd h) fun ts e x hx => by subst e; exact fit_nd (fit_it h hx)
theorem loopW {n : Int} {t u : T} : ∀ (ls : List T) (k : Nat) (x3 x4 x5 : Option RV), fits ls = true → ∃ e', mLoop (gT (gsCons (gN 3) (gsCons (gN 4) gsNil)) 2) bodyW (enumT k ls) [some (.val t), some (.val (.int n)), some (.val u), x3, x4, x5] = (match wfl n k ls with
    | .none => .ok .nx e'
    | w => .ok (.rt (.val w)) e')
  | [], k, x3, x4, x5, _ => ⟨_, rfl⟩
  | l :: ls, k, x3, x4, x5, h => by
    have h' : (fit l && fits ls) = true := h
    rw [Bool.and_eq_true] at h'
    obtain ⟨e0, q0⟩ := line_fault_fit (n := n) h'.1
    have st : ∀ e : En, e = [some (.val t), some (.val (.int n)), some (.val u), some (.val (.int (k : Nat))), some (.val l), x5] → bodyW e = (match lf n l with
        | .none => .ok .nx [some (.val t), some (.val (.int n)), some (.val u), some (.val (.int (k : Nat))), some (.val l), some (.val .none)]
        | w => .ok (.rt (.val (.tuple [w, .int (k : Nat)]))) [some (.val t), some (.val (.int n)), some (.val u), some (.val (.int (k : Nat))), some (.val l), some (.val w)]) := fun e he => by
      subst he
      rcases lf_or n l with h | ⟨s, h⟩ <;> rw [h] at q0 ⊢
      · simp [runDef, List.replicate, mRet, mVal, mTree, mCall, mCons, mNil, mVar, mC, mSeq, mIfS, mNx, mNotT, mTst, mAndT, mOrT, mAndV, mOrV, mNotV, Res.bind, RV.tree, give, mAsg, gT, gN, gsCons, gsNil, mChainT, qLink, qLast, yes, asBool, m2, m1, mN, mTup, mSet, keepE, bodyW, q0, fIsN, isT]
      · simp [runDef, List.replicate, mRet, mVal, mTree, mCall, mCons, mNil, mVar, mC, mSeq, mIfS, mNx, mNotT, mTst, mAndT, mOrT, mAndV, mOrV, mNotV, Res.bind, RV.tree, give, mAsg, gT, gN, gsCons, gsNil, mChainT, qLink, qLast, yes, asBool, m2, m1, mN, mTup, mSet, keepE, bodyW, q0, fIsN, isT]
    have un : mLoop (gT (gsCons (gN 3) (gsCons (gN 4) gsNil)) 2) bodyW (enumT k (l :: ls)) [some (.val t), some (.val (.int n)), some (.val u), x3, x4, x5] = (match bodyW [some (.val t), some (.val (.int n)), some (.val u), some (.val (.int (k : Nat))), some (.val l), x5] with
      | .ok .nx e2 => mLoop (gT (gsCons (gN 3) (gsCons (gN 4) gsNil)) 2) bodyW (enumT (k + 1) ls) e2
      | .ok .ct e2 => mLoop (gT (gsCons (gN 3) (gsCons (gN 4) gsNil)) 2) bodyW (enumT (k + 1) ls) e2
      | .ok .bk e2 => .ok .nx e2
      | r => r) := rfl
    rw [un, st _ rfl]
    unfold wfl
    rcases lf_or n l with h | ⟨s, h⟩ <;> rw [h]
    · exact loopW ls (k + 1) _ _ _ h'.2
    · exact ⟨_, rfl⟩
theorem web_fault_ok {t : T} (h : fit t = true) : Is (D_web_fault [.val t]) (wf t) := by
  have c0 := call2 (m := mC (.int 2)) (n := mVar 0) (e := [some (.val t), none, none, none, none, none]) rfl rfl (is_tuple_of_ok (n := 2) (fit_nd h))
  refine run_if rfl (notT_ok (tst_eq c0)) (fun hb => ?_) (fun hb => ?_)
  · simp only [Bool.not_eq_true'] at hb
    have z : wf t = .tuple [.str "shape", .int (-1)] := by
      unfold wf
      split
      · simp [isTu] at hb
      · rfl
    rw [z]
    exact ⟨_, rfl⟩
  · simp only [Bool.not_eq_false'] at hb
    rcases isTu_or 2 t with g | ⟨ts, rfl, g1, g⟩
    · rw [g] at hb; cases hb
    · obtain ⟨a, b, rfl⟩ := two g1
      have fa := fit_it h (x := a) (by simp)
      have fb := fit_it h (x := b) (by simp)
      have c1 := call1 (m := mVar 1) (e := [some (.val (.tuple [a, b])), some (.val a), some (.val b), none, none, none]) rfl (is_positive_ok (fit_nd fa))
      refine (show ∀ (rest : Ms) (R : Res Out → Prop), R (rest [some (.val (.tuple [a, b])), some (.val a), some (.val b), none, none, none]) → R (mSeq (mAsg (gT (gsCons (gN 1) (gsCons (gN 2) gsNil)) 2) (mVar 0)) rest [some (.val (.tuple [a, b])), none, none, none, none, none]) from fun _ _ h => h) _ (fun r => ∃ e2, r = .ok (.rt (.val (wf (.tuple [a, b])))) e2) ?_
      rw [if_ret (notT_ok (tst_eq c1))]
      rcases isQ_or a with g2 | ⟨n, rfl, _, g2⟩
      · rw [g2]
        simp only [wf, g2]
        exact ⟨_, rfl⟩
      · rw [g2]
        simp only [wf, g2, gI]
        cases b with
        | tuple ls =>
          obtain ⟨e', hl⟩ := loopW (n := n) (t := .tuple [.int n, .tuple ls]) (u := .tuple ls) ls 0 none none none (fit_tup fb).2
          refine (show ∀ (rest : Ms) (R : Res Out → Prop), R (mSeq (fun e => mLoop (gT (gsCons (gN 3) (gsCons (gN 4) gsNil)) 2) bodyW (enumT 0 ls) e) rest [some (.val (.tuple [.int n, .tuple ls])), some (.val (.int n)), some (.val (.tuple ls)), none, none, none]) →
            R (mSeq (mIfS (mNotT (mTst (mIsi .tup (mVar 2)))) (mRet (mVal (mTup (mCons (mC (.str "lines")) (mCons (mTree (m1 fNeg (mC (.int 1)))) mNil))))) mNx) (mSeq (mFor (mEnum (mCons (mVar 2) mNil)) (gT (gsCons (gN 3) (gsCons (gN 4) gsNil)) 2) bodyW) rest) [some (.val (.tuple [.int n, .tuple ls])), some (.val (.int n)), some (.val (.tuple ls)), none, none, none]) from fun _ _ h => h) _
            (fun r => ∃ e2, r = .ok (.rt (.val (wfl n 0 ls))) e2) ?_
          rw [show mSeq (fun e => mLoop (gT (gsCons (gN 3) (gsCons (gN 4) gsNil)) 2) bodyW (enumT 0 ls) e) (mRet (mVal (mC .none))) [some (.val (.tuple [.int n, .tuple ls])), some (.val (.int n)), some (.val (.tuple ls)), none, none, none] = (match mLoop (gT (gsCons (gN 3) (gsCons (gN 4) gsNil)) 2) bodyW (enumT 0 ls) [some (.val (.tuple [.int n, .tuple ls])), some (.val (.int n)), some (.val (.tuple ls)), none, none, none] with
            | .ok .nx e1 => mRet (mVal (mC .none)) e1
            | r => r) from rfl, hl]
          rcases wfl_or n ls 0 with z | ⟨s, i, z⟩ <;> rw [z] <;> exact ⟨_, rfl⟩
        | dict => cases fb
        | _ => exact ⟨_, rfl⟩
end G
end
section
set_option Elab.async false
set_option linter.all false
set_option autoImplicit false
set_option maxRecDepth 100000
set_option maxHeartbeats 1000000
namespace G
open PySem PySem.Spec PyProof.Rows L2 TL
def isNo : T → Bool
  | .none => true
  | _ => false
theorem is_web_ok {t : T} (h : fit t = true) : Is (D_is_web [.val t]) (.bool (isNo (wf t))) := by
  have c := call1 (m := mVar 0) (e := [some (.val t)]) rfl (web_fault_ok h)
  refine run_retV (e := [some (.val t)]) rfl ?_
  simp only [m2, List.map, List.replicate, Nat.sub_self, List.append_nil, c, Res.bind, mC]
  rcases wf_or t with z | ⟨s, i, z⟩ <;> rw [z] <;> rfl
theorem wf_none {t : T} (h : wf t = .none) : ∃ n ls, t = .tuple [.int n, .tuple ls] ∧ 1 ≤ n ∧ wfl n 0 ls = .none := by
  unfold wf at h
  split at h
  · rename_i a b
    split at h
    · rename_i g
      split at h
      · rename_i ls
        rcases isQ_or a with g2 | ⟨n, rfl, h1, _⟩
        · rw [g2] at g; cases g
        · exact ⟨n, ls, rfl, h1, h⟩
      · cases h
    · cases h
  · cases h
theorem lets_yes {n : Int} {ls : List T} (h : fit (.tuple [.int n, .tuple ls]) = true) (hw : wf (.tuple [.int n, .tuple ls]) = .none) : Is (D_lets_web [.val (.tuple [.int n, .tuple ls])]) (.int (ls.length : Nat)) := by
  obtain ⟨e0, q0⟩ := web_fault_ok h
  rw [hw] at q0
  unfold Is
  simp [runDef, List.replicate, mRet, mVal, mTree, mCall, mCons, mNil, mVar, mC, mSeq, mIfS, mNx, mNotT, mTst, mAndT, mOrT, mAndV, mOrV, mNotV, Res.bind, RV.tree, give, mAsg, gT, gN, gsCons, gsNil, mChainT, qLink, qLast, yes, asBool, m2, m1, mN, mTup, mSet, keepE, D_lets_web, M_lets_web, q0, fIsN, isT, fLen, mIxV, peek, items, atI, ixN]
theorem lets_no {t : T} {s : Str} {i : Int} (h : fit t = true) (hw : wf t = .tuple [.str s, .int i]) : ∃ e, D_lets_web [.val t] = .exc ⟨"InvalidPaper", [("at", .int i), ("word", .str s)]⟩ e := by
  obtain ⟨e0, q0⟩ := web_fault_ok h
  rw [hw] at q0
  simp [runDef, List.replicate, mRet, mVal, mTree, mCall, mCons, mNil, mVar, mC, mSeq, mIfS, mNx, mNotT, mTst, mAndT, mOrT, mAndV, mOrV, mNotV, Res.bind, RV.tree, give, mAsg, gT, gN, gsCons, gsNil, mChainT, qLink, qLast, yes, asBool, m2, m1, mN, mTup, mSet, keepE, D_lets_web, M_lets_web, q0, fIsN, isT, mRaise]
theorem look_at (x y : T) : look "at" [(.str "at", x), (.str "word", y)] = some x := by
  unfold look
  rw [if_pos rfl]
theorem look_word (x y : T) : look "word" [(.str "at", x), (.str "word", y)] = some y := by
  unfold look
  rw [if_neg (by decide +kernel)]
  unfold look
  rw [if_pos rfl]
def hd (t : T) : T := match wf t with
  | .tuple [s, i] => .tuple [.str "no", s, i, .bool true]
  | _ => match t with
    | .tuple [_, .tuple ls] => .tuple [.str "yes", .int (ls.length : Nat)]
    | _ => .none
theorem heard_ok {t : T} {b : Bool} (h : fit t = true) : Is (D__law_heard [.val t, .val (.bool b)]) (hd t) := by
  rcases wf_or t with z | ⟨s, i, z⟩
  · obtain ⟨n, ls, rfl, h1, _⟩ := wf_none z
    obtain ⟨e0, q0⟩ := lets_yes h z
    unfold Is
    cases b <;> simp [runDef, List.replicate, mRet, mVal, mTree, mCall, mCons, mNil, mVar, mC, mSeq, mIfS, mNx, mNotT, mTst, mAndT, mOrT, mAndV, mOrV, mNotV, Res.bind, RV.tree, give, mAsg, gT, gN, gsCons, gsNil, mChainT, qLink, qLast, yes, asBool, m2, m1, mN, mTup, mSet, keepE, D__law_heard, M__law_heard, mTry, mCallKW, mCallK, pick, q0, hd, z]
  · obtain ⟨e0, q0⟩ := lets_no h z
    unfold Is
    cases b <;> simp [runDef, List.replicate, mRet, mVal, mTree, mCall, mCons, mNil, mVar, mC, mSeq, mIfS, mNx, mNotT, mTst, mAndT, mOrT, mAndV, mOrV, mNotV, Res.bind, RV.tree, give, mAsg, gT, gN, gsCons, gsNil, mChainT, qLink, qLast, yes, asBool, m2, m1, mN, mTup, mSet, keepE, D__law_heard, M__law_heard, mTry, mCallKW, mCallK, pick, q0, hd, z, Su__law_heard_0, fgt, mIsE, mFldE, exnT, look_at, look_word]
/-! ### the law's own comparing -/
def flat1 : T → Bool
  | .str _ => true
  | .int _ => true
  | .bool _ => true
  | _ => false
theorem same1 {x : T} (h : flat1 x = true) (k : Nat) : Is (Dn__law_same (k + 1) [.val x, .val x]) (.bool true) := by
  cases x <;> first | cases h | skip
  · rename_i b
    cases b <;> exact ⟨_, rfl⟩
  · rename_i i
    obtain ⟨e0, q0⟩ := law_int_ok (t := .int i) rfl
    unfold Is
    simp [runDef, List.replicate, mRet, mVal, mTree, mCall, mCons, mNil, mVar, mC, mSeq, mIfS, mNx, mNotT, mTst, mAndT, mOrT, mAndV, mOrV, mNotV, Res.bind, RV.tree, give, mAsg, gT, gN, gsCons, gsNil, mChainT, qLink, qLast, yes, asBool, m2, m1, mN, mTup, mSet, keepE, Dn__law_same, M__law_same, mIsi, isK, fIs, isT, q0, isI, fEq, TL.same]
  · rename_i s
    unfold Is
    simp [runDef, List.replicate, mRet, mVal, mTree, mCall, mCons, mNil, mVar, mC, mSeq, mIfS, mNx, mNotT, mTst, mAndT, mOrT, mAndV, mOrV, mNotV, Res.bind, RV.tree, give, mAsg, gT, gN, gsCons, gsNil, mChainT, qLink, qLast, yes, asBool, m2, m1, mN, mTup, mSet, keepE, Dn__law_same, M__law_same, mIsi, isK, fIs, isT, fEq, TL.same]
theorem rng_cons (lo : Int) (n : Nat) : rngT lo (n + 1) = .int lo :: rngT (lo + 1) n := by
  unfold rngT
  rw [List.range_succ_eq_map, List.map_cons, List.map_map]
  congr 1
  · simp
  · refine List.map_congr_left fun i _ => ?_
    simp only [Function.comp]
    congr 1
    simp
    omega
theorem atI_nat {ts : List T} {i : Nat} {t : T} (h : ts[i]? = some t) : atI ts (i : Int) = some t := by
  have q : i < ts.length := by
    rcases Nat.lt_or_ge i ts.length with z | z
    · exact z
    · rw [List.getElem?_eq_none z] at h; cases h
  unfold atI ixN
  rw [if_pos (by omega), if_pos (by omega)]
  simpa using h
def bodyS (D : DF) : Ms := mIfS (mNotT (mTst (mTree (mCall D (mCons (mIxV 0 (mVar 2)) (mCons (mIxV 1 (mVar 2)) mNil)))))) (mRet (mVal (mC (.bool false)))) mNx
theorem loopS {D : DF} {ts : List T} (h : ∀ x ∈ ts, Is (D [.val x, .val x]) (.bool true)) : ∀ (m k : Nat) (x2 : Option RV), k + m = ts.length → ∃ x, mLoop (gN 2) (bodyS D) (rngT (k : Int) m) [some (.val (.tuple ts)), some (.val (.tuple ts)), x2] = .ok .nx [some (.val (.tuple ts)), some (.val (.tuple ts)), x]
  | 0, k, x2, _ => ⟨x2, rfl⟩
  | m + 1, k, x2, hk => by
    have hk2 : k < ts.length := by omega
    have hx : ts[k]? = some ts[k] := List.getElem?_eq_getElem hk2
    obtain ⟨e0, q0⟩ := h ts[k] (List.getElem_mem hk2)
    have st : bodyS D [some (.val (.tuple ts)), some (.val (.tuple ts)), some (.val (.int (k : Int)))] = .ok .nx [some (.val (.tuple ts)), some (.val (.tuple ts)), some (.val (.int (k : Int)))] := by
      simp [runDef, List.replicate, mRet, mVal, mTree, mCall, mCons, mNil, mVar, mC, mSeq, mIfS, mNx, mNotT, mTst, mAndT, mOrT, mAndV, mOrV, mNotV, Res.bind, RV.tree, give, mAsg, gT, gN, gsCons, gsNil, mChainT, qLink, qLast, yes, asBool, m2, m1, mN, mTup, mSet, keepE, bodyS, mIxV, peek, items, atI_nat hx, q0]
    rw [rng_cons]
    obtain ⟨x, ih⟩ := loopS h m (k + 1) (some (.val (.int (k : Int)))) (by omega)
    refine ⟨x, ?_⟩
    unfold mLoop
    simp only [gN, List.set]
    rw [st]
    simpa using ih
theorem sameT {ts : List T} (hl : ts.length ≤ 100000) (h : ∀ x ∈ ts, flat1 x = true) : Is (D__law_same [.val (.tuple ts), .val (.tuple ts)]) (.bool true) := by
  obtain ⟨x, hx⟩ := loopS (D := Dn__law_same 7) (ts := ts) (fun x hm => same1 (h x hm) 6) ts.length 0 none (by simp)
  have hx' : mLoop (gN 2) (bodyS (Dn__law_same 7)) (rngT 0 ts.length) [some (.val (.tuple ts)), some (.val (.tuple ts)), none] = .ok .nx [some (.val (.tuple ts)), some (.val (.tuple ts)), x] := hx
  have hr : mRng (mCons (mLenV 1) mNil) [some (.val (.tuple ts)), some (.val (.tuple ts)), none] = .ok (rngT 0 ts.length) [some (.val (.tuple ts)), some (.val (.tuple ts)), none] := by
    simp only [mRng, mCons, mNil, mLenV, peek, items, Res.bind, List.getElem?_cons_succ, List.getElem?_cons_zero]
    rw [if_pos (by omega)]
    simp
  have hf : mFor (mRng (mCons (mLenV 1) mNil)) (gN 2) (bodyS (Dn__law_same 7)) [some (.val (.tuple ts)), some (.val (.tuple ts)), none] = .ok .nx [some (.val (.tuple ts)), some (.val (.tuple ts)), x] := by
    simp only [mFor, hr, Res.bind]
    exact hx'
  unfold bodyS at hf
  have hc : mOrT (mNotT (mTst (mIsi .tup (mVar 0)))) (mTst (mTree (m2 fNe (mLenV 0) (mLenV 1)))) [some (.val (.tuple ts)), some (.val (.tuple ts)), none] = .ok false [some (.val (.tuple ts)), some (.val (.tuple ts)), none] := by
    simp [runDef, List.replicate, mRet, mVal, mTree, mCall, mCons, mNil, mVar, mC, mSeq, mIfS, mNx, mNotT, mTst, mAndT, mOrT, mAndV, mOrV, mNotV, Res.bind, RV.tree, give, mAsg, gT, gN, gsCons, gsNil, mChainT, qLink, qLast, yes, asBool, m2, m1, mN, mTup, mSet, keepE, mIsi, isK, mLenV, peek, items, fNe, TL.same]
  exact run_body (m := M__law_same (Dn__law_same 7)) rfl (seq_if_t (e1 := [some (.val (.tuple ts)), some (.val (.tuple ts)), none]) rfl ((seq_if_f hc).trans ((seq_nx hf).trans (ret_eq rfl))))
end G
end
section
set_option Elab.async false
set_option linter.all false
set_option autoImplicit false
set_option maxRecDepth 100000
set_option maxHeartbeats 1000000
namespace G
open PySem PySem.Spec PyProof.Rows L2 TL
def bodyV : Ms := (mSeq (mSet 2 (m2 fIx (mIxV 0 (mC (.int 1))) (mVar 1)))
  (mSeq (mIfS (mOrT (mNotT (mTst (mIsi .tup (mVar 2)))) (mTst (mTree (m2 fNe (mLenV 2) (mC (.int 3))))))
  (mRet (mVal (mTup (mCons (mC (.str "shape")) (mCons (mVar 1) mNil)))))
  mNx)
  (mSeq (mIfS (mOrT (mNotT (mTst (mTree (mCall D__law_int (mCons (mIxV 2 (mC (.int 0))) mNil))))) (mOrT (mNotT (mTst (mTree (mCall D__law_int (mCons (mIxV 2 (mC (.int 1))) mNil))))) (mNotT (mChainT (mC (.int 0)) (qLink fLe (mIxV 2 (mC (.int 0))) (qLink fLt (mIxV 2 (mC (.int 1))) (qLast fLt (mIxV 0 (mC (.int 0))))))))))
  (mRet (mVal (mTup (mCons (mC (.str "house")) (mCons (mVar 1) mNil)))))
  mNx)
  (mIfS (mOrT (mNotT (mTst (mTree (mCall D__law_int (mCons (mIxV 2 (mC (.int 2))) mNil))))) (mTst (mTree (m2 fLt (mIxV 2 (mC (.int 2))) (mC (.int 1))))))
  (mRet (mVal (mTup (mCons (mC (.str "room")) (mCons (mVar 1) mNil)))))
  mNx))))
theorem at0 {a b c : T} : atI [a, b, c] 0 = some a := rfl
theorem at1 {a b c : T} : atI [a, b, c] 1 = some b := rfl
theorem at2 {a b c : T} : atI [a, b, c] 2 = some c := rfl
theorem bt0 {a b : T} : atI [a, b] 0 = some a := rfl
theorem bt1 {a b : T} : atI [a, b] 1 = some b := rfl
theorem seq_set {i : Nat} {m : Mv} {rest : Ms} {e e1 : En} {r : RV} (h : m e = .ok r e1) : mSeq (mSet i m) rest e = rest (e1.set i (some r)) := by
  simp [mSeq, mSet, Res.bind, h]
theorem stepV {n : Int} {ls : List T} {l : T} {k : Nat} {x2 : Option RV} (hf : fit l = true) (hk : ls[k]? = some l) : bodyV [some (.val (.tuple [.int n, .tuple ls])), some (.val (.int (k : Nat))), x2] = (match lf n l with
    | .none => .ok .nx [some (.val (.tuple [.int n, .tuple ls])), some (.val (.int (k : Nat))), some (.val l)]
    | w => .ok (.rt (.val (.tuple [w, .int (k : Nat)]))) [some (.val (.tuple [.int n, .tuple ls])), some (.val (.int (k : Nat))), some (.val l)]) := by
  have h0 : m2 fIx (mIxV 0 (mC (.int 1))) (mVar 1) [some (.val (.tuple [.int n, .tuple ls])), some (.val (.int (k : Nat))), x2] = .ok (.val l) [some (.val (.tuple [.int n, .tuple ls])), some (.val (.int (k : Nat))), x2] := by
    simp [m2, mIxV, mC, mVar, Res.bind, peek, items, bt1, fIx, atI_nat hk, give]
  unfold bodyV
  rw [seq_set h0]
  simp only [List.set]
  rcases isTu_or 3 l with g | ⟨ts, rfl, g1, g⟩
  · rw [lf_no g]
    have hc : mOrT (mNotT (mTst (mIsi .tup (mVar 2)))) (mTst (mTree (m2 fNe (mLenV 2) (mC (.int 3))))) [some (.val (.tuple [.int n, .tuple ls])), some (.val (.int (k : Nat))), some (.val l)] = .ok true [some (.val (.tuple [.int n, .tuple ls])), some (.val (.int (k : Nat))), some (.val l)] := by
      cases l <;> first | rfl | cases hf | skip
      rename_i ts
      have g' : ¬ (ts.length : Int) = 3 := of_decide_eq_false g
      simp [runDef, List.replicate, mRet, mVal, mTree, mCall, mCons, mNil, mVar, mC, mSeq, mIfS, mNx, mNotT, mTst, mAndT, mOrT, mAndV, mOrV, mNotV, Res.bind, RV.tree, give, mAsg, gT, gN, gsCons, gsNil, mChainT, qLink, qLast, yes, asBool, m2, m1, mN, mTup, mSet, keepE, mIsi, isK, mLenV, peek, items, fNe, TL.same]
      simpa using g'
    exact seq_if_t hc (ret_eq (r := .val (.tuple [.str "shape", .int (k : Nat)])) rfl)
  · obtain ⟨a, b, c, rfl⟩ := three g1
    have hc : mOrT (mNotT (mTst (mIsi .tup (mVar 2)))) (mTst (mTree (m2 fNe (mLenV 2) (mC (.int 3))))) [some (.val (.tuple [.int n, .tuple ls])), some (.val (.int (k : Nat))), some (.val (.tuple [a, b, c]))] = .ok false [some (.val (.tuple [.int n, .tuple ls])), some (.val (.int (k : Nat))), some (.val (.tuple [a, b, c]))] := rfl
    rw [seq_if_f hc]
    obtain ⟨e1, q1⟩ := law_int_ok (fit_nd (fit_it hf (x := a) (by simp)))
    obtain ⟨e2, q2⟩ := law_int_ok (fit_nd (fit_it hf (x := b) (by simp)))
    obtain ⟨e3, q3⟩ := law_int_ok (fit_nd (fit_it hf (x := c) (by simp)))
    rcases isI_or a with g2 | ⟨i, rfl, g2⟩ <;> rw [g2] at q1
    · have ga : isN a = false := by cases a <;> first | rfl | cases g2
      simp [runDef, List.replicate, mRet, mVal, mTree, mCall, mCons, mNil, mVar, mC, mSeq, mIfS, mNx, mNotT, mTst, mAndT, mOrT, mAndV, mOrV, mNotV, Res.bind, RV.tree, give, mAsg, gT, gN, gsCons, gsNil, mChainT, qLink, qLast, yes, asBool, m2, m1, mN, mTup, mSet, keepE, lf, ga, q1, mIxV, peek, items, at0]
    rcases isI_or b with g3 | ⟨j, rfl, g3⟩ <;> rw [g3] at q2
    · have gb : isN b = false := by cases b <;> first | rfl | cases g3
      simp [runDef, List.replicate, mRet, mVal, mTree, mCall, mCons, mNil, mVar, mC, mSeq, mIfS, mNx, mNotT, mTst, mAndT, mOrT, mAndV, mOrV, mNotV, Res.bind, RV.tree, give, mAsg, gT, gN, gsCons, gsNil, mChainT, qLink, qLast, yes, asBool, m2, m1, mN, mTup, mSet, keepE, lf, gb, q1, q2, mIxV, peek, items, at0, at1]
    by_cases hi : 0 ≤ i
    · by_cases hij : i < j
      · have hj : 0 ≤ j := by omega
        by_cases hjn : j < n
        · rcases isI_or c with g4 | ⟨r, rfl, g4⟩ <;> rw [g4] at q3
          · have gc : isQ c = false := by cases c <;> first | rfl | cases g4
            simp [runDef, List.replicate, mRet, mVal, mTree, mCall, mCons, mNil, mVar, mC, mSeq, mIfS, mNx, mNotT, mTst, mAndT, mOrT, mAndV, mOrV, mNotV, Res.bind, RV.tree, give, mAsg, gT, gN, gsCons, gsNil, mChainT, qLink, qLast, yes, asBool, m2, m1, mN, mTup, mSet, keepE, lf, isN, gc, q1, q2, q3, mIxV, peek, items, at0, at1, at2, bt0, hi, hij, hj, hjn, gI, fCmp]
          · by_cases hr : 1 ≤ r
            · have hr' : ¬ r < 1 := by omega
              simp [runDef, List.replicate, mRet, mVal, mTree, mCall, mCons, mNil, mVar, mC, mSeq, mIfS, mNx, mNotT, mTst, mAndT, mOrT, mAndV, mOrV, mNotV, Res.bind, RV.tree, give, mAsg, gT, gN, gsCons, gsNil, mChainT, qLink, qLast, yes, asBool, m2, m1, mN, mTup, mSet, keepE, lf, isN, isQ, q1, q2, q3, mIxV, peek, items, at0, at1, at2, bt0, hi, hij, hj, hjn, gI, fCmp, hr, hr']
            · have hr' : r < 1 := by omega
              simp [runDef, List.replicate, mRet, mVal, mTree, mCall, mCons, mNil, mVar, mC, mSeq, mIfS, mNx, mNotT, mTst, mAndT, mOrT, mAndV, mOrV, mNotV, Res.bind, RV.tree, give, mAsg, gT, gN, gsCons, gsNil, mChainT, qLink, qLast, yes, asBool, m2, m1, mN, mTup, mSet, keepE, lf, isN, isQ, q1, q2, q3, mIxV, peek, items, at0, at1, at2, bt0, hi, hij, hj, hjn, gI, fCmp, hr, hr']
        · simp [runDef, List.replicate, mRet, mVal, mTree, mCall, mCons, mNil, mVar, mC, mSeq, mIfS, mNx, mNotT, mTst, mAndT, mOrT, mAndV, mOrV, mNotV, Res.bind, RV.tree, give, mAsg, gT, gN, gsCons, gsNil, mChainT, qLink, qLast, yes, asBool, m2, m1, mN, mTup, mSet, keepE, lf, isN, q1, q2, mIxV, peek, items, at0, at1, at2, bt0, hi, hij, hj, hjn, gI, fCmp]
      · simp [runDef, List.replicate, mRet, mVal, mTree, mCall, mCons, mNil, mVar, mC, mSeq, mIfS, mNx, mNotT, mTst, mAndT, mOrT, mAndV, mOrV, mNotV, Res.bind, RV.tree, give, mAsg, gT, gN, gsCons, gsNil, mChainT, qLink, qLast, yes, asBool, m2, m1, mN, mTup, mSet, keepE, lf, isN, q1, q2, mIxV, peek, items, at0, at1, at2, bt0, hi, hij, gI, fCmp]
    · simp [runDef, List.replicate, mRet, mVal, mTree, mCall, mCons, mNil, mVar, mC, mSeq, mIfS, mNx, mNotT, mTst, mAndT, mOrT, mAndV, mOrV, mNotV, Res.bind, RV.tree, give, mAsg, gT, gN, gsCons, gsNil, mChainT, qLink, qLast, yes, asBool, m2, m1, mN, mTup, mSet, keepE, lf, isN, q1, q2, mIxV, peek, items, at0, at1, at2, bt0, hi, gI, fCmp]
theorem loopV {n : Int} {ls : List T} (hf : fits ls = true) : ∀ (m k : Nat) (x1 x2 : Option RV), k + m = ls.length → ∃ e', mLoop (gN 1) bodyV (rngT (k : Int) m) [some (.val (.tuple [.int n, .tuple ls])), x1, x2] = (match wfl n k (ls.drop k) with
    | .none => .ok .nx e'
    | w => .ok (.rt (.val w)) e') ∧ ∃ y1 y2, e' = [some (.val (.tuple [.int n, .tuple ls])), y1, y2]
  | 0, k, x1, x2, hk => by
    rw [List.drop_eq_nil_of_le (by omega)]
    exact ⟨_, rfl, _, _, rfl⟩
  | m + 1, k, x1, x2, hk => by
    have hk2 : k < ls.length := by omega
    have hx : ls[k]? = some ls[k] := List.getElem?_eq_getElem hk2
    have fl := fits_mem hf _ (List.getElem_mem hk2)
    rw [rng_cons, List.drop_eq_getElem_cons hk2]
    unfold mLoop wfl
    simp only [gN, List.set]
    rw [stepV fl hx]
    rcases lf_or n ls[k] with h | ⟨s, h⟩ <;> rw [h]
    · obtain ⟨e', ih, ih2⟩ := loopV hf m (k + 1) (some (.val (.int (k : Int)))) (some (.val ls[k])) (by omega)
      exact ⟨e', by simpa using ih, ih2⟩
    · exact ⟨_, rfl, _, _, rfl⟩
def wd (t : T) : T := match wf t with
  | .none => match t with
    | .tuple [_, .tuple ls] => .tuple [.str "", .int (ls.length : Nat)]
    | _ => .none
  | w => w
theorem lines_no {n : Int} {b : T} (hb : ∀ ls, b ≠ .tuple ls) (fb : fit b = true) (g2 : isQ (.int n) = true)
    (c0 : mOrT (mNotT (mTst (mIsi .tup (mVar 0)))) (mTst (mTree (m2 fNe (mLenV 0) (mC (.int 2))))) [some (.val (.tuple [.int n, b])), none, none] = .ok false [some (.val (.tuple [.int n, b])), none, none])
    (c1 : mOrT (mNotT (mTst (mTree (mCall D__law_int (mCons (mIxV 0 (mC (.int 0))) mNil))))) (mTst (mTree (m2 fLt (mIxV 0 (mC (.int 0))) (mC (.int 1))))) [some (.val (.tuple [.int n, b])), none, none] = .ok false [some (.val (.tuple [.int n, b])), none, none]) :
    Is (D__law_word [.val (.tuple [.int n, b])]) (wd (.tuple [.int n, b])) := by
  have z2 : wd (.tuple [.int n, b]) = .tuple [.str "lines", .int (-1)] := by
    cases b <;> first | (exact absurd rfl (hb _)) | simp [wd, wf, g2]
  have c2 : mNotT (mTst (mIsi .tup (mIxV 0 (mC (.int 1))))) [some (.val (.tuple [.int n, b])), none, none] = .ok true [some (.val (.tuple [.int n, b])), none, none] := by
    cases b <;> first | (exact absurd rfl (hb _)) | rfl | cases fb
  rw [z2]
  exact run_body rfl ((seq_if_f c0).trans ((seq_if_f c1).trans (seq_if_t c2 (ret_eq (r := .val (.tuple [.str "lines", .int (-1)])) (e1 := [some (.val (.tuple [.int n, b])), none, none]) rfl))))
theorem word_ok {t : T} (h : fit t = true) : Is (D__law_word [.val t]) (wd t) := by
  have c0 : mOrT (mNotT (mTst (mIsi .tup (mVar 0)))) (mTst (mTree (m2 fNe (mLenV 0) (mC (.int 2))))) [some (.val t), none, none] = .ok (!isTu 2 t) [some (.val t), none, none] := by
    cases t <;> first | rfl | cases h
  rcases isTu_or 2 t with g | ⟨ts, rfl, g1, g⟩ <;> rw [g] at c0
  · have z : wd t = .tuple [.str "shape", .int (-1)] := by
      have z1 : wf t = .tuple [.str "shape", .int (-1)] := by
        unfold wf
        split
        · simp [isTu] at g
        · rfl
      unfold wd
      rw [z1]
    rw [z]
    exact run_body rfl (seq_if_t c0 (ret_eq rfl))
  · obtain ⟨a, b, rfl⟩ := two g1
    have fa := fit_it h (x := a) (by simp)
    have fb := fit_it h (x := b) (by simp)
    obtain ⟨e1, q1⟩ := law_int_ok (fit_nd fa)
    have c1 : mOrT (mNotT (mTst (mTree (mCall D__law_int (mCons (mIxV 0 (mC (.int 0))) mNil))))) (mTst (mTree (m2 fLt (mIxV 0 (mC (.int 0))) (mC (.int 1))))) [some (.val (.tuple [a, b])), none, none] = .ok (!isQ a) [some (.val (.tuple [a, b])), none, none] := by
      rcases isI_or a with g2 | ⟨i, rfl, g2⟩ <;> rw [g2] at q1
      · have ga : isQ a = false := by cases a <;> first | rfl | cases g2
        simp [runDef, List.replicate, mRet, mVal, mTree, mCall, mCons, mNil, mVar, mC, mSeq, mIfS, mNx, mNotT, mTst, mAndT, mOrT, mAndV, mOrV, mNotV, Res.bind, RV.tree, give, mAsg, gT, gN, gsCons, gsNil, mChainT, qLink, qLast, yes, asBool, m2, m1, mN, mTup, mSet, keepE, q1, mIxV, peek, items, bt0, ga]
      · simp [runDef, List.replicate, mRet, mVal, mTree, mCall, mCons, mNil, mVar, mC, mSeq, mIfS, mNx, mNotT, mTst, mAndT, mOrT, mAndV, mOrV, mNotV, Res.bind, RV.tree, give, mAsg, gT, gN, gsCons, gsNil, mChainT, qLink, qLast, yes, asBool, m2, m1, mN, mTup, mSet, keepE, q1, mIxV, peek, items, bt0, fCmp, isQ]
        by_cases hi : 1 ≤ i
        · simp [hi]
        · simp [hi]; omega
    rcases isQ_or a with g2 | ⟨n, rfl, h1, g2⟩ <;> rw [g2] at c1
    · have z : wd (.tuple [a, b]) = .tuple [.str "size", .int (-1)] := by simp [wd, wf, g2]
      rw [z]
      exact run_body rfl ((seq_if_f c0).trans (seq_if_t c1 (ret_eq rfl)))
    · cases b with
      | dict => cases fb
      | tuple ls =>
        have hl := (fit_tup fb).1
        have c2 : mNotT (mTst (mIsi .tup (mIxV 0 (mC (.int 1))))) [some (.val (.tuple [.int n, .tuple ls])), none, none] = .ok false [some (.val (.tuple [.int n, .tuple ls])), none, none] := rfl
        obtain ⟨e', hlp, y1, y2, rfl⟩ := loopV (n := n) (fit_tup fb).2 ls.length 0 none none (by omega)
        have hr : mRng (mCons (mTree (mN fLen (mCons (mIxV 0 (mC (.int 1))) mNil))) mNil) [some (.val (.tuple [.int n, .tuple ls])), none, none] = .ok (rngT 0 ls.length) [some (.val (.tuple [.int n, .tuple ls])), none, none] := by
          simp [mRng, mCons, mNil, mTree, mN, fLen, mIxV, peek, items, Res.bind, mC, bt1, give, RV.tree]
          omega
        have hf : mFor (mRng (mCons (mTree (mN fLen (mCons (mIxV 0 (mC (.int 1))) mNil))) mNil)) (gN 1) bodyV [some (.val (.tuple [.int n, .tuple ls])), none, none] = _ := (show mFor (mRng (mCons (mTree (mN fLen (mCons (mIxV 0 (mC (.int 1))) mNil))) mNil)) (gN 1) bodyV [some (.val (.tuple [.int n, .tuple ls])), none, none] = mLoop (gN 1) bodyV (rngT 0 ls.length) [some (.val (.tuple [.int n, .tuple ls])), none, none] by
          simp only [mFor, hr, Res.bind]).trans hlp
        rw [List.drop_zero] at hf
        have z : wf (.tuple [.int n, .tuple ls]) = wfl n 0 ls := by simp [wf, g2, gI]
        rcases wfl_or n ls 0 with w | ⟨s, i, w⟩ <;> rw [w] at hf z
        · have z2 : wd (.tuple [.int n, .tuple ls]) = .tuple [.str "", .int (ls.length : Nat)] := by simp [wd, z]
          rw [z2]
          refine run_body rfl ((seq_if_f c0).trans ((seq_if_f c1).trans ((seq_if_f c2).trans ((seq_nx hf).trans (ret_eq (e1 := [some (.val (.tuple [.int n, .tuple ls])), y1, y2]) ?_)))))
          simp [mVal, mTup, mCons, mNil, mC, mTree, mN, fLen, mIxV, peek, items, Res.bind, bt1, give, RV.tree]
        · have z2 : wd (.tuple [.int n, .tuple ls]) = .tuple [.str s, .int i] := by simp [wd, z]
          rw [z2]
          exact run_body rfl ((seq_if_f c0).trans ((seq_if_f c1).trans ((seq_if_f c2).trans (seq_rt hf))))
      | _ =>
        exact lines_no (by intro ls q; cases q) fb g2 c0 c1
end G
end
section
set_option Elab.async false
set_option linter.all false
set_option autoImplicit false
set_option maxRecDepth 100000
set_option maxHeartbeats 1000000
namespace G
open PySem PySem.Spec PyProof.Rows L2 TL
theorem lf_or2 (n : Int) (t : T) : lf n t = .none ∨ ∃ s, lf n t = .str s ∧ s ≠ "" := by
  unfold lf
  split
  · split
    · split
      · exact .inl rfl
      · exact .inr ⟨_, rfl, by decide +kernel⟩
    · exact .inr ⟨_, rfl, by decide +kernel⟩
  · exact .inr ⟨_, rfl, by decide +kernel⟩
theorem wfl_or2 (n : Int) : ∀ (ls : List T) (k : Nat), wfl n k ls = .none ∨ ∃ s i, wfl n k ls = .tuple [.str s, .int i] ∧ s ≠ ""
  | [], _ => .inl rfl
  | l :: ls, k => by
    unfold wfl
    rcases lf_or2 n l with h | ⟨s, h, hs⟩ <;> rw [h]
    · exact wfl_or2 n ls (k + 1)
    · exact .inr ⟨s, _, rfl, hs⟩
theorem wf_or2 (t : T) : wf t = .none ∨ ∃ s i, wf t = .tuple [.str s, .int i] ∧ s ≠ "" := by
  unfold wf
  split
  · split
    · split
      · exact wfl_or2 _ _ _
      · exact .inr ⟨_, _, rfl, by decide +kernel⟩
    · exact .inr ⟨_, _, rfl, by decide +kernel⟩
  · exact .inr ⟨_, _, rfl, by decide +kernel⟩
theorem callV2 {D : DF} {m n : Mt} {e e1 e2 : En} {t s u : T} (hm : m e = .ok t e1) (hn : n e1 = .ok s e2) (h : Is (D [.val t, .val s]) u) : mCall D (mCons m (mCons n mNil)) e = .ok (.val u) e2 := by
  obtain ⟨e3, h⟩ := h
  simp [mCall, mCons, mNil, Res.bind, hm, hn, h]
theorem callV1 {D : DF} {m : Mt} {e e1 : En} {t u : T} (hm : m e = .ok t e1) (h : Is (D [.val t]) u) : mCall D (mCons m mNil) e = .ok (.val u) e1 := by
  obtain ⟨e3, h⟩ := h
  simp [mCall, mCons, mNil, Res.bind, hm, h]
theorem callV3 {D : DF} {m n k : Mt} {e e1 e2 e3 : En} {t s r u : T} (hm : m e = .ok t e1) (hn : n e1 = .ok s e2) (hk : k e2 = .ok r e3) (h : Is (D [.val t, .val s, .val r]) u) : mCall D (mCons m (mCons n (mCons k mNil))) e = .ok (.val u) e3 := by
  obtain ⟨e4, h⟩ := h
  simp [mCall, mCons, mNil, Res.bind, hm, hn, hk, h]
theorem checked_ok {t : T} {b : Bool} (h : fit t = true) : Is (D__law_checked [.val t, .val (.bool b)]) (.bool true) := by
  have c0 : mCall D__law_word (mCons (mVar 0) mNil) [some (.val t), some (.val (.bool b)), none] = .ok (.val (wd t)) [some (.val t), some (.val (.bool b)), none] := callV1 rfl (word_ok h)
  have ch := call2 (m := mVar 0) (n := mVar 1) (e := [some (.val t), some (.val (.bool b)), some (.val (wd t))]) rfl rfl (heard_ok (b := b) h)
  rcases wf_or2 t with w | ⟨s, i, w, hs⟩
  · obtain ⟨n, ls, rfl, h1, _⟩ := wf_none w
    have z1 : wd (.tuple [.int n, .tuple ls]) = .tuple [.str "", .int (ls.length : Nat)] := by simp [wd, w]
    have z2 : hd (.tuple [.int n, .tuple ls]) = .tuple [.str "yes", .int (ls.length : Nat)] := by simp [hd, w]
    rw [z1] at c0 ch
    rw [z2] at ch
    refine run_body rfl ((seq_set c0).trans (seq_if_t (e1 := [some (.val (.tuple [.int n, .tuple ls])), some (.val (.bool b)), some (.val (.tuple [.str "", .int (ls.length : Nat)]))]) ?_ (ret_eq (callV2 ch (n := mTup (mCons (mC (.str "yes")) (mCons (mIxV 2 (mC (.int 1))) mNil))) (s := .tuple [.str "yes", .int (ls.length : Nat)]) rfl (sameT (by simp) (by simp [flat1]))))))
    simp [runDef, List.replicate, mRet, mVal, mTree, mCall, mCons, mNil, mVar, mC, mSeq, mIfS, mNx, mNotT, mTst, mAndT, mOrT, mAndV, mOrV, mNotV, Res.bind, RV.tree, give, mAsg, gT, gN, gsCons, gsNil, mChainT, qLink, qLast, yes, asBool, m2, m1, mN, mTup, mSet, keepE, mIxV, peek, items, bt0, fEq, TL.same]
  · have z1 : wd t = .tuple [.str s, .int i] := by simp [wd, w]
    have z2 : hd t = .tuple [.str "no", .str s, .int i, .bool true] := by simp [hd, w]
    rw [z1] at c0 ch
    rw [z2] at ch
    refine run_body rfl ((seq_set c0).trans ((seq_if_f (e1 := [some (.val t), some (.val (.bool b)), some (.val (.tuple [.str s, .int i]))]) ?_).trans (ret_eq (callV2 ch (n := mTup (mCons (mC (.str "no")) (mCons (mIxV 2 (mC (.int 0))) (mCons (mIxV 2 (mC (.int 1))) (mCons (mC (.bool true)) mNil))))) (s := .tuple [.str "no", .str s, .int i, .bool true]) rfl (sameT (by simp) (by simp [flat1]))))))
    simp [runDef, List.replicate, mRet, mVal, mTree, mCall, mCons, mNil, mVar, mC, mSeq, mIfS, mNx, mNotT, mTst, mAndT, mOrT, mAndV, mOrV, mNotV, Res.bind, RV.tree, give, mAsg, gT, gN, gsCons, gsNil, mChainT, qLink, qLast, yes, asBool, m2, m1, mN, mTup, mSet, keepE, mIxV, peek, items, bt0, fEq, TL.same, hs]
/-! ### numbers -/
def isNs : T → Bool
  | .tuple ts => ts.all isN
  | _ => false
theorem numbers_ok {t : T} (h : nd1 t) : Is (D__law_numbers [.val t]) (.bool (isNs t)) := by
  cases t with
  | dict => cases h.1
  | tuple ts =>
    obtain ⟨hl, hx⟩ := h.2 _ rfl
    have q := comp_eq (mi := mSeq1 (mVar 0)) (g := gN 1) (vs := [1]) (tt := mAndT (mTst (mTree (mCall D__law_int (mCons (mVar 1) mNil)))) (mTst (mTree (m2 fGe (mVar 1) (mC (.int 0)))))) (te := mVar 1) (f := fun x => x) (p := isN)
      (e := [some (.val (.tuple ts)), none]) (e1 := [some (.val (.tuple ts)), none]) (ts := ts) rfl hl fun x hm => by
        obtain ⟨e0, q0⟩ := law_int_ok (hx x hm)
        refine ⟨_, [some (.val (.tuple ts)), some (.val x)], rfl, ?_, fun _ => ⟨_, rfl, rfl⟩, fun _ => rfl⟩
        rcases isI_or x with g | ⟨i, rfl, g⟩ <;> rw [g] at q0
        · have gx : isN x = false := by cases x <;> first | rfl | cases g
          simp [runDef, List.replicate, mRet, mVal, mTree, mCall, mCons, mNil, mVar, mC, mSeq, mIfS, mNx, mNotT, mTst, mAndT, mOrT, mAndV, mOrV, mNotV, Res.bind, RV.tree, give, mAsg, gT, gN, gsCons, gsNil, mChainT, qLink, qLast, yes, asBool, m2, m1, mN, mTup, mSet, keepE, q0, gx, wipeE]
        · (simp [runDef, List.replicate, mRet, mVal, mTree, mCall, mCons, mNil, mVar, mC, mSeq, mIfS, mNx, mNotT, mTst, mAndT, mOrT, mAndV, mOrV, mNotV, Res.bind, RV.tree, give, mAsg, gT, gN, gsCons, gsNil, mChainT, qLink, qLast, yes, asBool, m2, m1, mN, mTup, mSet, keepE, q0, isN, wipeE, fCmp]; try rfl)
    have hc : mTree (m2 fEq (mTree (mN fLen (mCons (mTree (mComp (mSeq1 (mVar 0)) (gN 1) (mAndT (mTst (mTree (mCall D__law_int (mCons (mVar 1) mNil)))) (mTst (mTree (m2 fGe (mVar 1) (mC (.int 0)))))) (mVar 1) [1])) mNil))) (mLenV 0)) [some (.val (.tuple ts)), none] = .ok (.bool (isNs (.tuple ts))) [some (.val (.tuple ts)), none] := by
      simp only [mTree, m2, mN, mCons, mNil, q, Res.bind, RV.tree, give, fLen, items, Option.map]
      simp [mLenV, backE, wipeE, peek, items, fEq, TL.same, isNs]
      rw [Bool.eq_iff_iff, decide_eq_true_iff, List.all_eq_true]
      constructor
      · intro z
        exact List.length_filter_eq_length_iff.mp (by omega)
      · intro hall
        rw [List.filter_eq_self.mpr hall]
    exact run_ret rfl ((and_t rfl).trans hc)
  | _ => exact ⟨_, rfl⟩
end G
end
section
set_option Elab.async false
set_option linter.all false
set_option autoImplicit false
set_option maxRecDepth 100000
set_option maxHeartbeats 1000000
namespace G
open PySem PySem.Spec PyProof.Rows L2 TL
def tn (ns : List Nat) : List T := ns.map fun k => .int (k : Nat)
theorem isNs_nat : ∀ {ts : List T}, ts.all isN = true → ∃ ns, ts = tn ns
  | [], _ => ⟨[], rfl⟩
  | t :: ts, h => by
    rw [List.all_cons, Bool.and_eq_true] at h
    obtain ⟨ns, rfl⟩ := isNs_nat h.2
    rcases isN_or t with g | ⟨i, rfl, h1, _⟩
    · rw [g] at h; cases h.1
    · exact ⟨i.toNat :: ns, by simp [tn, Int.toNat_of_nonneg h1]⟩
theorem all_tn (ns : List Nat) : (tn ns).all isN = true := by
  simp [tn, isN]
theorem tn_inj {a b : List Nat} (h : tn a = tn b) : a = b := by
  induction a generalizing b with
  | nil => cases b with
    | nil => rfl
    | cons => cases h
  | cons x a ih => cases b with
    | nil => cases h
    | cons y b =>
      simp only [tn, List.map_cons, List.cons.injEq, PyData.int.injEq] at h
      rw [ih h.2, show x = y by omega]
theorem eqvAll_tn : ∀ a b : List Nat, PyData.eqvAll (tn a) (tn b) = decide (a = b)
  | [], [] => by simp [tn, PyData.eqvAll]
  | [], _ :: _ => by simp [tn, PyData.eqvAll]
  | _ :: _, [] => by simp [tn, PyData.eqvAll]
  | x :: a, y :: b => by
    have ih := eqvAll_tn a b
    unfold tn at ih
    simp only [tn, List.map_cons, PyData.eqvAll, PyData.eqv, ih]
    by_cases hxy : x = y
    · subst hxy; simp
    · simp [hxy]
      intro h
      omega
theorem noDicts_tn : ∀ a : List Nat, noDicts (tn a) = true
  | [] => rfl
  | _ :: a => by
    have := noDicts_tn a
    show (true && noDicts (tn a)) = true
    rw [this]; rfl
theorem canLay_tn : ∀ a : List Nat, PyData.canLayAll0 (tn a) = true
  | [] => by simp [tn, PyData.canLayAll0]
  | _ :: a => by
    have := canLay_tn a
    unfold tn at this
    simp [tn, PyData.canLayAll0, PyData.canLay0, this]
theorem depth_tn : ∀ a : List Nat, PyData.depthAll (tn a) = 0
  | [] => by simp [tn, PyData.depthAll]
  | _ :: a => by
    have := depth_tn a
    unfold tn at this
    simp [tn, PyData.depthAll, PyData.depth, this]
theorem shaped_tn (a : List Nat) : SeqAt.shaped (.tuple (tn a)) = true := by
  unfold SeqAt.shaped
  simp [PyData.canLay0, canLay_tn, PyData.depth, depth_tn]
theorem same_tn (a b : List Nat) : TL.same (.tuple (tn a)) (.tuple (tn b)) = some (decide (a = b)) := by
  have h1 : ∀ a, noDict (.tuple (tn a)) = true := fun a => noDicts_tn a
  simp only [TL.same, h1, shaped_tn, Bool.and_self, if_true, PyData.eqv, eqvAll_tn]
/-! ### the lot -/
def ascN : List Nat → Bool
  | [] => true
  | [_] => true
  | a :: b :: r => decide (a < b) && ascN (b :: r)
theorem asc_tn : ∀ ns : List Nat, asc (tn ns) = ascN ns
  | [] => rfl
  | [_] => rfl
  | a :: b :: r => by
    have ih := asc_tn (b :: r)
    unfold asc tn at ih ⊢
    simp only [List.map_cons, List.drop_succ_cons, List.drop_zero, List.zip_cons_cons, List.all_cons, gI, ascN] at ih ⊢
    rw [ih]
    congr 1
    exact decide_eq_decide.mpr (by omega)
theorem ascN_head : ∀ {r : List Nat} {a : Nat}, ascN (a :: r) = true → ascN r = true ∧ ∀ x ∈ r, a < x
  | [], _, _ => ⟨rfl, by simp⟩
  | b :: r, a, h => by
    have h' : (decide (a < b) && ascN (b :: r)) = true := h
    rw [Bool.and_eq_true] at h'
    have hab : a < b := of_decide_eq_true h'.1
    obtain ⟨_, ih⟩ := ascN_head h'.2
    refine ⟨h'.2, fun x hx => ?_⟩
    rcases List.mem_cons.mp hx with rfl | hx
    · exact hab
    · exact Nat.lt_trans hab (ih x hx)
theorem ascN_of : ∀ {r : List Nat}, r.Pairwise (· < ·) → ascN r = true
  | [], _ => rfl
  | [_], _ => rfl
  | a :: b :: r, h => by
    rw [List.pairwise_cons] at h
    show (decide (a < b) && ascN (b :: r)) = true
    rw [ascN_of h.2, decide_eq_true (h.1 b (by simp))]
    rfl
theorem sieve : ∀ (k a : Nat) (ns : List Nat), ascN ns = true → (∀ x ∈ ns, a ≤ x ∧ x < a + k) → (List.range' a k).filter (fun i => decide (i ∈ ns)) = ns
  | 0, a, ns, _, h => by
    cases ns with
    | nil => rfl
    | cons x r => have := h x (by simp); omega
  | k + 1, a, ns, hs, h => by
    rw [List.range'_succ]
    cases ns with
    | nil => simp
    | cons x r =>
      obtain ⟨h1, h2⟩ := ascN_head hs
      have hx := h x (by simp)
      by_cases hax : a = x
      · subst hax
        rw [List.filter_cons_of_pos (by simp)]
        congr 1
        rw [← sieve k (a + 1) r h1 fun y hy => ⟨h2 y hy, by have := (h y (by simp [hy])).2; omega⟩]
        refine List.filter_congr fun i hi => ?_
        rw [List.mem_range'_1] at hi
        have : ¬ i = a := by omega
        rw [sieve k (a + 1) r h1 fun y hy => ⟨h2 y hy, by have := (h y (by simp [hy])).2; omega⟩]
        simp [this]
      · have hn : ¬ a ∈ x :: r := fun z => by
          rcases List.mem_cons.mp z with z | z
          · exact hax z
          · have := h2 a z; omega
        rw [List.filter_cons_of_neg (by simpa using hn)]
        exact sieve k (a + 1) (x :: r) hs fun y hy => by
          have := h y hy
          refine ⟨?_, by omega⟩
          rcases List.mem_cons.mp hy with rfl | z
          · omega
          · have := h2 y z; omega
theorem lot_eq (ns : List Nat) (m : Nat) : decide (ns = (List.range m).filter (fun i => decide (i ∈ ns))) = isL (m : Int) (.tuple (tn ns)) := by
  have hL : isL (m : Int) (.tuple (tn ns)) = (ns.all (fun x => decide (x < m)) && ascN ns) := by
    unfold isL isB
    dsimp only
    rw [asc_tn]
    congr 1
    unfold tn
    rw [List.all_map]
    refine List.all_congr rfl fun x => ?_
    simp [isN, gI, Function.comp]
  rw [hL, Bool.eq_iff_iff, decide_eq_true_iff, Bool.and_eq_true, List.all_eq_true]
  constructor
  · intro h
    have hm : ∀ x ∈ ns, x < m := fun x hx => by
      rw [h] at hx
      exact List.mem_range.mp (List.mem_filter.mp hx).1
    refine ⟨fun x hx => decide_eq_true (hm x hx), ?_⟩
    rw [h]
    exact ascN_of (List.Pairwise.filter _ List.pairwise_lt_range)
  · rintro ⟨h1, h2⟩
    have := sieve m 0 ns h2 fun x hx => ⟨Nat.zero_le _, by have := of_decide_eq_true (h1 x hx); omega⟩
    rw [List.range_eq_range']
    exact this.symm
end G
end
section
set_option Elab.async false
set_option linter.all false
set_option autoImplicit false
set_option maxRecDepth 100000
set_option maxHeartbeats 1000000
namespace G
open PySem PySem.Spec PyProof.Rows L2 TL
theorem get_tn {ns : List Nat} {k x : Nat} (h : ns[k]? = some x) : (tn ns)[k]? = some (.int (x : Nat)) := by
  unfold tn
  rw [List.getElem?_map, h]
  rfl
theorem get_tn' {ns : List Nat} {k : Nat} {t : T} (h : (tn ns)[k]? = some t) : ∃ x, ns[k]? = some x ∧ t = .int (x : Nat) := by
  unfold tn at h
  rw [List.getElem?_map] at h
  cases hx : ns[k]? with
  | none => rw [hx] at h; cases h
  | some x =>
    rw [hx] at h
    cases h
    exact ⟨x, rfl, rfl⟩
theorem flat_tn (ns : List Nat) : (tn ns).all flatT = true := by
  simp [tn, flatT]
/-- the first place of x, and nothing before it -/
theorem idx_tn : ∀ (ns : List Nat) (n k x : Nat), ns[k]? = some x → ∃ i, idxT (.int (x : Nat)) n (tn ns) = some (n + i) ∧ ns[i]? = some x ∧ i ≤ k
  | [], _, _, _, h => by simp at h
  | y :: r, n, k, x, h => by
    by_cases hxy : y = x
    · subst hxy
      exact ⟨0, by simp [tn, idxT, TL.eqT], rfl, Nat.zero_le _⟩
    · cases k with
      | zero =>
        simp at h
        exact absurd h hxy
      | succ k =>
        simp only [List.getElem?_cons_succ] at h
        obtain ⟨i, h1, h2, h3⟩ := idx_tn r (n + 1) k x h
        refine ⟨i + 1, ?_, by simpa using h2, by omega⟩
        have : ¬ ((y : Int) = (x : Int)) := by omega
        simp only [tn, List.map_cons, idxT, TL.eqT, beq_iff_eq, this, if_false]
        unfold tn at h1
        rw [h1]
        congr 1
        omega
def fst (ns : List Nat) (x : Nat) : Nat := ((idxT (.int (x : Nat)) 0 (tn ns)).getD 0)
theorem fst_ok {ns : List Nat} {k x : Nat} (h : ns[k]? = some x) : idxT (.int (x : Nat)) 0 (tn ns) = some (fst ns x) ∧ ns[fst ns x]? = some x ∧ ∀ j, ns[j]? = some x → fst ns x ≤ j := by
  obtain ⟨i, h1, h2, h3⟩ := idx_tn ns 0 k x h
  have e : fst ns x = i := by
    unfold fst
    rw [h1]
    simp
  rw [e]
  refine ⟨by rw [h1]; simp, h2, fun j hj => ?_⟩
  obtain ⟨i', h1', h2', h3'⟩ := idx_tn ns 0 j x hj
  rw [h1] at h1'
  have : 0 + i = 0 + i' := Option.some.inj h1'
  omega
theorem join_eq (ns : List Nat) : decide (((List.range ns.length).filter fun k => !decide (fst ns (ns.getD k 0) = ns.getD k 0)).length = 0) = isJ (ns.length : Int) (.tuple (tn ns)) := by
  have hJ : isJ (ns.length : Int) (.tuple (tn ns)) = (ns.all (fun x => decide (x < ns.length)) && joinL (tn ns)) := by
    unfold isJ isB isTu
    dsimp only
    have e1 : decide (((tn ns).length : Int) = (ns.length : Int)) = true := decide_eq_true (by simp [tn])
    rw [e1, Bool.true_and]
    congr 1
    unfold tn
    rw [List.all_map]
    refine List.all_congr rfl fun x => ?_
    simp [isN, gI, Function.comp]
  have gd : ∀ {k x : Nat}, ns[k]? = some x → ns.getD k 0 = x := fun h => by
    rw [List.getD_eq_getElem?_getD, h]; rfl
  rw [hJ, Bool.eq_iff_iff, decide_eq_true_iff, Bool.and_eq_true, List.all_eq_true]
  rw [List.length_eq_zero_iff, List.filter_eq_nil_iff]
  constructor
  · intro h
    have key : ∀ k x, ns[k]? = some x → fst ns x = x := fun k x hx => by
      have hk : k < ns.length := by
        rcases Nat.lt_or_ge k ns.length with z | z
        · exact z
        · rw [List.getElem?_eq_none z] at hx; cases hx
      have z := h k (List.mem_range.mpr hk)
      rw [gd hx] at z
      simpa using z
    have lt : ∀ x ∈ ns, x < ns.length := fun x hx => by
      obtain ⟨k, hk⟩ := List.getElem?_of_mem hx
      obtain ⟨_, h2, _⟩ := fst_ok hk
      rw [key k x hk] at h2
      rcases Nat.lt_or_ge x ns.length with z | z
      · exact z
      · rw [List.getElem?_eq_none z] at h2; cases h2
    refine ⟨fun x hx => decide_eq_true (lt x hx), ?_⟩
    unfold joinL
    rw [List.all_eq_true]
    rintro ⟨t, k⟩ hm
    have hm' := List.mem_zipIdx_iff_getElem?.mp hm
    simp only at hm'
    obtain ⟨x, hx, rfl⟩ := get_tn' hm'
    obtain ⟨_, h2, h3⟩ := fst_ok hx
    rw [key k x hx] at h2 h3
    have h4 := h3 k hx
    simp only [gI, atI_nat (get_tn h2), Option.getD_some]
    simp
    exact h4
  · rintro ⟨h1, h2⟩ k hk
    have hk' := List.mem_range.mp hk
    have hx : ns[k]? = some ns[k] := List.getElem?_eq_getElem hk'
    rw [gd hx]
    have J : ∀ j y, ns[j]? = some y → y ≤ j ∧ ns[y]? = some y := fun j y hy => by
      unfold joinL at h2
      rw [List.all_eq_true] at h2
      have z := h2 (.int (y : Nat), j) (List.mem_zipIdx_iff_getElem?.mpr (get_tn hy))
      rw [Bool.and_eq_true] at z
      have z1 : (y : Int) ≤ (j : Int) := of_decide_eq_true z.1
      have z2 : gI ((atI (tn ns) (y : Int)).getD .none) = (y : Int) := of_decide_eq_true z.2
      have hl : y < ns.length := of_decide_eq_true (h1 y (List.mem_of_getElem? hy))
      have hy2 : ns[y]? = some ns[y] := List.getElem?_eq_getElem hl
      rw [atI_nat (get_tn hy2)] at z2
      have z3 : ((ns[y] : Nat) : Int) = (y : Int) := z2
      refine ⟨by omega, ?_⟩
      rw [hy2]
      congr 1
      omega
    obtain ⟨_, f2, f3⟩ := fst_ok hx
    obtain ⟨a1, a2⟩ := J _ _ f2
    have := f3 _ a2
    have e : fst ns ns[k] = ns[k] := by omega
    rw [e]
    simp
end G
end
section
set_option Elab.async false
set_option linter.all false
set_option autoImplicit false
set_option maxRecDepth 100000
set_option maxHeartbeats 1000000
namespace G
open PySem PySem.Spec PyProof.Rows L2 TL
def euc : Nat → Nat → Nat → Nat
  | 0, l, _ => l
  | f + 1, l, r => if r = 0 then l else euc f r (l % r)
theorem euc_zero : ∀ f l, euc f l 0 = l
  | 0, _ => rfl
  | f + 1, l => by simp [euc]
theorem euc_gcd : ∀ (k l r : Nat), r < 2 ^ k → euc (2 * k) l r = Nat.gcd l r
  | 0, l, r, h => by
    have : r = 0 := by simpa using h
    subst this
    simp [euc]
  | k + 1, l, r, h => by
    show euc (2 * k + 1 + 1) l r = _
    unfold euc
    by_cases hr : r = 0
    · subst hr; simp
    · rw [if_neg hr]
      unfold euc
      by_cases hs : l % r = 0
      · rw [if_pos hs, Nat.gcd_comm, Nat.gcd_rec, hs]
        simp
      · rw [if_neg hs]
        have h1 : l % r < r := Nat.mod_lt _ (by omega)
        have h2 : r % (l % r) < l % r := Nat.mod_lt _ (by omega)
        have h3 : r % (l % r) + (l % r) ≤ r := by
          have := Nat.div_add_mod r (l % r)
          have q : 1 ≤ r / (l % r) := Nat.div_pos (by omega) (by omega)
          have : (l % r) * 1 ≤ (l % r) * (r / (l % r)) := Nat.mul_le_mul_left _ q
          omega
        rw [euc_gcd k _ _ (by rw [Nat.pow_succ] at h; omega)]
        rw [Nat.gcd_comm l r, Nat.gcd_rec r l, Nat.gcd_rec (l % r) r, Nat.gcd_comm]
def bodyE : Ms := (mSeq (mIfS (mTst (mTree (m2 fEq (mVar 2) (mC (.int 0)))))
  (fun e => .ok .bk e)
  mNx)
  (mSeq (mSet 4 (m2 fSub (mVar 1) (mTree (m2 fMul (mTree (m2 fDiv (mVar 1) (mVar 2))) (mVar 2)))))
  (mSeq (mSet 1 (mVal (mVar 2)))
  (mSet 2 (mVal (mVar 4))))))
theorem small_of {n : Nat} (h : n < 2 ^ 8000) : small (n : Int) = true := by
  unfold small
  rw [decide_eq_true_iff, Int.natAbs_natCast]
  by_cases h0 : n = 0
  · subst h0; decide
  · exact (Nat.log2_lt h0).mpr h
theorem stepE {t : T} {l r : Nat} {x3 x4 : Option RV} (hl : l < 2 ^ 8000) (hr : r < 2 ^ 8000) (h0 : r ≠ 0) : bodyE [some (.val t), some (.val (.int (l : Nat))), some (.val (.int (r : Nat))), x3, x4] = .ok .nx [some (.val t), some (.val (.int (r : Nat))), some (.val (.int (l % r : Nat))), x3, some (.val (.int (l % r : Nat)))] := by
  have e1 : small ((l : Int) / (r : Int)) = true := by
    rw [← Int.natCast_ediv]
    exact small_of (Nat.lt_of_le_of_lt (Nat.div_le_self _ _) hl)
  have e2 : (l : Int) - (l : Int) / (r : Int) * (r : Int) = ((l % r : Nat) : Int) := by
    rw [Int.natCast_emod, Int.emod_def, Int.mul_comm]
  have e3 := small_of hr
  have e4 : ¬ ((r : Int) = 0) := by omega
  have e5 : 0 < r := by omega
  have hc : mTst (mTree (m2 fEq (mVar 2) (mC (.int 0)))) [some (.val t), some (.val (.int (l : Nat))), some (.val (.int (r : Nat))), x3, x4] = .ok false [some (.val t), some (.val (.int (l : Nat))), some (.val (.int (r : Nat))), x3, x4] := by
    simp [runDef, List.replicate, mRet, mVal, mTree, mCall, mCons, mNil, mVar, mC, mSeq, mIfS, mNx, mNotT, mTst, mAndT, mOrT, mAndV, mOrV, mNotV, Res.bind, RV.tree, give, mAsg, gT, gN, gsCons, gsNil, mChainT, qLink, qLast, yes, asBool, m2, m1, mN, mTup, mSet, keepE, fEq, TL.same, h0]
  have h1 : m2 fSub (mVar 1) (mTree (m2 fMul (mTree (m2 fDiv (mVar 1) (mVar 2))) (mVar 2))) [some (.val t), some (.val (.int (l : Nat))), some (.val (.int (r : Nat))), x3, x4] = .ok (.val (.int (l % r : Nat))) [some (.val t), some (.val (.int (l : Nat))), some (.val (.int (r : Nat))), x3, x4] := by
    simp [m2, mVar, mTree, Res.bind, give, RV.tree, fSub, fMul, fDiv, e1, e3, e5, e2]
  unfold bodyE
  rw [seq_if_f hc, seq_set h1]
  rfl
theorem loopE {t : T} : ∀ (f lo l r : Nat) (x3 x4 : Option RV), l < 2 ^ 8000 → r < 2 ^ 8000 → ∃ x2 y3 y4, mLoop (gN 3) bodyE (rngT (lo : Int) f) [some (.val t), some (.val (.int (l : Nat))), some (.val (.int (r : Nat))), x3, x4] = .ok .nx [some (.val t), some (.val (.int (euc f l r : Nat))), x2, y3, y4]
  | 0, lo, l, r, x3, x4, _, _ => ⟨_, _, _, rfl⟩
  | f + 1, lo, l, r, x3, x4, hl, hr => by
    rw [rng_cons]
    by_cases h0 : r = 0
    · subst h0
      refine ⟨some (.val (.int 0)), some (.val (.int (lo : Int))), x4, ?_⟩
      rw [show euc (f + 1) l 0 = l from euc_zero _ _]
      rfl
    · have hm : l % r < 2 ^ 8000 := Nat.lt_of_lt_of_le (Nat.mod_lt _ (by omega)) (Nat.le_of_lt hr)
      obtain ⟨x2, y3, y4, ih⟩ := loopE f (lo + 1) r (l % r) (some (.val (.int (lo : Int)))) (some (.val (.int (l % r : Nat)))) hr hm
      refine ⟨x2, y3, y4, ?_⟩
      unfold mLoop
      simp only [gN, List.set]
      rw [stepE hl hr h0, show euc (f + 1) l r = euc f r (l % r) by simp [euc, h0]]
      simpa using ih
def isII : T → Bool
  | .tuple [a, b] => isI a && isI b
  | _ => false
theorem isII_no {t : T} (h : isTu 2 t = false) : isII t = false := by
  unfold isII
  split
  · simp [isTu] at h
  · rfl
theorem isII_no2 {t : T} (hs : ¬ ∃ a b : Int, t = .tuple [.int a, .int b]) : isII t = false := by
  unfold isII
  split
  · rename_i a b
    rcases isI_or a with g2 | ⟨i, rfl, g2⟩
    · rw [g2]; rfl
    · rcases isI_or b with g3 | ⟨j, rfl, g3⟩
      · rw [g3]; simp
      · exact absurd ⟨i, j, rfl⟩ hs
  · rfl
def okQ (t : T) : Prop := ∀ a b : Int, t = .tuple [.int a, .int b] → a.natAbs < 2 ^ 200 ∧ b.natAbs < 2 ^ 8000
theorem lowest_ok {t : T} (h : nd1 t) (hq : okQ t) : Is (D__law_lowest [.val t]) (.bool (isQu t)) := by
  have c0 : mOrT (mNotT (mTst (mIsi .tup (mVar 0)))) (mOrT (mTst (mTree (m2 fNe (mLenV 0) (mC (.int 2))))) (mOrT (mNotT (mTst (mTree (mCall D__law_int (mCons (mIxV 0 (mC (.int 0))) mNil))))) (mNotT (mTst (mTree (mCall D__law_int (mCons (mIxV 0 (mC (.int 1))) mNil))))))) [some (.val t), none, none, none, none]
      = .ok (!isII t) [some (.val t), none, none, none, none] := by
    rcases isTu_or 2 t with g | ⟨ts, rfl, g1, g⟩
    · rw [isII_no g]
      cases t <;> first | rfl | cases h.1 | skip
      rename_i ts
      have g' : ¬ (ts.length : Int) = 2 := of_decide_eq_false g
      have g'' : ¬ ts.length = 2 := by omega
      simp [runDef, List.replicate, mRet, mVal, mTree, mCall, mCons, mNil, mVar, mC, mSeq, mIfS, mNx, mNotT, mTst, mAndT, mOrT, mAndV, mOrV, mNotV, Res.bind, RV.tree, give, mAsg, gT, gN, gsCons, gsNil, mChainT, qLink, qLast, yes, asBool, m2, m1, mN, mTup, mSet, keepE, mIsi, isK, mLenV, peek, items, fNe, TL.same, g', g'']
    · obtain ⟨a, b, rfl⟩ := two g1
      obtain ⟨hl, hx⟩ := h.2 _ rfl
      obtain ⟨e1, q1⟩ := law_int_ok (hx a (by simp))
      obtain ⟨e2, q2⟩ := law_int_ok (hx b (by simp))
      rcases isI_or a with g2 | ⟨i, rfl, g2⟩ <;> rw [g2] at q1
      · simp [runDef, List.replicate, mRet, mVal, mTree, mCall, mCons, mNil, mVar, mC, mSeq, mIfS, mNx, mNotT, mTst, mAndT, mOrT, mAndV, mOrV, mNotV, Res.bind, RV.tree, give, mAsg, gT, gN, gsCons, gsNil, mChainT, qLink, qLast, yes, asBool, m2, m1, mN, mTup, mSet, keepE, mIsi, isK, mLenV, peek, items, fNe, TL.same, mIxV, bt0, bt1, q1, g2, isII]
      · rcases isI_or b with g3 | ⟨j, rfl, g3⟩ <;> rw [g3] at q2 <;> simp [runDef, List.replicate, mRet, mVal, mTree, mCall, mCons, mNil, mVar, mC, mSeq, mIfS, mNx, mNotT, mTst, mAndT, mOrT, mAndV, mOrV, mNotV, Res.bind, RV.tree, give, mAsg, gT, gN, gsCons, gsNil, mChainT, qLink, qLast, yes, asBool, m2, m1, mN, mTup, mSet, keepE, mIsi, isK, mLenV, peek, items, fNe, TL.same, mIxV, bt0, bt1, q1, q2, g2, g3, isII]
  by_cases hs : ∃ a b : Int, t = .tuple [.int a, .int b]
  · obtain ⟨a, b, rfl⟩ := hs
    obtain ⟨ha, hb⟩ := hq a b rfl
    have c0' : mOrT (mNotT (mTst (mIsi .tup (mVar 0)))) (mOrT (mTst (mTree (m2 fNe (mLenV 0) (mC (.int 2))))) (mOrT (mNotT (mTst (mTree (mCall D__law_int (mCons (mIxV 0 (mC (.int 0))) mNil))))) (mNotT (mTst (mTree (mCall D__law_int (mCons (mIxV 0 (mC (.int 1))) mNil))))))) [some (.val (.tuple [.int a, .int b])), none, none, none, none] = .ok false [some (.val (.tuple [.int a, .int b])), none, none, none, none] := c0
    by_cases hb1 : b < 1
    · have c1 : mTst (mTree (m2 fLt (mIxV 0 (mC (.int 1))) (mC (.int 1)))) [some (.val (.tuple [.int a, .int b])), none, none, none, none] = .ok true [some (.val (.tuple [.int a, .int b])), none, none, none, none] := by
        simp [runDef, List.replicate, mRet, mVal, mTree, mCall, mCons, mNil, mVar, mC, mSeq, mIfS, mNx, mNotT, mTst, mAndT, mOrT, mAndV, mOrV, mNotV, Res.bind, RV.tree, give, mAsg, gT, gN, gsCons, gsNil, mChainT, qLink, qLast, yes, asBool, m2, m1, mN, mTup, mSet, keepE, mIxV, peek, items, bt1, fCmp, hb1]
      have z : isQu (.tuple [.int a, .int b]) = false := by
        have : ¬ 1 ≤ b := by omega
        simp [isQu, isQ, this]
      rw [z]
      exact run_body rfl ((seq_if_f c0').trans (seq_if_t c1 (ret_eq rfl)))
    · have c1 : mTst (mTree (m2 fLt (mIxV 0 (mC (.int 1))) (mC (.int 1)))) [some (.val (.tuple [.int a, .int b])), none, none, none, none] = .ok false [some (.val (.tuple [.int a, .int b])), none, none, none, none] := by
        simp [runDef, List.replicate, mRet, mVal, mTree, mCall, mCons, mNil, mVar, mC, mSeq, mIfS, mNx, mNotT, mTst, mAndT, mOrT, mAndV, mOrV, mNotV, Res.bind, RV.tree, give, mAsg, gT, gN, gsCons, gsNil, mChainT, qLink, qLast, yes, asBool, m2, m1, mN, mTup, mSet, keepE, mIxV, peek, items, bt1, fCmp, hb1]
      obtain ⟨b', rfl⟩ : ∃ b' : Nat, b = (b' : Int) := ⟨b.toNat, by omega⟩
      have hb' : b' < 2 ^ 8000 := by rw [Int.natAbs_natCast] at hb; exact hb
      have hab : (if a < 0 then -a else a) = (a.natAbs : Int) := by split <;> omega
      have s1 : mVal (mIxV 0 (mC (.int 1))) [some (.val (.tuple [.int a, .int (b' : Int)])), none, none, none, none] = .ok (.val (.int (b' : Int))) [some (.val (.tuple [.int a, .int (b' : Int)])), none, none, none, none] := rfl
      have s2 : mN fAbs (mCons (mIxV 0 (mC (.int 0))) mNil) [some (.val (.tuple [.int a, .int (b' : Int)])), some (.val (.int (b' : Int))), none, none, none] = .ok (.val (.int (a.natAbs : Int))) [some (.val (.tuple [.int a, .int (b' : Int)])), some (.val (.int (b' : Int))), none, none, none] := by
        simp only [mN, mCons, mNil, mIxV, peek, items, mC, Res.bind, bt0, fAbs, give, hab, List.getElem?_cons_zero]
      obtain ⟨x2, y3, y4, hl⟩ := loopE (t := .tuple [.int a, .int (b' : Int)]) 400 0 b' a.natAbs none none hb' (Nat.lt_of_lt_of_le ha (Nat.pow_le_pow_right (by decide) (by decide)))
      have hf : mFor (mRng (mCons (mC (.int 400)) mNil)) (gN 3) bodyE [some (.val (.tuple [.int a, .int (b' : Int)])), some (.val (.int (b' : Int))), some (.val (.int (a.natAbs : Int))), none, none] = _ := hl
      have z : isQu (.tuple [.int a, .int (b' : Int)]) = decide ((euc 400 b' a.natAbs : Int) = 1) := by
        rw [euc_gcd 200 _ _ ha, Nat.gcd_comm]
        have : (1 : Int) ≤ (b' : Int) := by omega
        simp only [isQu, isI, isQ, gI, this, decide_true, Bool.true_and, Int.natAbs_natCast]
        exact decide_eq_decide.mpr (by omega)
      rw [z]
      refine run_body rfl ((seq_if_f c0').trans ((seq_if_f c1).trans ((seq_set s1).trans ((seq_set s2).trans ((seq_nx hf).trans (ret_eq (e1 := [some (.val (.tuple [.int a, .int (b' : Int)])), some (.val (.int (euc 400 b' a.natAbs : Nat))), x2, y3, y4]) ?_))))))
      simp only [m2, mVar, mC, Res.bind, fEq, TL.same, give, Option.map, List.getElem?_cons_succ, List.getElem?_cons_zero]
  · have z1 := isII_no2 hs
    have z : isQu t = false := by
      unfold isQu
      split
      · rename_i a b
        rcases isI_or a with g2 | ⟨i, rfl, g2⟩
        · rw [g2]; rfl
        · rcases isQ_or b with g3 | ⟨j, rfl, _, g3⟩
          · rw [g3]; simp
          · exact absurd ⟨i, j, rfl⟩ hs
      · rfl
    rw [z1] at c0
    rw [z]
    exact run_body rfl (seq_if_t c0 (ret_eq rfl))
end G
end
section
set_option Elab.async false
set_option linter.all false
set_option autoImplicit false
set_option maxRecDepth 100000
set_option maxHeartbeats 2000000
namespace G
open PySem PySem.Spec PyProof.Rows L2 TL
theorem rng_tn (m : Nat) : rngT 0 m = tn (List.range m) := by
  simp [rngT, tn]
theorem filter_tn (l : List Nat) (p : T → Bool) : (tn l).filter p = tn (l.filter fun k => p (.int (k : Nat))) := by
  unfold tn
  rw [List.filter_map]
  rfl
theorem len_tn (l : List Nat) : (tn l).length = l.length := by simp [tn]
theorem in_tn (ns : List Nat) (k : Nat) : fIn false (.int (k : Nat)) (.tuple (tn ns)) = some (.val (.bool (decide (k ∈ ns)))) := by
  have h : (tn ns).any (fun u => TL.eqT u (.int (k : Nat))) = decide (k ∈ ns) := by
    rw [Bool.eq_iff_iff, decide_eq_true_iff, List.any_eq_true]
    constructor
    · rintro ⟨t, ht, he⟩
      unfold tn at ht
      obtain ⟨x, hx, rfl⟩ := List.mem_map.mp ht
      have : (x : Int) = (k : Int) := by simpa [TL.eqT] using he
      have : x = k := by omega
      subst this
      exact hx
    · intro hk
      exact ⟨.int (k : Nat), List.mem_map.mpr ⟨k, hk, rfl⟩, by simp [TL.eqT]⟩
  simp [fIn, items, flatT, flat_tn, h]
section
variable {ns : List Nat} {ls : List T} {m : Nat} {w0 : T} {x3 x4 x5 x6 x7 x8 x9 : Option RV}
/-- the state within the law's due -/
abbrev E (t w0 : T) (ls : List T) (m : Nat) (x3 x4 x5 x6 x7 x8 x9 : Option RV) : En := [some (.val t), some (.val (.int (m : Nat))), some (.val (.tuple [w0, .tuple ls])), x3, x4, x5, x6, x7, x8, x9, none]
theorem s4 (hm : m ≤ 100000) : m2 fEq (mVar 0) (mTree (mN fTuple (mCons (mTree (mComp (mRng (mCons (mVar 1) mNil)) (gN 10) (mTst (mTree (m2 (fIn false) (mVar 10) (mVar 0)))) (mVar 10) [10])) mNil))) (E (.tuple (tn ns)) w0 ls m x3 x4 x5 x6 x7 x8 x9)
    = .ok (.val (.bool (isL (m : Int) (.tuple (tn ns))))) (E (.tuple (tn ns)) w0 ls m x3 x4 x5 x6 x7 x8 x9) := by
  have q := comp_eq (mi := mRng (mCons (mVar 1) mNil)) (g := gN 10) (vs := [10]) (tt := mTst (mTree (m2 (fIn false) (mVar 10) (mVar 0)))) (te := mVar 10) (f := fun x => x) (p := fun x => decide ((gI x).toNat ∈ ns))
    (e := E (.tuple (tn ns)) w0 ls m x3 x4 x5 x6 x7 x8 x9) (e1 := E (.tuple (tn ns)) w0 ls m x3 x4 x5 x6 x7 x8 x9) (ts := tn (List.range m)) (by
      rw [← rng_tn]
      simp only [mRng, mCons, mNil, mVar, Res.bind, List.getElem?_cons_succ, List.getElem?_cons_zero]
      rw [if_pos (by omega)]
      simp) (by rw [len_tn, List.length_range]; exact hm) fun x hx => by
      unfold tn at hx
      obtain ⟨k, _, rfl⟩ := List.mem_map.mp hx
      refine ⟨_, [some (.val (.tuple (tn ns))), some (.val (.int (m : Nat))), some (.val (.tuple [w0, .tuple ls])), x3, x4, x5, x6, x7, x8, x9, some (.val (.int (k : Nat)))], rfl, ?_, fun _ => ⟨_, rfl, rfl⟩, fun _ => rfl⟩
      simp [mTst, mTree, m2, mVar, Res.bind, in_tn, give, RV.tree, gI, wipeE]
      rfl
  have hq : ((tn (List.range m)).filter fun x => decide ((gI x).toNat ∈ ns)).map (fun x => x) = tn ((List.range m).filter fun i => decide (i ∈ ns)) := by
    rw [filter_tn, List.map_id']
    rfl
  rw [hq] at q
  simp only [m2, mTree, mN, mCons, mNil, Res.bind, show mVar 0 (E (.tuple (tn ns)) w0 ls m x3 x4 x5 x6 x7 x8 x9) = .ok (.tuple (tn ns)) (E (.tuple (tn ns)) w0 ls m x3 x4 x5 x6 x7 x8 x9) from rfl, q, RV.tree, fTuple, items, Option.map, give, fEq, same_tn, lot_eq]
  rfl
theorem s5 : m2 fEq (mLenV 0) (mVar 1) (E (.tuple (tn ns)) w0 ls m x3 x4 x5 x6 x7 x8 x9) = .ok (.val (.bool (isPu (m : Int) (.tuple (tn ns))))) (E (.tuple (tn ns)) w0 ls m x3 x4 x5 x6 x7 x8 x9) := by
  simp [m2, mLenV, peek, items, mVar, Res.bind, fEq, TL.same, give, isPu, all_tn]
theorem s6 (hm : m ≤ 100000) : mVal (mAndV (mTree (m2 fEq (mLenV 0) (mVar 1))) (mTree (m2 fEq (mTree (mN fLen (mCons (mTree (mComp (mRng (mCons (mVar 1) mNil)) (gN 10) (mTst (mTree (m2 fNe (mTree (mIdx (mVar 0) (mIxV 0 (mVar 10)))) (mIxV 0 (mVar 10))))) (mVar 10) [10])) mNil))) (mC (.int 0))))) (E (.tuple (tn ns)) w0 ls m x3 x4 x5 x6 x7 x8 x9)
    = .ok (.val (.bool (isJ (m : Int) (.tuple (tn ns))))) (E (.tuple (tn ns)) w0 ls m x3 x4 x5 x6 x7 x8 x9) := by
  have c : mTree (m2 fEq (mLenV 0) (mVar 1)) (E (.tuple (tn ns)) w0 ls m x3 x4 x5 x6 x7 x8 x9) = .ok (.bool (decide (ns.length = m))) (E (.tuple (tn ns)) w0 ls m x3 x4 x5 x6 x7 x8 x9) := by
    show Res.ok (PyData.bool (decide (((tn ns).length : Int) = (m : Int)))) _ = _
    rw [len_tn, show decide ((ns.length : Int) = (m : Int)) = decide (ns.length = m) from decide_eq_decide.mpr (by omega)]
  by_cases h : ns.length = m
  · subst h
    rw [decide_eq_true rfl] at c
    have q := comp_eq (mi := mRng (mCons (mVar 1) mNil)) (g := gN 10) (vs := [10]) (tt := mTst (mTree (m2 fNe (mTree (mIdx (mVar 0) (mIxV 0 (mVar 10)))) (mIxV 0 (mVar 10))))) (te := mVar 10) (f := fun x => x) (p := fun x => !decide (fst ns (ns.getD (gI x).toNat 0) = ns.getD (gI x).toNat 0))
      (e := E (.tuple (tn ns)) w0 ls ns.length x3 x4 x5 x6 x7 x8 x9) (e1 := E (.tuple (tn ns)) w0 ls ns.length x3 x4 x5 x6 x7 x8 x9) (ts := tn (List.range ns.length)) (by
        rw [← rng_tn]
        simp only [mRng, mCons, mNil, mVar, Res.bind, List.getElem?_cons_succ, List.getElem?_cons_zero]
        rw [if_pos (by omega)]
        simp) (by rw [len_tn, List.length_range]; exact hm) fun x hx => by
        unfold tn at hx
        obtain ⟨k, hk, rfl⟩ := List.mem_map.mp hx
        have hk' := List.mem_range.mp hk
        have hg : ns[k]? = some ns[k] := List.getElem?_eq_getElem hk'
        obtain ⟨f1, _, _⟩ := fst_ok hg
        refine ⟨_, [some (.val (.tuple (tn ns))), some (.val (.int (ns.length : Nat))), some (.val (.tuple [w0, .tuple ls])), x3, x4, x5, x6, x7, x8, x9, some (.val (.int (k : Nat)))], rfl, ?_, fun _ => ⟨_, rfl, rfl⟩, fun _ => rfl⟩
        simp [mTst, mTree, m2, mVar, Res.bind, mIdx, mIxV, peek, items, atI_nat (get_tn hg), fIdx, flatT, flat_tn, f1, give, RV.tree, gI, wipeE, fNe, TL.same, hk']
        omega
    have hq : (((tn (List.range ns.length)).filter fun x => !decide (fst ns (ns.getD (gI x).toNat 0) = ns.getD (gI x).toNat 0)).map (fun x => x)).length = ((List.range ns.length).filter fun k => !decide (fst ns (ns.getD k 0) = ns.getD k 0)).length := by
      rw [filter_tn, List.map_id', len_tn]
      rfl
    have d : mTree (m2 fEq (mTree (mN fLen (mCons (mTree (mComp (mRng (mCons (mVar 1) mNil)) (gN 10) (mTst (mTree (m2 fNe (mTree (mIdx (mVar 0) (mIxV 0 (mVar 10)))) (mIxV 0 (mVar 10))))) (mVar 10) [10])) mNil))) (mC (.int 0))) (E (.tuple (tn ns)) w0 ls ns.length x3 x4 x5 x6 x7 x8 x9) = .ok (.bool (isJ (ns.length : Int) (.tuple (tn ns)))) (E (.tuple (tn ns)) w0 ls ns.length x3 x4 x5 x6 x7 x8 x9) := by
      simp only [mTree, m2, mN, mCons, mNil, q, Res.bind, RV.tree, give, fLen, items, Option.map, mC, fEq, TL.same]
      rw [hq, ← join_eq]
      congr 2
      exact decide_eq_decide.mpr (by omega)
    simp only [mVal, and_t c, d, Res.bind]
  · rw [decide_eq_false h] at c
    have z : isJ (m : Int) (.tuple (tn ns)) = false := by
      have : ¬ ((tn ns).length : Int) = (m : Int) := by rw [len_tn]; omega
      simp [isJ, isTu, this]
    rw [z]
    simp [mVal, and_f c, Res.bind]
end
end G
end
section
set_option Elab.async false
set_option linter.all false
set_option autoImplicit false
set_option maxRecDepth 100000
set_option maxHeartbeats 2000000
namespace G
open PySem PySem.Spec PyProof.Rows L2 TL
def fitsN (ns : List Nat) (ls : List T) : List Nat := (List.range (min ns.length ls.length)).filter fun k => decide (((ns.getD k 0 : Nat) : Int) ≤ room (ls.getD k .none))
theorem half_eq (ns : List Nat) (ls : List T) (h : ns.length = ls.length) : decide ((fitsN ns ls).length = ns.length) = isS ls (.tuple (tn ns)) := by
  have e1 : decide (((tn ns).length : Int) = (ls.length : Int)) = true := decide_eq_true (by rw [len_tn]; omega)
  unfold isS
  dsimp only
  rw [e1, Bool.true_and, Bool.eq_iff_iff, decide_eq_true_iff, List.all_eq_true]
  unfold fitsN
  rw [← h, Nat.min_self]
  have e2 : ∀ p : Nat → Bool, ((List.range ns.length).filter p).length = ns.length ↔ ∀ k ∈ List.range ns.length, p k = true := fun p => by
    have := List.length_filter_eq_length_iff (p := p) (l := List.range ns.length)
    rwa [List.length_range] at this
  rw [e2]
  constructor
  · rintro hk ⟨a, l⟩ hm
    obtain ⟨k, hk2⟩ := List.getElem?_of_mem hm
    rw [List.getElem?_zip_eq_some] at hk2
    obtain ⟨x, hx, e⟩ := get_tn' hk2.1
    have e' : a = .int (x : Nat) := e
    subst e'
    have hlt : k < ns.length := by
      rcases Nat.lt_or_ge k ns.length with z | z
      · exact z
      · rw [List.getElem?_eq_none z] at hx; cases hx
    have z := of_decide_eq_true (hk k (List.mem_range.mpr hlt))
    rw [List.getD_eq_getElem?_getD, List.getD_eq_getElem?_getD, hx, show ls[k]? = some l from hk2.2] at z
    rw [Bool.and_eq_true]
    exact ⟨decide_eq_true (show (0 : Int) ≤ (x : Int) by omega), decide_eq_true z⟩
  · intro hz k hk
    have hlt := List.mem_range.mp hk
    have hx : ns[k]? = some ns[k] := List.getElem?_eq_getElem hlt
    have hl : ls[k]? = some (ls[k]'(by omega)) := List.getElem?_eq_getElem (by omega)
    have hm : ((.int (ns[k] : Nat) : T), ls[k]'(by omega)) ∈ (tn ns).zip ls := List.mem_of_getElem? (List.getElem?_zip_eq_some.mpr ⟨get_tn hx, hl⟩)
    have z := hz _ hm
    rw [Bool.and_eq_true] at z
    rw [decide_eq_true_iff, List.getD_eq_getElem?_getD, List.getD_eq_getElem?_getD, hx, hl]
    exact of_decide_eq_true z.2
theorem atI_two (w0 x : T) : atI [w0, x] 1 = some x := rfl
section
variable {ns : List Nat} {ls : List T} {m : Nat} {w0 : T} {x3 x4 x5 x6 x7 x8 x9 : Option RV}
theorem s9 (hl : ∀ l ∈ ls, okLine l) (hm : ns.length ≤ 100000) : ∃ fs : List T, fs.length = (fitsN ns ls).length ∧ mComp (mRng (mCons (mTree (mN fMin (mCons (mLenV 0) (mCons (mTree (mN fLen (mCons (mIxV 2 (mC (.int 1))) mNil))) mNil)))) mNil)) (gN 10) (mTst (mTree (m2 fLe (mIxV 0 (mVar 10)) (mTree (m2 fIx (mTree (m2 fIx (mIxV 2 (mC (.int 1))) (mVar 10))) (mC (.int 2))))))) (mVar 10) [10] (E (.tuple (tn ns)) w0 ls m x3 x4 x5 x6 x7 x8 x9)
    = .ok (.own fs) (E (.tuple (tn ns)) w0 ls m x3 x4 x5 x6 x7 x8 x9) := by
  have q := comp_eq (mi := mRng (mCons (mTree (mN fMin (mCons (mLenV 0) (mCons (mTree (mN fLen (mCons (mIxV 2 (mC (.int 1))) mNil))) mNil)))) mNil)) (g := gN 10) (vs := [10]) (tt := mTst (mTree (m2 fLe (mIxV 0 (mVar 10)) (mTree (m2 fIx (mTree (m2 fIx (mIxV 2 (mC (.int 1))) (mVar 10))) (mC (.int 2))))))) (te := mVar 10) (f := fun x => x)
    (p := fun x => decide (((ns.getD (gI x).toNat 0 : Nat) : Int) ≤ room (ls.getD (gI x).toNat .none)))
    (e := E (.tuple (tn ns)) w0 ls m x3 x4 x5 x6 x7 x8 x9) (e1 := E (.tuple (tn ns)) w0 ls m x3 x4 x5 x6 x7 x8 x9) (ts := tn (List.range (min ns.length ls.length))) (by
      have hmin : (if (ls.length : Int) < ((tn ns).length : Int) then (ls.length : Int) else ((tn ns).length : Int)) = ((min ns.length ls.length : Nat) : Int) := by
        rw [len_tn]
        split <;> omega
      rw [← rng_tn]
      simp only [mRng, mCons, mNil, mTree, mN, mLenV, mIxV, peek, items, mC, Res.bind, List.getElem?_cons_succ, List.getElem?_cons_zero, atI_two, fLen, Option.map, give, RV.tree, fMin, hmin]
      rw [if_pos (by omega)]
      simp) (by rw [len_tn, List.length_range]; omega) fun x hx => by
      unfold tn at hx
      obtain ⟨k, hk, rfl⟩ := List.mem_map.mp hx
      have hk' := List.mem_range.mp hk
      have hg : ns[k]? = some (ns[k]'(by omega)) := List.getElem?_eq_getElem (by omega)
      have hg2 : ls[k]? = some (ls[k]'(by omega)) := List.getElem?_eq_getElem (by omega)
      obtain ⟨a, b, r, hr⟩ := hl _ (List.mem_of_getElem? hg2)
      rw [hr] at hg2
      refine ⟨_, [some (.val (.tuple (tn ns))), some (.val (.int (m : Nat))), some (.val (.tuple [w0, .tuple ls])), x3, x4, x5, x6, x7, x8, x9, some (.val (.int (k : Nat)))], rfl, ?_, fun _ => ⟨_, rfl, rfl⟩, fun _ => rfl⟩
      have d1 : ns.getD (gI (.int (k : Nat))).toNat 0 = ns[k]'(by omega) := by
        show ns.getD ((k : Int)).toNat 0 = _
        rw [Int.toNat_natCast, List.getD_eq_getElem?_getD, hg]
        rfl
      have d2 : ls.getD (gI (.int (k : Nat))).toNat .none = .tuple [.int a, .int b, .int r] := by
        show ls.getD ((k : Int)).toNat .none = _
        rw [Int.toNat_natCast, List.getD_eq_getElem?_getD, hg2]
        rfl
      rw [d1, d2]
      simp only [gN, wipeE, List.set, mTst, mTree, m2, mIxV, mVar, mC, peek, items, Res.bind, List.getElem?_cons_succ, List.getElem?_cons_zero, atI_nat (get_tn hg), atI_two, fIx, atI_nat hg2, Option.map, give, RV.tree, at2, fCmp, room]
      rfl
  refine ⟨_, ?_, q⟩
  rw [List.map_id', filter_tn, len_tn]
  rfl
theorem s7 {fs : List T} (hf : fs.length = (fitsN ns ls).length) : mVal (mAndV (mTree (m2 fEq (mLenV 0) (mTree (mN fLen (mCons (mIxV 2 (mC (.int 1))) mNil))))) (mTree (m2 fEq (mLenV 9) (mLenV 0)))) (E (.tuple (tn ns)) w0 ls m x3 x4 x5 x6 x7 x8 (some (.own fs)))
    = .ok (.val (.bool (isS ls (.tuple (tn ns))))) (E (.tuple (tn ns)) w0 ls m x3 x4 x5 x6 x7 x8 (some (.own fs))) := by
  have c : mTree (m2 fEq (mLenV 0) (mTree (mN fLen (mCons (mIxV 2 (mC (.int 1))) mNil)))) (E (.tuple (tn ns)) w0 ls m x3 x4 x5 x6 x7 x8 (some (.own fs))) = .ok (.bool (decide (ns.length = ls.length))) (E (.tuple (tn ns)) w0 ls m x3 x4 x5 x6 x7 x8 (some (.own fs))) := by
    show Res.ok (PyData.bool (decide (((tn ns).length : Int) = (ls.length : Int)))) _ = _
    rw [len_tn, show decide ((ns.length : Int) = (ls.length : Int)) = decide (ns.length = ls.length) from decide_eq_decide.mpr (by omega)]
  have d : mTree (m2 fEq (mLenV 9) (mLenV 0)) (E (.tuple (tn ns)) w0 ls m x3 x4 x5 x6 x7 x8 (some (.own fs))) = .ok (.bool (decide ((fitsN ns ls).length = ns.length))) (E (.tuple (tn ns)) w0 ls m x3 x4 x5 x6 x7 x8 (some (.own fs))) := by
    show Res.ok (PyData.bool (decide ((fs.length : Int) = ((tn ns).length : Int)))) _ = _
    rw [len_tn, hf, show decide (((fitsN ns ls).length : Int) = (ns.length : Int)) = decide ((fitsN ns ls).length = ns.length) from decide_eq_decide.mpr (by omega)]
  by_cases h : ns.length = ls.length
  · rw [decide_eq_true h] at c
    rw [half_eq ns ls h] at d
    simp only [mVal, and_t c, d, Res.bind]
  · rw [decide_eq_false h] at c
    have z : isS ls (.tuple (tn ns)) = false := by
      have : ¬ ((tn ns).length : Int) = (ls.length : Int) := by rw [len_tn]; omega
      simp [isS, this]
    rw [z]
    simp only [mVal, and_f c, Res.bind]
end
end G
end
section
set_option Elab.async false
set_option linter.all false
set_option autoImplicit false
set_option maxRecDepth 100000
set_option maxHeartbeats 2000000
namespace G
open PySem PySem.Spec PyProof.Rows L2 TL
theorem seq_if_nx {c : Mb} {b rest : Ms} {e e1 e2 : En} (h : c e = .ok true e1) (h2 : b e1 = .ok .nx e2) : mSeq (mIfS c b mNx) rest e = rest e2 := by
  simp [mSeq, mIfS, h, Res.bind, h2]
theorem set_eq {i : Nat} {m : Mv} {e e1 : En} {r : RV} (h : m e = .ok r e1) : mSet i m e = .ok .nx (e1.set i (some r)) := by
  simp [mSet, Res.bind, h]
/-- the eight answers -/
def ans (t : T) (m : Int) (ls : List T) : List T := [.bool (isI t), .bool (isN t), .bool (isQu t), .bool (isL m t), .bool (isPu m t), .bool (isJ m t), .bool (isNo (wf t)), .bool (isS ls t)]
def finM : Ms := (mSeq (mSet 8 (mVal (mAndV (mTree (mCall D__law_int (mCons (mVar 0) mNil))) (mTree (m2 fGe (mVar 0) (mC (.int 0)))))))
  (mRet (mVal (mTup (mCons (mTree (mCall D__law_int (mCons (mVar 0) mNil))) (mCons (mVar 8) (mCons (mTree (mCall D__law_lowest (mCons (mVar 0) mNil))) (mCons (mVar 4) (mCons (mVar 5) (mCons (mVar 6) (mCons (mTree (m2 fEq (mTree (m2 fIx (mTree (mCall D__law_word (mCons (mVar 0) mNil))) (mC (.int 0)))) (mC (.str "")))) (mCons (mVar 7) mNil))))))))))))
theorem cons_ok {m : Mt} {ms : Ml} {e e1 e2 : En} {t : T} {ts : List T} (h : m e = .ok t e1) (h2 : ms e1 = .ok ts e2) : mCons m ms e = .ok (t :: ts) e2 := by
  simp [mCons, Res.bind, h, h2]
theorem tup_ok {ms : Ml} {e e1 : En} {ts : List T} (h : ms e = .ok ts e1) (hl : ts.length ≤ 100000) : mTup ms e = .ok (.tuple ts) e1 := by
  simp [mTup, Res.bind, h, hl]
theorem val_ok {m : Mt} {e e1 : En} {t : T} (h : m e = .ok t e1) : mVal m e = .ok (.val t) e1 := by
  simp [mVal, Res.bind, h]
theorem word0 {t : T} {e : En} (h : fit t = true) (he : e[0]? = some (some (.val t))) : mTree (m2 fEq (mTree (m2 fIx (mTree (mCall D__law_word (mCons (mVar 0) mNil))) (mC (.int 0)))) (mC (.str ""))) e = .ok (.bool (isNo (wf t))) e := by
  have c := call1 (m := mVar 0) (e := e) (e1 := e) (t := t) (by simp [mVar, he]) (word_ok h)
  simp only [mTree, m2, mC, Res.bind] at c ⊢
  rw [c]
  rcases wf_or2 t with w | ⟨s, i, w, hs⟩
  · obtain ⟨n, ls, rfl, _, _⟩ := wf_none w
    rw [show wd (.tuple [.int n, .tuple ls]) = .tuple [.str "", .int (ls.length : Nat)] by simp [wd, w], w]
    rfl
  · rw [show wd t = .tuple [.str s, .int i] by simp [wd, w], w]
    simp [fIx, bt0, give, fEq, TL.same, hs, isNo, RV.tree]
theorem fin_ok {t w0 : T} {ls : List T} {m : Nat} {b4 b5 b6 b7 : Bool} {x3 x8 x9 : Option RV} (h : fit t = true) (hq : okQ t) : ∃ e2, finM (E t w0 ls m x3 (some (.val (.bool b4))) (some (.val (.bool b5))) (some (.val (.bool b6))) (some (.val (.bool b7))) x8 x9)
    = .ok (.rt (.val (.tuple [.bool (isI t), .bool (isN t), .bool (isQu t), .bool b4, .bool b5, .bool b6, .bool (isNo (wf t)), .bool b7]))) e2 := by
  have e8 : mVal (mAndV (mTree (mCall D__law_int (mCons (mVar 0) mNil))) (mTree (m2 fGe (mVar 0) (mC (.int 0))))) (E t w0 ls m x3 (some (.val (.bool b4))) (some (.val (.bool b5))) (some (.val (.bool b6))) (some (.val (.bool b7))) x8 x9)
      = .ok (.val (.bool (isN t))) (E t w0 ls m x3 (some (.val (.bool b4))) (some (.val (.bool b5))) (some (.val (.bool b6))) (some (.val (.bool b7))) x8 x9) := by
    have c := call1 (m := mVar 0) (e := E t w0 ls m x3 (some (.val (.bool b4))) (some (.val (.bool b5))) (some (.val (.bool b6))) (some (.val (.bool b7))) x8 x9) rfl (law_int_ok (fit_nd h))
    rcases isI_or t with g | ⟨i, rfl, g⟩ <;> rw [g] at c
    · have gn : isN t = false := by cases t <;> first | rfl | cases g
      rw [gn]
      exact val_ok (and_f c)
    · exact val_ok ((and_t c).trans rfl)
  refine ⟨E t w0 ls m x3 (some (.val (.bool b4))) (some (.val (.bool b5))) (some (.val (.bool b6))) (some (.val (.bool b7))) (some (.val (.bool (isN t)))) x9, ?_⟩
  unfold finM
  rw [seq_set e8]
  exact ret_eq (val_ok (tup_ok (cons_ok (call1 rfl (law_int_ok (fit_nd h))) (cons_ok rfl (cons_ok (call1 rfl (lowest_ok (fit_nd1 h) hq)) (cons_ok rfl (cons_ok rfl (cons_ok rfl (cons_ok (word0 h rfl) (cons_ok rfl rfl)))))))) (by simp)))
def bodyB : Ms := (mSeq (mSet 4 (m2 fEq (mVar 0) (mTree (mN fTuple (mCons (mTree (mComp (mRng (mCons (mVar 1) mNil)) (gN 10) (mTst (mTree (m2 (fIn false) (mVar 10) (mVar 0)))) (mVar 10) [10])) mNil)))))
  (mSeq (mSet 5 (m2 fEq (mLenV 0) (mVar 1)))
  (mSeq (mSet 6 (mVal (mAndV (mTree (m2 fEq (mLenV 0) (mVar 1))) (mTree (m2 fEq (mTree (mN fLen (mCons (mTree (mComp (mRng (mCons (mVar 1) mNil)) (gN 10) (mTst (mTree (m2 fNe (mTree (mIdx (mVar 0) (mIxV 0 (mVar 10)))) (mIxV 0 (mVar 10))))) (mVar 10) [10])) mNil))) (mC (.int 0)))))))
  (mSeq (mSet 9 (mComp (mRng (mCons (mTree (mN fMin (mCons (mLenV 0) (mCons (mTree (mN fLen (mCons (mIxV 2 (mC (.int 1))) mNil))) mNil)))) mNil)) (gN 10) (mTst (mTree (m2 fLe (mIxV 0 (mVar 10)) (mTree (m2 fIx (mTree (m2 fIx (mIxV 2 (mC (.int 1))) (mVar 10))) (mC (.int 2))))))) (mVar 10) [10]))
  (mSet 7 (mVal (mAndV (mTree (m2 fEq (mLenV 0) (mTree (mN fLen (mCons (mIxV 2 (mC (.int 1))) mNil))))) (mTree (m2 fEq (mLenV 9) (mLenV 0))))))))))
theorem no_all {t : T} (h : isNs t = false) (m : Int) (ls : List T) : isL m t = false ∧ isPu m t = false ∧ isJ m t = false ∧ isS ls t = false := by
  have hB : isB m t = false := by
    cases t <;> first | rfl | skip
    rename_i ts
    refine Bool.eq_false_iff.mpr fun z => ?_
    have : ts.all isN = true := List.all_eq_true.mpr fun x hx => by
      have := List.all_eq_true.mp z x hx
      rw [Bool.and_eq_true] at this
      exact this.1
    have h' : ts.all isN = false := h
    rw [this] at h'
    cases h'
  refine ⟨by simp [isL, hB], ?_, by simp [isJ, hB], ?_⟩
  · cases t <;> first | rfl | skip
    rename_i ts
    have h' : ts.all isN = false := h
    simp only [isPu, h', Bool.and_false]
  · cases t <;> first | rfl | skip
    rename_i ts
    refine Bool.eq_false_iff.mpr fun z => ?_
    have z' : (decide ((ts.length : Int) = (ls.length : Int)) && (ts.zip ls).all fun p => isN p.1 && decide (gI p.1 ≤ room p.2)) = true := z
    rw [Bool.and_eq_true] at z'
    have hl := of_decide_eq_true z'.1
    have : ts.all isN = true := List.all_eq_true.mpr fun x hx => by
      obtain ⟨k, hk⟩ := List.getElem?_of_mem hx
      have hlt : k < ts.length := by
        rcases Nat.lt_or_ge k ts.length with z | z
        · exact z
        · rw [List.getElem?_eq_none z] at hk; cases hk
      have hl2 : ls[k]? = some (ls[k]'(by omega)) := List.getElem?_eq_getElem (by omega)
      have := List.all_eq_true.mp z'.2 (x, ls[k]'(by omega)) (List.mem_of_getElem? (List.getElem?_zip_eq_some.mpr ⟨hk, hl2⟩))
      rw [Bool.and_eq_true] at this
      exact this.1
    have h' : ts.all isN = false := h
    rw [this] at h'
    cases h'
theorem due_ok {t w0 : T} {ls : List T} {m : Nat} (h : fit t = true) (hq : okQ t) (hm : m ≤ 100000) (hl : ∀ l ∈ ls, okLine l) : Is (D__law_due [.val t, .val (.int (m : Nat)), .val (.tuple [w0, .tuple ls])]) (.tuple (ans t (m : Int) ls)) := by
  have c3 : mCall D__law_numbers (mCons (mVar 0) mNil) (E t w0 ls m none none none none none none none) = .ok (.val (.bool (isNs t))) (E t w0 ls m none none none none none none none) := callV1 rfl (numbers_ok (fit_nd1 h))
  cases hs : isNs t with
  | false =>
    rw [hs] at c3
    obtain ⟨z4, z5, z6, z7⟩ := no_all hs (m : Int) ls
    obtain ⟨e2, hf⟩ := fin_ok (w0 := w0) (ls := ls) (m := m) (b4 := false) (b5 := false) (b6 := false) (b7 := false) (x3 := some (.val (.bool false))) (x8 := none) (x9 := none) h hq
    unfold ans
    rw [z4, z5, z6, z7]
    exact run_body rfl ((seq_set c3).trans ((seq_if_f (c := mTst (mVar 3)) (b := bodyB) (e := E t w0 ls m (some (.val (.bool false))) (some (.val (.bool false))) (some (.val (.bool false))) (some (.val (.bool false))) (some (.val (.bool false))) none none) (e1 := E t w0 ls m (some (.val (.bool false))) (some (.val (.bool false))) (some (.val (.bool false))) (some (.val (.bool false))) (some (.val (.bool false))) none none) rfl).trans hf))
  | true =>
    rw [hs] at c3
    cases t with
    | tuple ts =>
      obtain ⟨ns, rfl⟩ := isNs_nat (ts := ts) hs
      have hlen := (fit_tup h).1
      rw [len_tn] at hlen
      obtain ⟨fs, hf1, hf2⟩ := s9 (m := m) (w0 := w0) (x3 := some (.val (.bool true))) (x4 := some (.val (.bool (isL (m : Int) (.tuple (tn ns)))))) (x5 := some (.val (.bool (isPu (m : Int) (.tuple (tn ns)))))) (x6 := some (.val (.bool (isJ (m : Int) (.tuple (tn ns)))))) (x7 := some (.val (.bool false))) (x8 := none) (x9 := none) hl hlen
      obtain ⟨e2, hf⟩ := fin_ok (w0 := w0) (ls := ls) (m := m) (b4 := isL (m : Int) (.tuple (tn ns))) (b5 := isPu (m : Int) (.tuple (tn ns))) (b6 := isJ (m : Int) (.tuple (tn ns))) (b7 := isS ls (.tuple (tn ns))) (x3 := some (.val (.bool true))) (x8 := none) (x9 := some (.own fs)) h hq
      have hB : bodyB (E (.tuple (tn ns)) w0 ls m (some (.val (.bool true))) (some (.val (.bool false))) (some (.val (.bool false))) (some (.val (.bool false))) (some (.val (.bool false))) none none)
          = .ok .nx (E (.tuple (tn ns)) w0 ls m (some (.val (.bool true))) (some (.val (.bool (isL (m : Int) (.tuple (tn ns)))))) (some (.val (.bool (isPu (m : Int) (.tuple (tn ns)))))) (some (.val (.bool (isJ (m : Int) (.tuple (tn ns)))))) (some (.val (.bool (isS ls (.tuple (tn ns)))))) none (some (.own fs))) := by
        unfold bodyB
        rw [seq_set (s4 hm)]
        simp only [List.set]
        rw [seq_set s5]
        simp only [List.set]
        rw [seq_set (s6 hm)]
        simp only [List.set]
        rw [seq_set hf2]
        simp only [List.set]
        rw [set_eq (s7 hf1)]
        rfl
      exact run_body rfl ((seq_set c3).trans ((seq_if_nx (c := mTst (mVar 3)) (b := bodyB) (e := E (.tuple (tn ns)) w0 ls m (some (.val (.bool true))) (some (.val (.bool false))) (some (.val (.bool false))) (some (.val (.bool false))) (some (.val (.bool false))) none none) (e1 := E (.tuple (tn ns)) w0 ls m (some (.val (.bool true))) (some (.val (.bool false))) (some (.val (.bool false))) (some (.val (.bool false))) (some (.val (.bool false))) none none) rfl hB).trans hf))
    | _ => cases hs
end G
end
section
set_option Elab.async false
set_option linter.all false
set_option autoImplicit false
set_option maxRecDepth 100000
set_option maxHeartbeats 2000000
namespace G
open PySem PySem.Spec PyProof.Rows L2 TL
theorem callK1 {D : DF} {m : Mt} {e e1 : En} {t u : T} (hm : m e = .ok t e1) (h : Is (D [.val t]) u) : mTree (mCallKW D [0] 1 (mCons m mNil)) e = .ok u e1 := by
  obtain ⟨e2, h⟩ := h
  simp [mTree, mCallKW, mCallK, pick, mCons, mNil, Res.bind, hm, h, RV.tree]
theorem callK2 {D : DF} {m n : Mt} {e e1 e2 : En} {t s u : T} (hm : m e = .ok t e1) (hn : n e1 = .ok s e2) (h : Is (D [.val s, .val t]) u) : mTree (mCallKW D [1, 0] 2 (mCons m (mCons n mNil))) e = .ok u e2 := by
  obtain ⟨e3, h⟩ := h
  simp [mTree, mCallKW, mCallK, pick, mCons, mNil, Res.bind, hm, hn, h, RV.tree]
theorem add3 {a b : List T} {m4 m5 : Mt} {ms : Mt} {e e1 : En} {c : List T} (h4 : m4 e = .ok (.tuple a) e) (h5 : m5 e = .ok (.tuple b) e) (h6 : ms e = .ok (.tuple c) e1) (hl : a.length + b.length ≤ 100000) (hl2 : (a ++ b).length + c.length ≤ 100000) :
    m2 fAdd (mTree (m2 fAdd m4 m5)) ms e = .ok (.val (.tuple (a ++ b ++ c))) e1 := by
  simp only [m2, mTree, Res.bind, h4, h5, fAdd, if_pos hl, give, RV.tree, h6, if_pos hl2]
theorem told_ok {t w0 : T} {ls : List T} {m : Nat} {b : Bool} (h : fit t = true) (hl : ∀ l ∈ ls, okLine l) : Is (D__law_told [.val t, .val (.int (m : Nat)), .val (.tuple [w0, .tuple ls]), .val (.bool b)]) (.tuple (ans t (m : Int) ls)) := by
  have n1 := fit_nd1 h
  have n0 := fit_nd h
  cases b with
  | true =>
    have c4 : mVal (mTup (mCons (mTree (mCallKW D_is_integer [0] 1 (mCons (mVar 0) mNil))) (mCons (mTree (mCallKW D_is_number [0] 1 (mCons (mVar 0) mNil))) (mCons (mTree (mCallKW D_is_quotient [0] 1 (mCons (mVar 0) mNil))) mNil)))) [some (.val t), some (.val (.int (m : Nat))), some (.val (.tuple [w0, .tuple ls])), some (.val (.bool true)), none, none]
        = .ok (.val (.tuple [.bool (isI t), .bool (isN t), .bool (isQu t)])) [some (.val t), some (.val (.int (m : Nat))), some (.val (.tuple [w0, .tuple ls])), some (.val (.bool true)), none, none] :=
      val_ok (tup_ok (cons_ok (callK1 rfl (is_integer_ok n0)) (cons_ok (callK1 rfl (is_number_ok n0)) (cons_ok (callK1 rfl (is_quotient_ok n1)) rfl))) (by simp))
    have c5 : ∀ x4, mVal (mTup (mCons (mTree (mCallKW D_is_lot [1, 0] 2 (mCons (mVar 0) (mCons (mVar 1) mNil)))) (mCons (mTree (mCallKW D_is_purses [1, 0] 2 (mCons (mVar 0) (mCons (mVar 1) mNil)))) (mCons (mTree (mCallKW D_is_joining [1, 0] 2 (mCons (mVar 0) (mCons (mVar 1) mNil)))) mNil)))) [some (.val t), some (.val (.int (m : Nat))), some (.val (.tuple [w0, .tuple ls])), some (.val (.bool true)), x4, none]
        = .ok (.val (.tuple [.bool (isL m t), .bool (isPu m t), .bool (isJ m t)])) [some (.val t), some (.val (.int (m : Nat))), some (.val (.tuple [w0, .tuple ls])), some (.val (.bool true)), x4, none] := fun x4 =>
      val_ok (tup_ok (cons_ok (callK2 rfl rfl (is_lot_ok n1)) (cons_ok (callK2 rfl rfl (is_purses_ok n1)) (cons_ok (callK2 rfl rfl (is_joining_ok n1)) rfl))) (by simp))
    refine run_body rfl (seq_if_t (c := mTst (mVar 3)) (e1 := [some (.val t), some (.val (.int (m : Nat))), some (.val (.tuple [w0, .tuple ls])), some (.val (.bool true)), none, none]) rfl ((seq_set c4).trans ((seq_set (c5 _)).trans (ret_eq (add3 (a := [.bool (isI t), .bool (isN t), .bool (isQu t)]) (b := [.bool (isL m t), .bool (isPu m t), .bool (isJ m t)]) (c := [.bool (isNo (wf t)), .bool (isS ls t)]) rfl rfl
      (tup_ok (cons_ok (callK1 rfl (is_web_ok h)) (cons_ok (callK2 rfl rfl (is_split_ok n1 hl)) rfl)) (by simp)) (by simp) (by simp))))))
  | false =>
    have c4 : mVal (mTup (mCons (mTree (mCall D_is_integer (mCons (mVar 0) mNil))) (mCons (mTree (mCall D_is_number (mCons (mVar 0) mNil))) (mCons (mTree (mCall D_is_quotient (mCons (mVar 0) mNil))) mNil)))) [some (.val t), some (.val (.int (m : Nat))), some (.val (.tuple [w0, .tuple ls])), some (.val (.bool false)), none, none]
        = .ok (.val (.tuple [.bool (isI t), .bool (isN t), .bool (isQu t)])) [some (.val t), some (.val (.int (m : Nat))), some (.val (.tuple [w0, .tuple ls])), some (.val (.bool false)), none, none] :=
      val_ok (tup_ok (cons_ok (call1 rfl (is_integer_ok n0)) (cons_ok (call1 rfl (is_number_ok n0)) (cons_ok (call1 rfl (is_quotient_ok n1)) rfl))) (by simp))
    have c5 : ∀ x4, mVal (mTup (mCons (mTree (mCall D_is_lot (mCons (mVar 1) (mCons (mVar 0) mNil)))) (mCons (mTree (mCall D_is_purses (mCons (mVar 1) (mCons (mVar 0) mNil)))) (mCons (mTree (mCall D_is_joining (mCons (mVar 1) (mCons (mVar 0) mNil)))) mNil)))) [some (.val t), some (.val (.int (m : Nat))), some (.val (.tuple [w0, .tuple ls])), some (.val (.bool false)), x4, none]
        = .ok (.val (.tuple [.bool (isL m t), .bool (isPu m t), .bool (isJ m t)])) [some (.val t), some (.val (.int (m : Nat))), some (.val (.tuple [w0, .tuple ls])), some (.val (.bool false)), x4, none] := fun x4 =>
      val_ok (tup_ok (cons_ok (call2 rfl rfl (is_lot_ok n1)) (cons_ok (call2 rfl rfl (is_purses_ok n1)) (cons_ok (call2 rfl rfl (is_joining_ok n1)) rfl))) (by simp))
    refine run_body rfl ((seq_if_f (c := mTst (mVar 3)) (e1 := [some (.val t), some (.val (.int (m : Nat))), some (.val (.tuple [w0, .tuple ls])), some (.val (.bool false)), none, none]) rfl).trans ((seq_set c4).trans ((seq_set (c5 _)).trans (ret_eq (add3 (a := [.bool (isI t), .bool (isN t), .bool (isQu t)]) (b := [.bool (isL m t), .bool (isPu m t), .bool (isJ m t)]) (c := [.bool (isNo (wf t)), .bool (isS ls t)]) rfl rfl
      (tup_ok (cons_ok (call1 rfl (is_web_ok h)) (cons_ok (call2 rfl rfl (is_split_ok n1 hl)) rfl)) (by simp)) (by simp) (by simp))))))
theorem flat_ans (t : T) (m : Int) (ls : List T) : ∀ x ∈ ans t m ls, flat1 x = true := by
  unfold ans
  intro x hx
  simp only [List.mem_cons, List.not_mem_nil, or_false] at hx
  rcases hx with rfl | rfl | rfl | rfl | rfl | rfl | rfl | rfl <;> rfl
theorem agree {t : T} {m : Nat} {ls : List T} : Is (D__law_same [.val (.tuple (ans t (m : Int) ls)), .val (.tuple (ans t (m : Int) ls))]) (.bool true) := sameT (by simp [ans]) (flat_ans _ _ _)
end G
end
section
set_option Elab.async false
set_option linter.all false
set_option autoImplicit false
set_option maxRecDepth 100000
set_option maxHeartbeats 2000000
namespace G
open PySem PySem.Spec PyProof.Rows L2 TL
/-! ### the pool -/
def pn (ns : List Int) : List T := ns.map PyData.int
/-- a def that takes from the pool, its first argument -/
def PO (D : DF) (args : List RV) (P : T → Prop) : Prop := ∀ ns, ∃ r ns' e', D (.own (pn ns) :: args) = .ok (.val r) e' ∧ e'[0]? = some (some (.own (pn ns'))) ∧ P r
theorem PO.imp {D : DF} {args : List RV} {P Q : T → Prop} (h : PO D args P) (f : ∀ r, P r → Q r) : PO D args Q := fun ns => by
  obtain ⟨r, ns', e', h1, h2, h3⟩ := h ns
  exact ⟨r, ns', e', h1, h2, f r h3⟩
theorem callP {D : DF} {ts : List T} {P : T → Prop} (h : PO D (ts.map .val) P) {i : Nat} {ms : Ml} {e : En} {ns : List Int} (he : e[i]? = some (some (.own (pn ns)))) (hm : ms e = .ok ts e) : ∃ r ns', mCallP D i ms e = .ok (.val r) (e.set i (some (.own (pn ns')))) ∧ P r := by
  obtain ⟨r, ns', e', h1, h2, h3⟩ := h ns
  refine ⟨r, ns', ?_, h3⟩
  simp only [mCallP, he, hm, Res.bind, afterP, h1, h2, Option.join]
  rfl
def Rg (lo hi : Int) (t : T) : Prop := ∃ i : Int, t = .int i ∧ lo ≤ i ∧ i < hi
theorem run_po {n : Nat} {np : Nat} {keep : List Nat} {m : Ms} {args : List RV} {P : T → Prop} (hl : args.length + 1 = np) (hk : keep.contains 0 = true)
    (h : ∀ ns, ∃ r ns' e, m (some (.own (pn ns)) :: args.map some ++ List.replicate (n - np) none) = .ok (.rt (.val r)) (some (.own (pn ns')) :: e) ∧ P r) : PO (runDef n np keep m) args P := fun ns => by
  obtain ⟨r, ns', e, h1, h2⟩ := h ns
  refine ⟨r, ns', keepE keep np (some (.own (pn ns')) :: e), ?_, ?_, h2⟩
  · unfold runDef
    rw [if_pos (by simpa using hl)]
    rw [show m (List.map some (RV.own (pn ns) :: args) ++ List.replicate (n - np) none) = _ from h1]
  · unfold keepE
    rw [List.getElem?_map, List.getElem?_range (by omega)]
    simp only [Option.map, hk, if_true, List.getElem?_cons_zero, Option.join]
    rfl
theorem take_ok {b : Int} (hb : 0 < b) : PO D__law_take [.val (.int b)] (Rg 0 b) := run_po rfl rfl fun ns => by
  show ∃ r ns' e, M__law_take [some (.own (pn ns)), some (.val (.int b))] = _ ∧ _
  rcases List.eq_nil_or_concat ns with rfl | ⟨ms, x, rfl⟩
  · exact ⟨.int 0, [], [some (.val (.int b))], rfl, 0, rfl, by omega, hb⟩
  · refine ⟨.int (x % b), ms, [some (.val (.int b))], ?_, _, rfl, Int.emod_nonneg _ (by omega), Int.emod_lt_of_pos _ hb⟩
    have e1 : pn (ms.concat x) = pn ms ++ [.int x] := by simp [pn]
    rw [e1]
    have hc : mTst (mTree (m2 fEq (mLenV 0) (mC (.int 0)))) [some (.own (pn ms ++ [.int x])), some (.val (.int b))] = .ok false [some (.own (pn ms ++ [.int x])), some (.val (.int b))] := by
      simp [runDef, List.replicate, mRet, mVal, mTree, mCall, mCons, mNil, mVar, mC, mSeq, mIfS, mNx, mNotT, mTst, mAndT, mOrT, mAndV, mOrV, mNotV, Res.bind, RV.tree, give, mAsg, gT, gN, gsCons, gsNil, mChainT, qLink, qLast, yes, asBool, m2, m1, mN, mTup, mSet, keepE, mLenV, peek, fEq, TL.same]
      omega
    unfold M__law_take
    rw [seq_if_f hc]
    simp [mRet, m2, mTree, mN, mCons, mNil, mPop, mVar, Res.bind, fInt, fMod, give, RV.tree, hb]
theorem loopG : ∀ (f k : Nat) (ns : List Int) (v : Int) (x2 : Option RV), 0 ≤ v → v.natAbs < 1000 ^ k → k + f ≤ 10 → ∃ ns' w y2, mLoop (gN 2) (mSet 1 (m2 fAdd (mTree (m2 fMul (mVar 1) (mC (.int 1000)))) (mTree (mCallP D__law_take 0 (mCons (mC (.int 1000)) mNil))))) (rngT (k : Int) f) [some (.own (pn ns)), some (.val (.int v)), x2]
    = .ok .nx [some (.own (pn ns')), some (.val (.int w)), y2] ∧ 0 ≤ w ∧ w.natAbs < 1000 ^ (k + f)
  | 0, k, ns, v, x2, h0, h1, _ => ⟨ns, v, x2, rfl, h0, h1⟩
  | f + 1, k, ns, v, x2, h0, h1, hk => by
    obtain ⟨r, ns1, hc, i, rfl, hi0, hi1⟩ := callP (take_ok (b := 1000) (by decide)) (ts := [.int 1000]) (i := 0) (ms := mCons (mC (.int 1000)) mNil) (e := [some (.own (pn ns)), some (.val (.int v)), some (.val (.int (k : Int)))]) (ns := ns) rfl rfl
    have hs : small v = true := by
      unfold small
      rw [decide_eq_true_iff]
      have hv : v.natAbs < 2 ^ 110 := by
        have h2 : 1000 ^ k ≤ 1000 ^ 10 := Nat.pow_le_pow_right (by decide) (by omega)
        have h3 : 1000 ^ 10 < 2 ^ 110 := by decide
        omega
      by_cases hz : v.natAbs = 0
      · rw [hz]; decide
      · have := (Nat.log2_lt hz).mpr hv
        omega
    have st : mSet 1 (m2 fAdd (mTree (m2 fMul (mVar 1) (mC (.int 1000)))) (mTree (mCallP D__law_take 0 (mCons (mC (.int 1000)) mNil)))) [some (.own (pn ns)), some (.val (.int v)), some (.val (.int (k : Int)))]
        = .ok .nx [some (.own (pn ns1)), some (.val (.int (v * 1000 + i))), some (.val (.int (k : Int)))] := by
      have hs2 : small 1000 = true := by decide
      have hm : mTree (m2 fMul (mVar 1) (mC (.int 1000))) [some (.own (pn ns)), some (.val (.int v)), some (.val (.int (k : Int)))] = .ok (.int (v * 1000)) [some (.own (pn ns)), some (.val (.int v)), some (.val (.int (k : Int)))] := by
        simp [mTree, m2, mVar, mC, Res.bind, fMul, hs, hs2, give, RV.tree]
      have ht := tree_ok hc
      refine set_eq (e1 := [some (.own (pn ns1)), some (.val (.int v)), some (.val (.int (k : Int)))]) (r := .val (.int (v * 1000 + i))) ?_
      simp only [m2]
      rw [hm]
      simp only [Res.bind]
      rw [ht]
      rfl
    rw [rng_cons]
    have hp : 1000 ^ (k + 1) = 1000 ^ k * 1000 := Nat.pow_succ _ _
    obtain ⟨ns', w, y2, ih, g0, g1⟩ := loopG f (k + 1) ns1 (v * 1000 + i) (some (.val (.int (k : Int)))) (by omega) (by omega) (by omega)
    refine ⟨ns', w, y2, ?_, g0, by rwa [show k + (f + 1) = k + 1 + f by omega]⟩
    unfold mLoop
    simp only [gN, List.set]
    rw [st]
    simpa using ih
theorem great_ok : PO D__law_great [] (Rg 0 1000000000000000000000000000000) := run_po rfl rfl fun ns => by
  obtain ⟨ns', w, y2, hl, h0, h1⟩ := loopG 10 0 ns 0 none (by decide) (by decide) (by decide)
  have hf : mFor (mRng (mCons (mC (.int 10)) mNil)) (gN 2) (mSet 1 (m2 fAdd (mTree (m2 fMul (mVar 1) (mC (.int 1000)))) (mTree (mCallP D__law_take 0 (mCons (mC (.int 1000)) mNil))))) [some (.own (pn ns)), some (.val (.int 0)), none] = _ := hl
  refine ⟨.int w, ns', [none, y2], ?_, w, rfl, h0, ?_⟩
  rotate_left
  · have h3 : 1000 ^ (0 + 10) = 1000000000000000000000000000000 := by decide
    omega
  exact (seq_set (e1 := [some (.own (pn ns)), none, none]) (r := .val (.int 0)) rfl).trans ((seq_nx hf).trans (ret_eq rfl))
end G
end
section
set_option Elab.async false
set_option linter.all false
set_option autoImplicit false
set_option maxRecDepth 100000
set_option maxHeartbeats 2000000
namespace G
open PySem PySem.Spec PyProof.Rows L2 TL
theorem add_ok {m : Mt} {j i : Int} {e e1 : En} (h : m e = .ok (.int i) e1) : m2 fAdd (mC (.int j)) m e = .ok (.val (.int (j + i))) e1 := by
  simp [m2, mC, Res.bind, h, fAdd, give]
theorem room_ok : PO D__law_room [] (Rg 1 1000000000000000000000000000001) := run_po rfl rfl fun ns => by
  show ∃ r ns' e, M__law_room [some (.own (pn ns)), none] = _ ∧ _
  obtain ⟨r, ns1, hc, i, rfl, hi0, hi1⟩ := callP (take_ok (b := 8) (by decide)) (ts := [.int 8]) (i := 0) (ms := mCons (mC (.int 8)) mNil) (e := [some (.own (pn ns)), none]) (ns := ns) rfl rfl
  unfold M__law_room
  rw [seq_set hc]
  simp only [List.set]
  by_cases h7 : i = 7
  · subst h7
    obtain ⟨r, ns2, hg, j, rfl, hj0, hj1⟩ := callP great_ok (ts := []) (i := 0) (ms := mNil) (e := [some (.own (pn ns1)), some (.val (.int 7))]) (ns := ns1) rfl rfl
    refine ⟨.int (1 + j), ns2, [some (.val (.int 7))], ?_, _, rfl, by omega, by omega⟩
    exact seq_if_t (e1 := [some (.own (pn ns1)), some (.val (.int 7))]) rfl (ret_eq (add_ok (tree_ok hg)))
  · have c7 : mTst (mTree (m2 fEq (mVar 1) (mC (.int 7)))) [some (.own (pn ns1)), some (.val (.int i))] = .ok false [some (.own (pn ns1)), some (.val (.int i))] := by
      simp [runDef, List.replicate, mRet, mVal, mTree, mCall, mCons, mNil, mVar, mC, mSeq, mIfS, mNx, mNotT, mTst, mAndT, mOrT, mAndV, mOrV, mNotV, Res.bind, RV.tree, give, mAsg, gT, gN, gsCons, gsNil, mChainT, qLink, qLast, yes, asBool, m2, m1, mN, mTup, mSet, keepE, fEq, TL.same, h7]
    rw [seq_if_f c7]
    by_cases h6 : i = 6
    · subst h6
      obtain ⟨r, ns2, hg, j, rfl, hj0, hj1⟩ := callP (take_ok (b := 40) (by decide)) (ts := [.int 40]) (i := 0) (ms := mCons (mC (.int 40)) mNil) (e := [some (.own (pn ns1)), some (.val (.int 6))]) (ns := ns1) rfl rfl
      refine ⟨.int (1 + j), ns2, [some (.val (.int 6))], ?_, _, rfl, by omega, by omega⟩
      exact seq_if_t (e1 := [some (.own (pn ns1)), some (.val (.int 6))]) rfl (ret_eq (add_ok (tree_ok hg)))
    · have c6 : mTst (mTree (m2 fEq (mVar 1) (mC (.int 6)))) [some (.own (pn ns1)), some (.val (.int i))] = .ok false [some (.own (pn ns1)), some (.val (.int i))] := by
        simp [runDef, List.replicate, mRet, mVal, mTree, mCall, mCons, mNil, mVar, mC, mSeq, mIfS, mNx, mNotT, mTst, mAndT, mOrT, mAndV, mOrV, mNotV, Res.bind, RV.tree, give, mAsg, gT, gN, gsCons, gsNil, mChainT, qLink, qLast, yes, asBool, m2, m1, mN, mTup, mSet, keepE, fEq, TL.same, h6]
      rw [seq_if_f c6]
      obtain ⟨r, ns2, hg, j, rfl, hj0, hj1⟩ := callP (take_ok (b := 3) (by decide)) (ts := [.int 3]) (i := 0) (ms := mCons (mC (.int 3)) mNil) (e := [some (.own (pn ns1)), some (.val (.int i))]) (ns := ns1) rfl rfl
      refine ⟨.int (1 + j), ns2, [some (.val (.int i))], ?_, _, rfl, by omega, by omega⟩
      exact ret_eq (add_ok (tree_ok hg))
/-! ### the web -/
def lineP (l : T) : Prop := ∃ a b c : Int, l = .tuple [.int a, .int b, .int c] ∧ a.natAbs < 20 ∧ b.natAbs < 20 ∧ 1 ≤ c ∧ c < 1000000000000000000000000000001
def netP (r : T) : Prop := ∃ (n : Nat) (ls : List T), r = .tuple [.int (n : Nat), .tuple ls] ∧ 1 ≤ n ∧ n ≤ 8 ∧ ls.length ≤ 14 ∧ ∀ l ∈ ls, lineP l
def bodyN : Ms := (mSeq (mSet 4 (mCallP D__law_take 0 (mCons (mTree (m2 fSub (mVar 1) (mC (.int 1)))) mNil)))
  (mSeq (mSet 5 (m2 fAdd (mTree (m2 fAdd (mVar 4) (mC (.int 1)))) (mTree (mCallP D__law_take 0 (mCons (mTree (m2 fSub (mTree (m2 fSub (mVar 1) (mC (.int 1)))) (mVar 4))) mNil)))))
  (mDrop (mApp 2 (mTup (mCons (mVar 4) (mCons (mVar 5) (mCons (mTree (mCallP D__law_room 0 mNil)) mNil))))))))
theorem stepN {ns : List Int} {n : Int} {rows : List T} {x3 x4 x5 : Option RV} (hn : 2 ≤ n) (hn2 : n ≤ 8) (hr : rows.length < 100) : ∃ ns' l y4 y5, bodyN [some (.own (pn ns)), some (.val (.int n)), some (.own rows), x3, x4, x5] = .ok .nx [some (.own (pn ns')), some (.val (.int n)), some (.own (rows ++ [l])), x3, y4, y5] ∧ lineP l := by
  obtain ⟨r, ns1, h1, i, rfl, hi0, hi1⟩ := callP (take_ok (b := n - 1) (by omega)) (ts := [.int (n - 1)]) (i := 0) (ms := mCons (mTree (m2 fSub (mVar 1) (mC (.int 1)))) mNil) (e := [some (.own (pn ns)), some (.val (.int n)), some (.own rows), x3, x4, x5]) (ns := ns) rfl rfl
  obtain ⟨r, ns2, h2, j, rfl, hj0, hj1⟩ := callP (take_ok (b := n - 1 - i) (by omega)) (ts := [.int (n - 1 - i)]) (i := 0) (ms := mCons (mTree (m2 fSub (mTree (m2 fSub (mVar 1) (mC (.int 1)))) (mVar 4))) mNil) (e := [some (.own (pn ns1)), some (.val (.int n)), some (.own rows), x3, some (.val (.int i)), x5]) (ns := ns1) rfl rfl
  obtain ⟨r, ns3, h3, c, rfl, hc0, hc1⟩ := callP room_ok (ts := []) (i := 0) (ms := mNil) (e := [some (.own (pn ns2)), some (.val (.int n)), some (.own rows), x3, some (.val (.int i)), some (.val (.int (i + 1 + j)))]) (ns := ns2) rfl rfl
  refine ⟨ns3, .tuple [.int i, .int (i + 1 + j), .int c], some (.val (.int i)), some (.val (.int (i + 1 + j))), ?_, i, i + 1 + j, c, rfl, by omega, by omega, hc0, hc1⟩
  · unfold bodyN
    rw [seq_set h1]
    simp only [List.set]
    have h2' : m2 fAdd (mTree (m2 fAdd (mVar 4) (mC (.int 1)))) (mTree (mCallP D__law_take 0 (mCons (mTree (m2 fSub (mTree (m2 fSub (mVar 1) (mC (.int 1)))) (mVar 4))) mNil))) [some (.own (pn ns1)), some (.val (.int n)), some (.own rows), x3, some (.val (.int i)), x5]
        = .ok (.val (.int (i + 1 + j))) [some (.own (pn ns2)), some (.val (.int n)), some (.own rows), x3, some (.val (.int i)), x5] := by
      have ht := tree_ok h2
      simp only [m2, Res.bind]
      rw [show mTree (m2 fAdd (mVar 4) (mC (.int 1))) [some (.own (pn ns1)), some (.val (.int n)), some (.own rows), x3, some (.val (.int i)), x5] = .ok (.int (i + 1)) [some (.own (pn ns1)), some (.val (.int n)), some (.own rows), x3, some (.val (.int i)), x5] from rfl]
      dsimp only
      rw [ht]
      rfl
    rw [seq_set h2']
    simp only [List.set]
    have h3' : mTup (mCons (mVar 4) (mCons (mVar 5) (mCons (mTree (mCallP D__law_room 0 mNil)) mNil))) [some (.own (pn ns2)), some (.val (.int n)), some (.own rows), x3, some (.val (.int i)), some (.val (.int (i + 1 + j)))]
        = .ok (.tuple [.int i, .int (i + 1 + j), .int c]) [some (.own (pn ns3)), some (.val (.int n)), some (.own rows), x3, some (.val (.int i)), some (.val (.int (i + 1 + j)))] :=
      tup_ok (cons_ok rfl (cons_ok rfl (cons_ok (tree_ok h3) rfl))) (by simp)
    simp only [mDrop, mApp, List.getElem?_cons_succ, List.getElem?_cons_zero, h3', Res.bind]
    rw [if_pos (by omega)]
    rfl
theorem loopN {n : Int} (hn : 2 ≤ n) (hn2 : n ≤ 8) : ∀ (f : Nat) (lo : Int) (ns : List Int) (rows : List T) (x3 x4 x5 : Option RV), rows.length + f ≤ 14 → (∀ l ∈ rows, lineP l) → ∃ ns' rows' y3 y4 y5, mLoop (gN 3) bodyN (rngT lo f) [some (.own (pn ns)), some (.val (.int n)), some (.own rows), x3, x4, x5]
    = .ok .nx [some (.own (pn ns')), some (.val (.int n)), some (.own rows'), y3, y4, y5] ∧ rows'.length ≤ 14 ∧ ∀ l ∈ rows', lineP l
  | 0, lo, ns, rows, x3, x4, x5, hl, hr => ⟨ns, rows, x3, x4, x5, rfl, by omega, hr⟩
  | f + 1, lo, ns, rows, x3, x4, x5, hl, hr => by
    obtain ⟨ns1, l, y4, y5, hs, hlp⟩ := stepN (ns := ns) (rows := rows) (x3 := some (.val (.int lo))) (x4 := x4) (x5 := x5) hn hn2 (by omega)
    obtain ⟨ns', rows', z3, z4, z5, ih, g1, g2⟩ := loopN hn hn2 f (lo + 1) ns1 (rows ++ [l]) (some (.val (.int lo))) y4 y5 (by simp; omega) (fun x hx => by
      rcases List.mem_append.mp hx with hx | hx
      · exact hr x hx
      · rw [List.mem_singleton] at hx
        rw [hx]; exact hlp)
    refine ⟨ns', rows', z3, z4, z5, ?_, g1, g2⟩
    rw [rng_cons]
    unfold mLoop
    simp only [gN, List.set]
    rw [hs]
    exact ih
theorem lst8 {a b c d f g h k : Int} {i : Int} (h0 : 0 ≤ i) (h1 : i < 8) : ∃ x : Int, fIx (.list [.int a, .int b, .int c, .int d, .int f, .int g, .int h, .int k]) (.int i) = some (.val (.int x)) ∧ (x = a ∨ x = b ∨ x = c ∨ x = d ∨ x = f ∨ x = g ∨ x = h ∨ x = k) := by
  have : i = 0 ∨ i = 1 ∨ i = 2 ∨ i = 3 ∨ i = 4 ∨ i = 5 ∨ i = 6 ∨ i = 7 := by omega
  rcases this with rfl | rfl | rfl | rfl | rfl | rfl | rfl | rfl
  · exact ⟨_, rfl, by simp⟩
  · exact ⟨_, rfl, by simp⟩
  · exact ⟨_, rfl, by simp⟩
  · exact ⟨_, rfl, by simp⟩
  · exact ⟨_, rfl, by simp⟩
  · exact ⟨_, rfl, by simp⟩
  · exact ⟨_, rfl, by simp⟩
  · exact ⟨_, rfl, by simp⟩
/-- a list's item at a place that is taken from the pool -/
theorem pick8 {a b c d f g h k : Int} {ns : List Int} {e : En} {ml : Mt} (hl : ml e = .ok (.list [.int a, .int b, .int c, .int d, .int f, .int g, .int h, .int k]) e) (he : e[0]? = some (some (.own (pn ns)))) :
    ∃ (x : Int) (ns' : List Int), m2 fIx ml (mTree (mCallP D__law_take 0 (mCons (mC (.int 8)) mNil))) e = .ok (.val (.int x)) (e.set 0 (some (.own (pn ns')))) ∧ (x = a ∨ x = b ∨ x = c ∨ x = d ∨ x = f ∨ x = g ∨ x = h ∨ x = k) := by
  obtain ⟨r, ns', hc, i, rfl, hi0, hi1⟩ := callP (take_ok (b := 8) (by decide)) (ts := [.int 8]) (i := 0) (ms := mCons (mC (.int 8)) mNil) (e := e) (ns := ns) he rfl
  obtain ⟨x, hx, hx2⟩ := lst8 (a := a) (b := b) (c := c) (d := d) (f := f) (g := g) (h := h) (k := k) hi0 hi1
  refine ⟨x, ns', ?_, hx2⟩
  have ht := tree_ok hc
  simp only [m2, hl, Res.bind]
  rw [ht]
  simp only [RV.tree, hx, give]
def Mnet : Ms := (mSeq (mSet 1 (m2 fIx (mTree (mLst (mCons (mC (.int 3)) (mCons (mC (.int 1)) (mCons (mC (.int 2)) (mCons (mC (.int 4)) (mCons (mC (.int 5)) (mCons (mC (.int 8)) (mCons (mC (.int 2)) (mCons (mC (.int 3)) mNil)))))))))) (mTree (mCallP D__law_take 0 (mCons (mC (.int 8)) mNil)))))
  (mSeq (mSet 2 (mLst mNil))
  (mSeq (mIfS (mTst (mTree (m2 fGt (mVar 1) (mC (.int 1)))))
  (mFor (mRng (mCons (mTree (m2 fIx (mTree (mLst (mCons (mC (.int 2)) (mCons (mC (.int 0)) (mCons (mC (.int 1)) (mCons (mC (.int 3)) (mCons (mC (.int 4)) (mCons (mC (.int 5)) (mCons (mC (.int 14)) (mCons (mC (.int 3)) mNil)))))))))) (mTree (mCallP D__law_take 0 (mCons (mC (.int 8)) mNil))))) mNil)) (gN 3)
  bodyN)
  mNx)
  (mRet (mVal (mTup (mCons (mVar 1) (mCons (mTree (mN fTuple (mCons (mVar 2) mNil))) mNil))))))))
theorem Mnet_eq : M__law_net = Mnet := rfl
theorem net_ok : PO D__law_net [] netP := run_po rfl rfl fun ns => by
  show ∃ r ns' e, M__law_net [some (.own (pn ns)), none, none, none, none, none] = _ ∧ _
  obtain ⟨n, ns1, hp, hn⟩ := pick8 (ml := mTree (mLst (mCons (mC (.int 3)) (mCons (mC (.int 1)) (mCons (mC (.int 2)) (mCons (mC (.int 4)) (mCons (mC (.int 5)) (mCons (mC (.int 8)) (mCons (mC (.int 2)) (mCons (mC (.int 3)) mNil)))))))))) (e := [some (.own (pn ns)), none, none, none, none, none]) (ns := ns) rfl rfl
  rw [Mnet_eq]
  unfold Mnet
  rw [seq_set hp]
  simp only [List.set]
  rw [seq_set (i := 2) (m := mLst mNil) (e := [some (.own (pn ns1)), some (.val (.int n)), none, none, none, none]) (e1 := [some (.own (pn ns1)), some (.val (.int n)), none, none, none, none]) (r := .own []) rfl]
  simp only [List.set]
  have fin : ∀ (ns' : List Int) (rows : List T) (y3 y4 y5 : Option RV), rows.length ≤ 14 → (∀ l ∈ rows, lineP l) → ∃ r ns'' e, mRet (mVal (mTup (mCons (mVar 1) (mCons (mTree (mN fTuple (mCons (mVar 2) mNil))) mNil)))) [some (.own (pn ns')), some (.val (.int n)), some (.own rows), y3, y4, y5] = .ok (.rt (.val r)) (some (.own (pn ns'')) :: e) ∧ netP r := fun ns' rows y3 y4 y5 h1 h2 => by
    refine ⟨.tuple [.int n, .tuple rows], ns', [some (.val (.int n)), some (.val (.list rows)), y3, y4, y5], ?_, n.toNat, rows, by rw [show ((n.toNat : Nat) : Int) = n by omega], by omega, by omega, h1, h2⟩
    exact ret_eq (val_ok (tup_ok (cons_ok rfl (cons_ok rfl rfl)) (by simp)))
  by_cases h1 : 1 < n
  · have c1 : mTst (mTree (m2 fGt (mVar 1) (mC (.int 1)))) [some (.own (pn ns1)), some (.val (.int n)), some (.own []), none, none, none] = .ok true [some (.own (pn ns1)), some (.val (.int n)), some (.own []), none, none, none] := by
      simp [runDef, List.replicate, mRet, mVal, mTree, mCall, mCons, mNil, mVar, mC, mSeq, mIfS, mNx, mNotT, mTst, mAndT, mOrT, mAndV, mOrV, mNotV, Res.bind, RV.tree, give, mAsg, gT, gN, gsCons, gsNil, mChainT, qLink, qLast, yes, asBool, m2, m1, mN, mTup, mSet, keepE, fCmp, h1]
    obtain ⟨m, ns2, hq, hm⟩ := pick8 (ml := mTree (mLst (mCons (mC (.int 2)) (mCons (mC (.int 0)) (mCons (mC (.int 1)) (mCons (mC (.int 3)) (mCons (mC (.int 4)) (mCons (mC (.int 5)) (mCons (mC (.int 14)) (mCons (mC (.int 3)) mNil)))))))))) (e := [some (.own (pn ns1)), some (.val (.int n)), some (.own []), none, none, none]) (ns := ns1) rfl rfl
    obtain ⟨ns3, rows, y3, y4, y5, hl, g1, g2⟩ := loopN (n := n) (by omega) (by omega) m.toNat 0 ns2 [] none none none (by simp; omega) (by simp)
    have ht := tree_ok hq
    have hf : mFor (mRng (mCons (mTree (m2 fIx (mTree (mLst (mCons (mC (.int 2)) (mCons (mC (.int 0)) (mCons (mC (.int 1)) (mCons (mC (.int 3)) (mCons (mC (.int 4)) (mCons (mC (.int 5)) (mCons (mC (.int 14)) (mCons (mC (.int 3)) mNil)))))))))) (mTree (mCallP D__law_take 0 (mCons (mC (.int 8)) mNil))))) mNil)) (gN 3) bodyN [some (.own (pn ns1)), some (.val (.int n)), some (.own []), none, none, none]
        = .ok .nx [some (.own (pn ns3)), some (.val (.int n)), some (.own rows), y3, y4, y5] := by
      rw [← hl]
      simp only [mFor, mRng]
      rw [cons_ok ht (show mNil _ = .ok [] _ from rfl)]
      simp only [Res.bind, RV.tree]
      rw [if_pos (by omega)]
      rfl
    rw [seq_if_nx (b := mFor (mRng (mCons (mTree (m2 fIx (mTree (mLst (mCons (mC (.int 2)) (mCons (mC (.int 0)) (mCons (mC (.int 1)) (mCons (mC (.int 3)) (mCons (mC (.int 4)) (mCons (mC (.int 5)) (mCons (mC (.int 14)) (mCons (mC (.int 3)) mNil)))))))))) (mTree (mCallP D__law_take 0 (mCons (mC (.int 8)) mNil))))) mNil)) (gN 3) bodyN) c1 hf]
    exact fin ns3 rows y3 y4 y5 g1 g2
  · have c1 : mTst (mTree (m2 fGt (mVar 1) (mC (.int 1)))) [some (.own (pn ns1)), some (.val (.int n)), some (.own []), none, none, none] = .ok false [some (.own (pn ns1)), some (.val (.int n)), some (.own []), none, none, none] := by
      simp [runDef, List.replicate, mRet, mVal, mTree, mCall, mCons, mNil, mVar, mC, mSeq, mIfS, mNx, mNotT, mTst, mAndT, mOrT, mAndV, mOrV, mNotV, Res.bind, RV.tree, give, mAsg, gT, gN, gsCons, gsNil, mChainT, qLink, qLast, yes, asBool, m2, m1, mN, mTup, mSet, keepE, fCmp, h1]
    rw [seq_if_f c1]
    exact fin ns1 [] none none none (by simp) (by simp)
end G
end
section
set_option Elab.async false
set_option linter.all false
set_option autoImplicit false
set_option maxRecDepth 100000
set_option maxHeartbeats 2000000
namespace G
open PySem PySem.Spec PyProof.Rows L2 TL
def bodyI : Ms := (mSeq (mIfS (mTst (mTree (m2 fEq (mVar 5) (mC (.int 0)))))
  (fun e => .ok .bk e)
  mNx)
  (mSeq (mDrop (mApp 1 (mTree (m2 fMod (mTree (mN fInt (mCons (mVar 5) mNil))) (mC (.int 1009))))))
  (mSet 5 (m2 fDiv (mVar 5) (mC (.int 1009))))))
def bodyO : Ms := (mSeq (mSet 2 (m2 fMod (mTree (mN fInt (mCons (mTree (m2 fAdd (mTree (m2 fAdd (mTree (m2 fMul (mVar 2) (mC (.int 48271)))) (mTree (m2 fMod (mTree (mN fInt (mCons (mVar 3) mNil))) (mC (.int 2147483629)))))) (mC (.int 3)))) mNil))) (mC (.int 2147483647))))
  (mIfS (mTst (mTree (m2 fLt (mLenV 1) (mC (.int 120)))))
  (mIfS (mTst (mTree (m2 fGe (mVar 3) (mTree (m2 fPow (mC (.int 10)) (mC (.int 18)))))))
  (mSeq (mSet 5 (mVal (mVar 3)))
  (mFor (mRng (mCons (mC (.int 60)) mNil)) (gN 4)
  bodyI))
  (mDrop (mApp 1 (mTree (m2 fMod (mTree (mN fInt (mCons (mTree (m2 fAdd (mTree (m2 fMul (mTree (m2 fDiv (mVar 2) (mC (.int 5)))) (mC (.int 69621)))) (mVar 2))) mNil))) (mC (.int 1000003)))))))
  mNx))
def bodyT : Ms := (mSeq (mSet 2 (m2 fMod (mTree (mN fInt (mCons (mTree (m2 fAdd (mTree (m2 fAdd (mTree (m2 fMul (mVar 2) (mC (.int 16807)))) (mC (.int 90001)))) (mVar 4))) mNil))) (mC (.int 2147483647))))
  (mDrop (mApp 1 (mTree (m2 fMod (mTree (mN fInt (mCons (mTree (m2 fAdd (mTree (m2 fMul (mTree (m2 fDiv (mVar 2) (mC (.int 11)))) (mVar 2))) (mTree (m2 fDiv (mVar 2) (mC (.int 3)))))) mNil))) (mC (.int 999983)))))))
def Mpool : Ms := (mSeq (mSet 1 (mLst mNil))
  (mSeq (mIfS (mTst (mTree (m2 fEq (mLenV 0) (mC (.int 0)))))
  (mRet (mTake 1))
  mNx)
  (mSeq (mSet 2 (mVal (mC (.int 20011))))
  (mSeq (mFor (mSeq1 (mVar 0)) (gN 3)
  bodyO)
  (mSeq (mFor (mRng (mCons (mC (.int 170)) mNil)) (gN 4)
  bodyT)
  (mRet (m1 fRev (mVar 1))))))))
theorem Mpool_eq : M__law_pool = Mpool := rfl
theorem app_pn (xs : List Int) (x : Int) : pn xs ++ [.int x] = pn (xs ++ [x]) := by simp [pn]
theorem len_pn (xs : List Int) : (pn xs).length = xs.length := by simp [pn]
theorem stepI {s c3 k4 : Option RV} {xs : List Int} {st : Option RV} {l : Int} (hx : xs.length < 1000) : bodyI [s, some (.own (pn xs)), st, c3, k4, some (.val (.int l))] = (if l = 0 then .ok .bk [s, some (.own (pn xs)), st, c3, k4, some (.val (.int l))] else .ok .nx [s, some (.own (pn (xs ++ [l % 1009]))), st, c3, k4, some (.val (.int (l / 1009)))]) := by
  have hl : (pn xs).length < 100000 := by rw [len_pn]; omega
  have hs : small 1009 = true := by decide
  by_cases h : l = 0
  · subst h
    rw [if_pos rfl]
    rfl
  · rw [if_neg h]
    simp [runDef, List.replicate, mRet, mVal, mTree, mCall, mCons, mNil, mVar, mC, mSeq, mIfS, mNx, mNotT, mTst, mAndT, mOrT, mAndV, mOrV, mNotV, Res.bind, RV.tree, give, mAsg, gT, gN, gsCons, gsNil, mChainT, qLink, qLast, yes, asBool, m2, m1, mN, mTup, mSet, keepE, bodyI, fEq, TL.same, h, mDrop, mApp, fInt, fMod, fDiv, hl, hs, app_pn]
theorem loopI {s c3 st : Option RV} : ∀ (f : Nat) (lo : Int) (xs : List Int) (k4 : Option RV) (l : Int), xs.length + f < 1000 → ∃ xs' y4 y5, mLoop (gN 4) bodyI (rngT lo f) [s, some (.own (pn xs)), st, c3, k4, some (.val (.int l))] = .ok .nx [s, some (.own (pn xs')), st, c3, y4, y5] ∧ xs'.length ≤ xs.length + f
  | 0, lo, xs, k4, l, h => ⟨xs, k4, _, rfl, by omega⟩
  | f + 1, lo, xs, k4, l, h => by
    rw [rng_cons]
    unfold mLoop
    simp only [gN, List.set]
    rw [stepI (by omega)]
    by_cases hl : l = 0
    · rw [if_pos hl]
      exact ⟨xs, _, _, rfl, by omega⟩
    · rw [if_neg hl]
      obtain ⟨xs', y4, y5, ih, g⟩ := loopI (s := s) (c3 := c3) (st := st) f (lo + 1) (xs ++ [l % 1009]) (some (.val (.int lo))) (l / 1009) (by simp; omega)
      exact ⟨xs', y4, y5, ih, by simp at g; omega⟩
theorem small_st {n : Int} (h0 : 0 ≤ n) (h : n < 2147483648) : small n = true := by
  unfold small
  rw [decide_eq_true_iff]
  have hv : n.natAbs < 2 ^ 31 := by omega
  by_cases hz : n.natAbs = 0
  · rw [hz]; decide
  · have := (Nat.log2_lt hz).mpr hv
    omega
theorem stepO {s k4 l5 : Option RV} {xs : List Int} {st c : Int} (hx : xs.length ≤ 180) (h0 : 0 ≤ st) (h1 : st < 2147483647) : ∃ xs' st' y4 y5, bodyO [s, some (.own (pn xs)), some (.val (.int st)), some (.val (.int c)), k4, l5] = .ok .nx [s, some (.own (pn xs')), some (.val (.int st')), some (.val (.int c)), y4, y5] ∧ xs'.length ≤ 180 ∧ 0 ≤ st' ∧ st' < 2147483647 := by
  have a0 : 0 ≤ (st * 48271 + c % 2147483629 + 3) % 2147483647 := Int.emod_nonneg _ (by decide)
  have a1 : (st * 48271 + c % 2147483629 + 3) % 2147483647 < 2147483647 := Int.emod_lt_of_pos _ (by decide)
  generalize hst : (st * 48271 + c % 2147483629 + 3) % 2147483647 = st' at a0 a1
  have hs := small_st h0 (by omega : st < 2147483648)
  have hs2 : small 48271 = true := by decide
  have e2 : m2 fMod (mTree (mN fInt (mCons (mTree (m2 fAdd (mTree (m2 fAdd (mTree (m2 fMul (mVar 2) (mC (.int 48271)))) (mTree (m2 fMod (mTree (mN fInt (mCons (mVar 3) mNil))) (mC (.int 2147483629)))))) (mC (.int 3)))) mNil))) (mC (.int 2147483647)) [s, some (.own (pn xs)), some (.val (.int st)), some (.val (.int c)), k4, l5]
      = .ok (.val (.int st')) [s, some (.own (pn xs)), some (.val (.int st)), some (.val (.int c)), k4, l5] := by
    simp [m2, mN, mTree, mCons, mNil, mVar, mC, Res.bind, fMul, fMod, fInt, fAdd, hs, hs2, give, RV.tree, hst]
  unfold bodyO
  rw [seq_set e2]
  simp only [List.set]
  by_cases hlen : xs.length < 120
  · have c1 : mTst (mTree (m2 fLt (mLenV 1) (mC (.int 120)))) [s, some (.own (pn xs)), some (.val (.int st')), some (.val (.int c)), k4, l5] = .ok true [s, some (.own (pn xs)), some (.val (.int st')), some (.val (.int c)), k4, l5] := by
      have : (xs.length : Int) < 120 := by omega
      simp [runDef, List.replicate, mRet, mVal, mTree, mCall, mCons, mNil, mVar, mC, mSeq, mIfS, mNx, mNotT, mTst, mAndT, mOrT, mAndV, mOrV, mNotV, Res.bind, RV.tree, give, mAsg, gT, gN, gsCons, gsNil, mChainT, qLink, qLast, yes, asBool, m2, m1, mN, mTup, mSet, keepE, mLenV, peek, fCmp, len_pn, this]
    by_cases hc : (1000000000000000000 : Int) ≤ c
    · have c2 : mTst (mTree (m2 fGe (mVar 3) (mTree (m2 fPow (mC (.int 10)) (mC (.int 18)))))) [s, some (.own (pn xs)), some (.val (.int st')), some (.val (.int c)), k4, l5] = .ok true [s, some (.own (pn xs)), some (.val (.int st')), some (.val (.int c)), k4, l5] := by
        simp [runDef, List.replicate, mRet, mVal, mTree, mCall, mCons, mNil, mVar, mC, mSeq, mIfS, mNx, mNotT, mTst, mAndT, mOrT, mAndV, mOrV, mNotV, Res.bind, RV.tree, give, mAsg, gT, gN, gsCons, gsNil, mChainT, qLink, qLast, yes, asBool, m2, m1, mN, mTup, mSet, keepE, fCmp, fPow, hc]
      obtain ⟨xs', y4, y5, hl, g⟩ := loopI (s := s) (c3 := some (.val (.int c))) (st := some (.val (.int st'))) 60 0 xs k4 c (by omega)
      refine ⟨xs', st', y4, y5, ?_, by omega, a0, a1⟩
      simp only [mIfS, c1, Res.bind, if_true, c2]
      rw [seq_set (i := 5) (m := mVal (mVar 3)) (e1 := [s, some (.own (pn xs)), some (.val (.int st')), some (.val (.int c)), k4, l5]) (r := .val (.int c)) rfl]
      simp only [List.set]
      exact hl
    · have c2 : mTst (mTree (m2 fGe (mVar 3) (mTree (m2 fPow (mC (.int 10)) (mC (.int 18)))))) [s, some (.own (pn xs)), some (.val (.int st')), some (.val (.int c)), k4, l5] = .ok false [s, some (.own (pn xs)), some (.val (.int st')), some (.val (.int c)), k4, l5] := by
        simp [runDef, List.replicate, mRet, mVal, mTree, mCall, mCons, mNil, mVar, mC, mSeq, mIfS, mNx, mNotT, mTst, mAndT, mOrT, mAndV, mOrV, mNotV, Res.bind, RV.tree, give, mAsg, gT, gN, gsCons, gsNil, mChainT, qLink, qLast, yes, asBool, m2, m1, mN, mTup, mSet, keepE, fCmp, fPow, hc]
      have hl : (pn xs).length < 100000 := by rw [len_pn]; omega
      have hs5 : small 5 = true := by decide
      have hs6 : small 69621 = true := by decide
      have hd : small (st' / 5) = true := small_st (Int.ediv_nonneg a0 (by decide)) (by omega)
      refine ⟨xs ++ [(st' / 5 * 69621 + st') % 1000003], st', k4, l5, ?_, by simp; omega, a0, a1⟩
      simp only [mIfS, c1, Res.bind, if_true, c2]
      simp [mDrop, mApp, m2, mN, mTree, mCons, mNil, mVar, mC, Res.bind, fMul, fMod, fInt, fAdd, fDiv, hs5, hs6, hd, give, RV.tree, hl, app_pn]
  · have c1 : mTst (mTree (m2 fLt (mLenV 1) (mC (.int 120)))) [s, some (.own (pn xs)), some (.val (.int st')), some (.val (.int c)), k4, l5] = .ok false [s, some (.own (pn xs)), some (.val (.int st')), some (.val (.int c)), k4, l5] := by
      have : ¬ (xs.length : Int) < 120 := by omega
      simp [runDef, List.replicate, mRet, mVal, mTree, mCall, mCons, mNil, mVar, mC, mSeq, mIfS, mNx, mNotT, mTst, mAndT, mOrT, mAndV, mOrV, mNotV, Res.bind, RV.tree, give, mAsg, gT, gN, gsCons, gsNil, mChainT, qLink, qLast, yes, asBool, m2, m1, mN, mTup, mSet, keepE, mLenV, peek, fCmp, len_pn, this]
    refine ⟨xs, st', k4, l5, ?_, hx, a0, a1⟩
    simp [mIfS, c1, Res.bind, mNx]
end G
end
section
set_option Elab.async false
set_option linter.all false
set_option autoImplicit false
set_option maxRecDepth 100000
set_option maxHeartbeats 2000000
namespace G
open PySem PySem.Spec PyProof.Rows L2 TL
def scrT (ns : List Int) : T := .dict (ns.map fun n => (.int n, .none))
theorem ints_map : ∀ ns : List Int, ints? (ns.map fun n => (PyData.int n, PyData.none)) = some ns
  | [] => rfl
  | n :: ns => by
    show (ints? (ns.map fun n => (PyData.int n, PyData.none))).map (n :: ·) = _
    rw [ints_map ns]
    rfl
theorem items_scr (ns : List Int) : items (scrT ns) = some (pn ns) := by
  unfold scrT
  show (ints? _).map _ = _
  rw [ints_map]
  rfl
theorem loopO {s : Option RV} : ∀ (cs : List Int) (xs : List Int) (st : Int) (c3 k4 l5 : Option RV), xs.length ≤ 180 → 0 ≤ st → st < 2147483647 → ∃ xs' st' y3 y4 y5, mLoop (gN 3) bodyO (pn cs) [s, some (.own (pn xs)), some (.val (.int st)), c3, k4, l5] = .ok .nx [s, some (.own (pn xs')), some (.val (.int st')), y3, y4, y5] ∧ xs'.length ≤ 180 ∧ 0 ≤ st' ∧ st' < 2147483647
  | [], xs, st, c3, k4, l5, h, h0, h1 => ⟨xs, st, c3, k4, l5, rfl, h, h0, h1⟩
  | c :: cs, xs, st, c3, k4, l5, h, h0, h1 => by
    obtain ⟨xs1, st1, y4, y5, hs, g, g0, g1⟩ := stepO (s := s) (k4 := k4) (l5 := l5) (c := c) h h0 h1
    obtain ⟨xs', st', z3, z4, z5, ih, r⟩ := loopO (s := s) cs xs1 st1 (some (.val (.int c))) y4 y5 g g0 g1
    refine ⟨xs', st', z3, z4, z5, ?_, r⟩
    show mLoop (gN 3) bodyO (.int c :: pn cs) _ = _
    unfold mLoop
    simp only [gN, List.set]
    rw [hs]
    exact ih
theorem stepT {s c3 l5 : Option RV} {xs : List Int} {st k : Int} (hx : xs.length < 1000) (h0 : 0 ≤ st) (h1 : st < 2147483647) : ∃ x st', bodyT [s, some (.own (pn xs)), some (.val (.int st)), c3, some (.val (.int k)), l5] = .ok .nx [s, some (.own (pn (xs ++ [x]))), some (.val (.int st')), c3, some (.val (.int k)), l5] ∧ 0 ≤ st' ∧ st' < 2147483647 := by
  have a0 : 0 ≤ (st * 16807 + 90001 + k) % 2147483647 := Int.emod_nonneg _ (by decide)
  have a1 : (st * 16807 + 90001 + k) % 2147483647 < 2147483647 := Int.emod_lt_of_pos _ (by decide)
  generalize hst : (st * 16807 + 90001 + k) % 2147483647 = st' at a0 a1
  have hs := small_st h0 (by omega : st < 2147483648)
  have hs1 := small_st a0 (by omega : st' < 2147483648)
  have hs2 : small 16807 = true := by decide
  have hs3 : small 11 = true := by decide
  have hs4 : small 3 = true := by decide
  have hd : small (st' / 11) = true := small_st (Int.ediv_nonneg a0 (by decide)) (by omega)
  have hl : (pn xs).length < 100000 := by rw [len_pn]; omega
  have e2 : m2 fMod (mTree (mN fInt (mCons (mTree (m2 fAdd (mTree (m2 fAdd (mTree (m2 fMul (mVar 2) (mC (.int 16807)))) (mC (.int 90001)))) (mVar 4))) mNil))) (mC (.int 2147483647)) [s, some (.own (pn xs)), some (.val (.int st)), c3, some (.val (.int k)), l5]
      = .ok (.val (.int st')) [s, some (.own (pn xs)), some (.val (.int st)), c3, some (.val (.int k)), l5] := by
    simp [m2, mN, mTree, mCons, mNil, mVar, mC, Res.bind, fMul, fMod, fInt, fAdd, hs, hs2, give, RV.tree, hst]
  refine ⟨(st' / 11 * st' + st' / 3) % 999983, st', ?_, a0, a1⟩
  unfold bodyT
  rw [seq_set e2]
  simp only [List.set]
  simp [mDrop, mApp, m2, mN, mTree, mCons, mNil, mVar, mC, Res.bind, fMul, fMod, fInt, fAdd, fDiv, hs1, hs3, hs4, hd, give, RV.tree, hl, app_pn]
theorem loopT {s c3 l5 : Option RV} : ∀ (f : Nat) (lo : Int) (xs : List Int) (st : Int) (k4 : Option RV), xs.length + f < 1000 → 0 ≤ st → st < 2147483647 → ∃ xs' st' y4, mLoop (gN 4) bodyT (rngT lo f) [s, some (.own (pn xs)), some (.val (.int st)), c3, k4, l5] = .ok .nx [s, some (.own (pn xs')), some (.val (.int st')), c3, y4, l5]
  | 0, lo, xs, st, k4, h, h0, h1 => ⟨xs, st, k4, rfl⟩
  | f + 1, lo, xs, st, k4, h, h0, h1 => by
    obtain ⟨x, st1, hs, g0, g1⟩ := stepT (s := s) (c3 := c3) (l5 := l5) (k := lo) (xs := xs) (by omega) h0 h1
    obtain ⟨xs', st', y4, ih⟩ := loopT (s := s) (c3 := c3) (l5 := l5) f (lo + 1) (xs ++ [x]) st1 (some (.val (.int lo))) (by simp; omega) g0 g1
    refine ⟨xs', st', y4, ?_⟩
    rw [rng_cons]
    unfold mLoop
    simp only [gN, List.set]
    rw [hs]
    exact ih
theorem pool_ok (ns : List Int) (hn : ns.length ≤ 63) : ∃ xs e, D__law_pool [.val (scrT ns)] = .ok (.own (pn xs)) e := by
  have key : ∃ xs e, M__law_pool [some (.val (scrT ns)), none, none, none, none, none] = .ok (.rt (.own (pn xs))) e := by
    rw [Mpool_eq]
    unfold Mpool
    rw [seq_set (i := 1) (m := mLst mNil) (e1 := [some (.val (scrT ns)), none, none, none, none, none]) (r := .own []) rfl]
    simp only [List.set]
    have c0 : mTst (mTree (m2 fEq (mLenV 0) (mC (.int 0)))) [some (.val (scrT ns)), some (.own []), none, none, none, none] = .ok (decide (ns.length = 0)) [some (.val (scrT ns)), some (.own []), none, none, none, none] := by
      simp [runDef, List.replicate, mRet, mVal, mTree, mCall, mCons, mNil, mVar, mC, mSeq, mIfS, mNx, mNotT, mTst, mAndT, mOrT, mAndV, mOrV, mNotV, Res.bind, RV.tree, give, mAsg, gT, gN, gsCons, gsNil, mChainT, qLink, qLast, yes, asBool, m2, m1, mN, mTup, mSet, keepE, mLenV, peek, items_scr, fEq, TL.same, len_pn]
    by_cases h : ns.length = 0
    · rw [decide_eq_true h] at c0
      exact ⟨[], [some (.val (scrT ns)), none, none, none, none, none], seq_if_t c0 (ret_eq rfl)⟩
    · rw [decide_eq_false h] at c0
      rw [seq_if_f c0, seq_set (i := 2) (m := mVal (mC (.int 20011))) (e1 := [some (.val (scrT ns)), some (.own []), none, none, none, none]) (r := .val (.int 20011)) rfl]
      simp only [List.set]
      obtain ⟨xs1, st1, y3, y4, y5, h1, g1, g2, g3⟩ := loopO (s := some (.val (scrT ns))) ns [] 20011 none none none (by decide) (by decide) (by decide)
      obtain ⟨xs2, st2, y6, h2⟩ := loopT (s := some (.val (scrT ns))) (c3 := y3) (l5 := y5) 170 0 xs1 st1 y4 (by omega) g2 g3
      have f1 : mFor (mSeq1 (mVar 0)) (gN 3) bodyO [some (.val (scrT ns)), some (.own []), some (.val (.int 20011)), none, none, none] = .ok .nx [some (.val (scrT ns)), some (.own (pn xs1)), some (.val (.int st1)), y3, y4, y5] := by
        rw [← h1]
        simp only [mFor, mSeq1, mVar, Res.bind, List.getElem?_cons_zero, items_scr]
        rfl
      have f2 : mFor (mRng (mCons (mC (.int 170)) mNil)) (gN 4) bodyT [some (.val (scrT ns)), some (.own (pn xs1)), some (.val (.int st1)), y3, y4, y5] = _ := h2
      rw [seq_nx f1, seq_nx f2]
      refine ⟨xs2.reverse, _, ret_eq (e1 := [some (.val (scrT ns)), some (.val (.list (pn xs2))), some (.val (.int st2)), y3, y6, y5]) ?_⟩
      simp [m1, mVar, Res.bind, fRev, give, pn]
  obtain ⟨xs, e, h⟩ := key
  refine ⟨xs, keepE [0] 1 e, ?_⟩
  unfold D__law_pool runDef
  rw [if_pos (show [RV.val (scrT ns)].length = 1 from rfl)]
  rw [show M__law_pool (List.map some [RV.val (scrT ns)] ++ List.replicate (6 - 1) none) = _ from h]
end G
end
section
set_option Elab.async false
set_option linter.all false
set_option autoImplicit false
set_option maxRecDepth 100000
set_option maxHeartbeats 2000000
set_option exponentiation.threshold 10000
namespace G
open PySem PySem.Spec PyProof.Rows L2 TL
def okQb : T → Bool
  | .tuple [.int a, .int b] => decide (a.natAbs < 2 ^ 200) && decide (b.natAbs < 2 ^ 8000)
  | _ => true
theorem okQ_of {t : T} (h : okQb t = true) : okQ t := fun a b e => by
  subst e
  have h' : (decide (a.natAbs < 2 ^ 200) && decide (b.natAbs < 2 ^ 8000)) = true := h
  rw [Bool.and_eq_true] at h'
  exact ⟨of_decide_eq_true h'.1, of_decide_eq_true h'.2⟩
def good (t : T) : Bool := fit t && okQb t
/-- an item at a place that is taken from the pool -/
theorem atI_lt {ts : List T} {i : Int} (h : 0 ≤ i) (h2 : i < ts.length) : ∃ t ∈ ts, atI ts i = some t := atI_in h h2
theorem pickM {L : List T} {n : Int} {ns : List Int} {e : En} {ml : Mt} (hl : ml e = .ok (.list L) e) (hn : (L.length : Int) = n) (h0 : 0 < n) (he : e[0]? = some (some (.own (pn ns)))) :
    ∃ (x : T) (ns' : List Int), m2 fIx ml (mTree (mCallP D__law_take 0 (mCons (mC (.int n)) mNil))) e = .ok (.val x) (e.set 0 (some (.own (pn ns')))) ∧ x ∈ L := by
  obtain ⟨r, ns', hc, i, rfl, hi0, hi1⟩ := callP (take_ok (b := n) h0) (ts := [.int n]) (i := 0) (ms := mCons (mC (.int n)) mNil) (e := e) (ns := ns) he rfl
  obtain ⟨x, hx, hx2⟩ := atI_in (ts := L) hi0 (by omega)
  refine ⟨x, ns', ?_, hx⟩
  have ht := tree_ok hc
  simp only [m2, hl, Res.bind]
  rw [ht]
  simp only [RV.tree, fIx, hx2, give, Option.map]
theorem pickV {L : List T} {n : Int} {j : Nat} {ns : List Int} {e : En} (hj : e[j]? = some (some (.own L))) (hj0 : j ≠ 0) (hn : (L.length : Int) = n) (h0 : 0 < n) (he : e[0]? = some (some (.own (pn ns)))) :
    ∃ (x : T) (ns' : List Int), mIxV j (mTree (mCallP D__law_take 0 (mCons (mC (.int n)) mNil))) e = .ok x (e.set 0 (some (.own (pn ns')))) ∧ x ∈ L := by
  obtain ⟨r, ns', hc, i, rfl, hi0, hi1⟩ := callP (take_ok (b := n) h0) (ts := [.int n]) (i := 0) (ms := mCons (mC (.int n)) mNil) (e := e) (ns := ns) he rfl
  obtain ⟨x, hx, hx2⟩ := atI_in (ts := L) hi0 (by omega)
  refine ⟨x, ns', ?_, hx⟩
  have ht := tree_ok hc
  simp only [mIxV, hj]
  rw [ht]
  simp only [Res.bind, RV.tree, peek, List.getElem?_set_ne (Ne.symm hj0), hj, hx2]
def oddL : List T := [.none, .bool true, .bool false, .int 0, .int 1, .int (-1), .str "", .str "0", .str "abc", .tuple [], .tuple [.int 0], .list [.int 0], .tuple [.int 0, .int 1], .list [.int 0, .int 1, .int 1], .tuple [.int 0, .int 1, .int 1], .tuple [.int 1, .int 0, .int 1],
  .tuple [.int 0, .int 0, .int 1], .tuple [.int 0, .int 1, .int 0], .tuple [.int 0, .int 1, .bool true], .tuple [.bool false, .int 1, .int 1], .tuple [.int 0, .int 1, .str "1"], .tuple [.int 0, .int 1, .int 1, .int 1], .int (10 ^ 59), .int (-7)]
theorem oddL_good : ∀ x ∈ oddL, good x = true ∧ (∀ i, x = .int i → i.natAbs < 2 ^ 200) := by
  have h : (oddL.all fun x => good x && (match x with | .int i => decide (i.natAbs < 2 ^ 200) | _ => true)) = true := by decide +kernel
  intro x hx
  have z := List.all_eq_true.mp h x hx
  rw [Bool.and_eq_true] at z
  refine ⟨z.1, fun i e => ?_⟩
  subst e
  exact of_decide_eq_true z.2
def oddP (x : T) : Prop := good x = true ∧ ∀ i, x = .int i → i.natAbs < 2 ^ 200
theorem odd_ok : PO D__law_odd [] oddP := run_po rfl rfl fun ns => by
  show ∃ r ns' e, M__law_odd [some (.own (pn ns)), none] = _ ∧ _
  obtain ⟨x, ns', hp, hx⟩ := pickV (L := oddL) (n := 24) (j := 1) (e := [some (.own (pn ns)), some (.own oddL)]) (ns := ns) rfl (by decide) (by decide) (by decide) rfl
  refine ⟨x, ns', [some (.own oddL)], ?_, oddL_good x hx⟩
  have hM : ∀ (rest : Ms), (mSeq (mSet 1 (mVal (mC .none))) rest) = mSeq (mSet 1 (mVal (mC .none))) rest := fun _ => rfl
  exact (show M__law_odd [some (.own (pn ns)), none] = mRet (mVal (mIxV 1 (mTree (mCallP D__law_take 0 (mCons (mC (.int 24)) mNil))))) [some (.own (pn ns)), some (.own oddL)] from rfl).trans (ret_eq (val_ok hp))
end G
end
section
set_option Elab.async false
set_option linter.all false
set_option autoImplicit false
set_option maxRecDepth 100000
set_option maxHeartbeats 2000000
set_option exponentiation.threshold 10000
namespace G
open PySem PySem.Spec PyProof.Rows L2 TL
/-- the same where the answer may be a new list -/
def PV (D : DF) (args : List RV) (P : T → Prop) : Prop := ∀ ns, ∃ r ns' e', D (.own (pn ns) :: args) = .ok r e' ∧ e'[0]? = some (some (.own (pn ns'))) ∧ P r.tree
theorem callPV {D : DF} {ts : List T} {P : T → Prop} (h : PV D (ts.map .val) P) {i : Nat} {ms : Ml} {e e1 : En} {ns ns0 : List Int} (he0 : e[i]? = some (some (.own (pn ns0)))) (he : e1[i]? = some (some (.own (pn ns)))) (hm : ms e = .ok ts e1) : ∃ r ns', mCallP D i ms e = .ok r (e1.set i (some (.own (pn ns')))) ∧ P r.tree := by
  obtain ⟨r, ns', e', h1, h2, h3⟩ := h ns
  refine ⟨r, ns', ?_, h3⟩
  simp only [mCallP, he0, hm, Res.bind, afterP, he, h1, h2, Option.join]
  rfl
theorem run_pv {n : Nat} {np : Nat} {keep : List Nat} {m : Ms} {args : List RV} {P : T → Prop} (hl : args.length + 1 = np) (hk : keep.contains 0 = true)
    (h : ∀ ns, ∃ r ns' e, m (some (.own (pn ns)) :: args.map some ++ List.replicate (n - np) none) = .ok (.rt r) (some (.own (pn ns')) :: e) ∧ P r.tree) : PV (runDef n np keep m) args P := fun ns => by
  obtain ⟨r, ns', e, h1, h2⟩ := h ns
  refine ⟨r, ns', keepE keep np (some (.own (pn ns')) :: e), ?_, ?_, h2⟩
  · unfold runDef
    rw [if_pos (by simpa using hl)]
    rw [show m (List.map some (RV.own (pn ns) :: args) ++ List.replicate (n - np) none) = _ from h1]
  · unfold keepE
    rw [List.getElem?_map, List.getElem?_range (by omega)]
    simp only [Option.map, hk, if_true, List.getElem?_cons_zero, Option.join]
    rfl
def atom : T → Bool
  | .none => true
  | .bool _ => true
  | .str _ => true
  | .int i => decide (i.natAbs < 2 ^ 200)
  | _ => false
theorem fits_atom : ∀ {xs : List T}, (∀ x ∈ xs, atom x = true) → fits xs = true
  | [], _ => rfl
  | x :: xs, h => by
    have h1 : fit x = true := by
      have := h x (by simp)
      cases x <;> first | rfl | cases this
    have h2 := fits_atom (xs := xs) fun y hy => h y (by simp [hy])
    show (fit x && fits xs) = true
    rw [h1, h2]
    rfl
theorem atoms_good {xs : List T} (h : ∀ x ∈ xs, atom x = true) (hl : xs.length ≤ 1000) : good (.tuple xs) = true ∧ good (.list xs) = true := by
  have h1 := fits_atom h
  constructor
  · have h2 : fit (.tuple xs) = true := by
      show (decide (xs.length ≤ 100000) && fits xs) = true
      rw [h1, decide_eq_true (by omega)]
      rfl
    have h3 : okQb (.tuple xs) = true := by
      unfold okQb
      split
      · rename_i a b e
        cases e
        have ha := of_decide_eq_true (h (.int a) (by simp))
        have hb := of_decide_eq_true (h (.int b) (by simp))
        rw [decide_eq_true ha, decide_eq_true (Nat.lt_of_lt_of_le hb (Nat.pow_le_pow_right (by decide) (by decide)))]
        rfl
      · rfl
    unfold good
    rw [h2, h3]
    rfl
  · have h2 : fit (.list xs) = true := h1
    unfold good
    rw [h2]
    rfl
theorem cut_sub {xs : List T} {a b : Option Int} : (∀ x ∈ cutT xs a b, x ∈ xs) ∧ (cutT xs a b).length ≤ xs.length := by
  unfold cutT
  refine ⟨fun x hx => List.mem_of_mem_drop (List.mem_of_mem_take hx), ?_⟩
  rw [List.length_take, List.length_drop]
  omega
section
variable {row : List T} {n : Int} {ns : List Int}
theorem bent_ok (hr : ∀ x ∈ row, ∃ i : Int, x = .int i ∧ i.natAbs + 1 < 2 ^ 200) (hl : row.length ≤ 100) (hn : n.natAbs < 2 ^ 200) : PV D__law_bent [.val (.list row), .val (.int n)] (fun t => good t = true) := run_pv rfl rfl fun ns => by
  show ∃ r ns' e, M__law_bent [some (.own (pn ns)), some (.val (.list row)), some (.val (.int n)), none, none] = _ ∧ _
  have ha : ∀ x ∈ row, atom x = true := fun x hx => by
    obtain ⟨i, rfl, hi⟩ := hr x hx
    exact decide_eq_true (by omega)
  obtain ⟨g1, g2⟩ := atoms_good ha (by omega)
  obtain ⟨r, ns1, hc, w, rfl, hw0, hw1⟩ := callP (take_ok (b := 8) (by decide)) (ts := [.int 8]) (i := 0) (ms := mCons (mC (.int 8)) mNil) (e := [some (.own (pn ns)), some (.val (.list row)), some (.val (.int n)), none, none]) (ns := ns) rfl rfl
  unfold M__law_bent
  rw [seq_set hc]
  simp only [List.set]
  by_cases h3 : w < 3
  · have c : mTst (mTree (m2 fLt (mVar 3) (mC (.int 3)))) [some (.own (pn ns1)), some (.val (.list row)), some (.val (.int n)), some (.val (.int w)), none] = .ok true [some (.own (pn ns1)), some (.val (.list row)), some (.val (.int n)), some (.val (.int w)), none] := by
      simp [runDef, List.replicate, mRet, mVal, mTree, mCall, mCons, mNil, mVar, mC, mSeq, mIfS, mNx, mNotT, mTst, mAndT, mOrT, mAndV, mOrV, mNotV, Res.bind, RV.tree, give, mAsg, gT, gN, gsCons, gsNil, mChainT, qLink, qLast, yes, asBool, m2, m1, mN, mTup, mSet, keepE, fCmp, h3]
    exact ⟨.val (.tuple row), ns1, [some (.val (.list row)), some (.val (.int n)), some (.val (.int w)), none], seq_if_t c (ret_eq rfl), g1⟩
  have c : mTst (mTree (m2 fLt (mVar 3) (mC (.int 3)))) [some (.own (pn ns1)), some (.val (.list row)), some (.val (.int n)), some (.val (.int w)), none] = .ok false [some (.own (pn ns1)), some (.val (.list row)), some (.val (.int n)), some (.val (.int w)), none] := by
    simp [runDef, List.replicate, mRet, mVal, mTree, mCall, mCons, mNil, mVar, mC, mSeq, mIfS, mNx, mNotT, mTst, mAndT, mOrT, mAndV, mOrV, mNotV, Res.bind, RV.tree, give, mAsg, gT, gN, gsCons, gsNil, mChainT, qLink, qLast, yes, asBool, m2, m1, mN, mTup, mSet, keepE, fCmp, h3]
  rw [seq_if_f c]
  have eqc : ∀ k : Int, mTst (mTree (m2 fEq (mVar 3) (mC (.int k)))) [some (.own (pn ns1)), some (.val (.list row)), some (.val (.int n)), some (.val (.int w)), none] = .ok (decide (w = k)) [some (.own (pn ns1)), some (.val (.list row)), some (.val (.int n)), some (.val (.int w)), none] := fun k => by
    simp [runDef, List.replicate, mRet, mVal, mTree, mCall, mCons, mNil, mVar, mC, mSeq, mIfS, mNx, mNotT, mTst, mAndT, mOrT, mAndV, mOrV, mNotV, Res.bind, RV.tree, give, mAsg, gT, gN, gsCons, gsNil, mChainT, qLink, qLast, yes, asBool, m2, m1, mN, mTup, mSet, keepE, fEq, TL.same]
  by_cases h33 : w = 3
  · have c := eqc 3
    rw [decide_eq_true h33] at c
    exact ⟨.own row, ns1, [some (.val (.list row)), some (.val (.int n)), some (.val (.int w)), none], seq_if_t c (ret_eq rfl), g2⟩
  have c := eqc 3
  rw [decide_eq_false h33] at c
  rw [seq_if_f c]
  have c4 : mOrT (mTst (mTree (m2 fEq (mVar 3) (mC (.int 4))))) (mTst (mTree (m2 fEq (mLenV 1) (mC (.int 0))))) [some (.own (pn ns1)), some (.val (.list row)), some (.val (.int n)), some (.val (.int w)), none] = .ok (decide (w = 4) || decide (row.length = 0)) [some (.own (pn ns1)), some (.val (.list row)), some (.val (.int n)), some (.val (.int w)), none] := by
    simp only [mOrT, eqc 4, Res.bind]
    by_cases h4 : w = 4
    · rw [decide_eq_true h4]; rfl
    · rw [decide_eq_false h4]
      show Res.ok (decide ((row.length : Int) = 0)) _ = _
      rw [Bool.false_or, show decide ((row.length : Int) = 0) = decide (row.length = 0) from decide_eq_decide.mpr (by omega)]
  by_cases h4 : (decide (w = 4) || decide (row.length = 0)) = true
  · rw [h4] at c4
    obtain ⟨x, ns2, hp, hx⟩ := pickM (L := [.int 0, .int n, .bool true, .none, .int (-1)]) (n := 5) (ml := mTree (mLst (mCons (mC (.int 0)) (mCons (mVar 2) (mCons (mC (.bool true)) (mCons (mC .none) (mCons (mTree (m1 fNeg (mC (.int 1)))) mNil)))))))
      (e := [some (.own (pn ns1)), some (.val (.list row)), some (.val (.int n)), some (.val (.int w)), none]) (ns := ns1) rfl rfl (by decide) rfl
    have hxa : atom x = true := by
      simp only [List.mem_cons, List.not_mem_nil, or_false] at hx
      rcases hx with rfl | rfl | rfl | rfl | rfl
      · rfl
      · exact decide_eq_true hn
      · rfl
      · rfl
      · decide
    refine ⟨.val (.tuple (row ++ [x])), ns2, [some (.val (.list row)), some (.val (.int n)), some (.val (.int w)), none], seq_if_t c4 (ret_eq ?_), (atoms_good (fun y hy => ?_) (by simp; omega)).1⟩
    · have ht := tree_ok hp
      have e1 : mLst (mCons (mTree (m2 fIx (mTree (mLst (mCons (mC (.int 0)) (mCons (mVar 2) (mCons (mC (.bool true)) (mCons (mC .none) (mCons (mTree (m1 fNeg (mC (.int 1)))) mNil))))))) (mTree (mCallP D__law_take 0 (mCons (mC (.int 5)) mNil))))) mNil) [some (.own (pn ns1)), some (.val (.list row)), some (.val (.int n)), some (.val (.int w)), none] = .ok (.own [x]) [some (.own (pn ns2)), some (.val (.list row)), some (.val (.int n)), some (.val (.int w)), none] := by
        simp only [mLst]
        rw [cons_ok ht (show mNil _ = .ok [] _ from rfl)]
        rfl
      have e2 := tree_ok e1
      have e3 : m2 fAdd (mVar 1) (mTree (mLst (mCons (mTree (m2 fIx (mTree (mLst (mCons (mC (.int 0)) (mCons (mVar 2) (mCons (mC (.bool true)) (mCons (mC .none) (mCons (mTree (m1 fNeg (mC (.int 1)))) mNil))))))) (mTree (mCallP D__law_take 0 (mCons (mC (.int 5)) mNil))))) mNil))) [some (.own (pn ns1)), some (.val (.list row)), some (.val (.int n)), some (.val (.int w)), none] = .ok (.own (row ++ [x])) [some (.own (pn ns2)), some (.val (.list row)), some (.val (.int n)), some (.val (.int w)), none] := by
        simp only [m2]
        rw [show mVar 1 [some (.own (pn ns1)), some (.val (.list row)), some (.val (.int n)), some (.val (.int w)), none] = .ok (.list row) [some (.own (pn ns1)), some (.val (.list row)), some (.val (.int n)), some (.val (.int w)), none] from rfl]
        simp only [Res.bind]
        rw [e2]
        simp only [RV.tree, fAdd]
        rw [if_pos (by simp; omega)]
        rfl
      simp only [mN]
      rw [cons_ok (tree_ok e3) (show mNil _ = .ok [] _ from rfl)]
      rfl
    · rcases List.mem_append.mp hy with hy | hy
      · exact ha y hy
      · rw [List.mem_singleton] at hy
        rw [hy]; exact hxa
  have h4' : (decide (w = 4) || decide (row.length = 0)) = false := by simpa using h4
  rw [h4'] at c4
  rw [seq_if_f c4]
  have c5 := eqc 5
  by_cases h5 : w = 5
  · rw [decide_eq_true h5] at c5
    refine ⟨.val (.tuple (cutT row none (some (-1)))), ns1, [some (.val (.list row)), some (.val (.int n)), some (.val (.int w)), none], seq_if_t c5 (ret_eq rfl), (atoms_good (fun y hy => ha y (cut_sub.1 y hy)) ?_).1⟩
    have := (cut_sub (xs := row) (a := none) (b := some (-1))).2
    omega
  rw [decide_eq_false h5] at c5
  rw [seq_if_f c5]
  have c6 := eqc 6
  by_cases h6 : w = 6
  · rw [decide_eq_true h6] at c6
    have hl0 : ¬ row.length = 0 := fun z => by
      rw [decide_eq_true z, Bool.or_true] at h4'
      cases h4'
    obtain ⟨r, ns2, hc4, j, rfl, hj0, hj1⟩ := callP (take_ok (b := (row.length : Int)) (by omega)) (ts := [.int (row.length : Int)]) (i := 0) (ms := mCons (mLenV 1) mNil) (e := [some (.own (pn ns1)), some (.val (.list row)), some (.val (.int n)), some (.val (.int w)), none]) (ns := ns1) rfl rfl
    obtain ⟨y, hy, hyj⟩ := atI_in (ts := row) hj0 hj1
    obtain ⟨i, rfl, hi⟩ := hr y hy
    let e0 : En := [some (.own (pn ns2)), some (.val (.list row)), some (.val (.int n)), some (.val (.int w)), some (.val (.int j))]
    have hil : mIxV 1 (mVar 4) e0 = .ok (.int i) e0 := by
      simp only [e0, mIxV, mVar, Res.bind, peek, items, List.getElem?_cons_succ, List.getElem?_cons_zero, hyj]
    have hml : mTree (mLst (mCons (mC (.int 0)) (mCons (mVar 2) (mCons (mC (.bool true)) (mCons (mC (.bool false)) (mCons (mC (.str "0")) (mCons (mTree (m2 fAdd (mIxV 1 (mVar 4)) (mC (.int 1)))) mNil))))))) e0 = .ok (.list [.int 0, .int n, .bool true, .bool false, .str "0", .int (i + 1)]) e0 := by
      have h1 : mTree (m2 fAdd (mIxV 1 (mVar 4)) (mC (.int 1))) e0 = .ok (.int (i + 1)) e0 := by
        simp only [mTree, m2, hil, Res.bind, mC, fAdd, give, RV.tree]
      have h2 : mLst (mCons (mC (.int 0)) (mCons (mVar 2) (mCons (mC (.bool true)) (mCons (mC (.bool false)) (mCons (mC (.str "0")) (mCons (mTree (m2 fAdd (mIxV 1 (mVar 4)) (mC (.int 1)))) mNil)))))) e0 = .ok (.own [.int 0, .int n, .bool true, .bool false, .str "0", .int (i + 1)]) e0 := by
        simp only [mLst]
        rw [cons_ok (show mC (.int 0) e0 = .ok (.int 0) e0 from rfl) (cons_ok (show mVar 2 e0 = .ok (.int n) e0 from rfl) (cons_ok (show mC (.bool true) e0 = .ok (.bool true) e0 from rfl) (cons_ok (show mC (.bool false) e0 = .ok (.bool false) e0 from rfl) (cons_ok (show mC (.str "0") e0 = .ok (.str "0") e0 from rfl) (cons_ok h1 (show mNil e0 = .ok [] e0 from rfl))))))]
        rfl
      exact tree_ok h2
    obtain ⟨x, ns3, hp, hx⟩ := pickM (n := 6) (e := e0) (ns := ns2) hml rfl (by decide) rfl
    have hxa : atom x = true := by
      simp only [List.mem_cons, List.not_mem_nil, or_false] at hx
      rcases hx with rfl | rfl | rfl | rfl | rfl | rfl
      · rfl
      · exact decide_eq_true hn
      · rfl
      · rfl
      · rfl
      · exact decide_eq_true (by omega)
    let e3 : En := [some (.own (pn ns3)), some (.val (.list row)), some (.val (.int n)), some (.val (.int w)), some (.val (.int j))]
    have hp' : m2 fIx (mTree (mLst (mCons (mC (.int 0)) (mCons (mVar 2) (mCons (mC (.bool true)) (mCons (mC (.bool false)) (mCons (mC (.str "0")) (mCons (mTree (m2 fAdd (mIxV 1 (mVar 4)) (mC (.int 1)))) mNil)))))))) (mTree (mCallP D__law_take 0 (mCons (mC (.int 6)) mNil))) e0 = .ok (.val x) e3 := hp
    have k1 : mTree (mLst (mCons (mTree (m2 fIx (mTree (mLst (mCons (mC (.int 0)) (mCons (mVar 2) (mCons (mC (.bool true)) (mCons (mC (.bool false)) (mCons (mC (.str "0")) (mCons (mTree (m2 fAdd (mIxV 1 (mVar 4)) (mC (.int 1)))) mNil)))))))) (mTree (mCallP D__law_take 0 (mCons (mC (.int 6)) mNil))))) mNil)) e0 = .ok (.list [x]) e3 := by
      have : mLst (mCons (mTree (m2 fIx (mTree (mLst (mCons (mC (.int 0)) (mCons (mVar 2) (mCons (mC (.bool true)) (mCons (mC (.bool false)) (mCons (mC (.str "0")) (mCons (mTree (m2 fAdd (mIxV 1 (mVar 4)) (mC (.int 1)))) mNil)))))))) (mTree (mCallP D__law_take 0 (mCons (mC (.int 6)) mNil))))) mNil) e0 = .ok (.own [x]) e3 := by
        simp only [mLst]
        rw [cons_ok (tree_ok hp') (show mNil _ = .ok [] _ from rfl)]
        rfl
      exact tree_ok this
    have cl1 := (cut_sub (xs := row) (a := none) (b := some j)).2
    have cl2 := (cut_sub (xs := row) (a := some (j + 1)) (b := none)).2
    have k2 : m2 fAdd (mTree (mSl (mVar 1) none (some (mVar 4)))) (mTree (mLst (mCons (mTree (m2 fIx (mTree (mLst (mCons (mC (.int 0)) (mCons (mVar 2) (mCons (mC (.bool true)) (mCons (mC (.bool false)) (mCons (mC (.str "0")) (mCons (mTree (m2 fAdd (mIxV 1 (mVar 4)) (mC (.int 1)))) mNil)))))))) (mTree (mCallP D__law_take 0 (mCons (mC (.int 6)) mNil))))) mNil))) e0 = .ok (.own (cutT row none (some j) ++ [x])) e3 := by
      simp only [m2]
      rw [show mTree (mSl (mVar 1) none (some (mVar 4))) e0 = .ok (.list (cutT row none (some j))) e0 from rfl]
      simp only [Res.bind]
      rw [k1]
      simp only [fAdd]
      rw [if_pos (by simp; omega)]
      rfl
    have k3 : ∀ ml : Mt, ml e0 = .ok (.list (cutT row none (some j) ++ [x])) e3 → m2 fAdd ml (mTree (mSl (mVar 1) (some (mTree (m2 fAdd (mVar 4) (mC (.int 1))))) none)) e0 = .ok (.own (cutT row none (some j) ++ [x] ++ cutT row (some (j + 1)) none)) e3 := fun ml h => by
      simp only [m2]
      rw [h]
      simp only [Res.bind]
      rw [show mTree (mSl (mVar 1) (some (mTree (m2 fAdd (mVar 4) (mC (.int 1))))) none) e3 = .ok (.list (cutT row (some (j + 1)) none)) e3 from rfl]
      simp only [fAdd]
      rw [if_pos (by simp; omega)]
      rfl
    refine ⟨.val (.tuple (cutT row none (some j) ++ [x] ++ cutT row (some (j + 1)) none)), ns3, [some (.val (.list row)), some (.val (.int n)), some (.val (.int w)), some (.val (.int j))], seq_if_t c6 ((seq_set hc4).trans (ret_eq ?_)), (atoms_good (fun y hy => ?_) (by simp; omega)).1⟩
    · show mN fTuple (mCons (mTree (m2 fAdd (mTree (m2 fAdd (mTree (mSl (mVar 1) none (some (mVar 4)))) _)) _)) mNil) e0 = _
      simp only [mN]
      rw [cons_ok (tree_ok (k3 _ (tree_ok k2))) (show mNil _ = .ok [] _ from rfl)]
      rfl
    · rcases List.mem_append.mp hy with hy | hy
      · rcases List.mem_append.mp hy with hy | hy
        · exact ha y (cut_sub.1 y hy)
        · rw [List.mem_singleton] at hy
          rw [hy]; exact hxa
      · exact ha y (cut_sub.1 y hy)
  rw [decide_eq_false h6] at c6
  rw [seq_if_f c6]
  exact ⟨.val (.tuple row.reverse), ns1, [some (.val (.list row)), some (.val (.int n)), some (.val (.int w)), none], ret_eq rfl, (atoms_good (fun y hy => ha y (List.mem_reverse.mp hy)) (by rw [List.length_reverse]; omega)).1⟩
end
end G
end
section
set_option Elab.async false
set_option linter.all false
set_option autoImplicit false
set_option maxRecDepth 100000
set_option maxHeartbeats 2000000
set_option exponentiation.threshold 10000
namespace G
open PySem PySem.Spec PyProof.Rows L2 TL
theorem PO.pv {D : DF} {args : List RV} {P : T → Prop} (h : PO D args P) : PV D args P := fun ns => by
  obtain ⟨r, ns', e', h1, h2, h3⟩ := h ns
  exact ⟨.val r, ns', e', h1, h2, h3⟩
def tri (x : T) : Prop := ∃ a b c : Int, x = .tuple [.int a, .int b, .int c]
theorem fits_tri : ∀ {xs : List T}, (∀ x ∈ xs, tri x) → fits xs = true
  | [], _ => rfl
  | x :: xs, h => by
    obtain ⟨a, b, c, rfl⟩ := h x (by simp)
    have h2 := fits_tri (xs := xs) fun y hy => h y (by simp [hy])
    show (fit _ && fits xs) = true
    rw [h2]
    rfl
theorem web_good {n : Int} {L : List T} (hL : ∀ x ∈ L, tri x) (hl : L.length ≤ 1000) : good (.tuple [.int n, .tuple L]) = true := by
  have h1 : fit (.tuple L) = true := by
    show (decide (L.length ≤ 100000) && fits L) = true
    rw [fits_tri hL, decide_eq_true (by omega)]
    rfl
  have h2 : fit (.tuple [.int n, .tuple L]) = true := by
    show (decide (([.int n, .tuple L] : List T).length ≤ 100000) && (fit (.int n) && (fit (.tuple L) && true))) = true
    rw [h1]
    rfl
  unfold good
  rw [h2]
  rfl
theorem wide_ok : PO D__law_wide [] (fun t => good t = true) := run_po rfl rfl fun ns => by
  show ∃ r ns' e, M__law_wide [some (.own (pn ns)), none, none, none, none, none, none] = _ ∧ _
  obtain ⟨r, ns1, h1, t, rfl, ht0, ht1⟩ := callP (take_ok (b := 1000) (by decide)) (ts := [.int 1000]) (i := 0) (ms := mCons (mC (.int 1000)) mNil) (e := [some (.own (pn ns)), none, none, none, none, none, none]) (ns := ns) rfl rfl
  have hst := small_st ht0 (by omega : t < 2147483648)
  have hs9 : small 9 = true := by decide
  have e1 : m2 fAdd (mC (.int 500)) (mTree (m2 fMul (mTree (mCallP D__law_take 0 (mCons (mC (.int 1000)) mNil))) (mC (.int 9)))) [some (.own (pn ns)), none, none, none, none, none, none] = .ok (.val (.int (500 + t * 9))) [some (.own (pn ns1)), none, none, none, none, none, none] := by
    refine add_ok (tree_ok (r := .val (.int (t * 9))) ?_)
    simp only [m2]
    rw [tree_ok h1]
    simp [Res.bind, RV.tree, mC, fMul, hst, hs9, give]
  unfold M__law_wide
  rw [seq_set e1]
  simp only [List.set]
  generalize he : 500 + t * 9 = en
  have hen0 : 0 ≤ en := by omega
  have hen1 : en < 10000 := by omega
  let f : T → T := fun x => .tuple [.int (gI x * 7), .int (en + gI x), .int (10 ^ 50 + gI x)]
  have q := comp_yes (mi := mRng (mCons (mC (.int 61)) mNil)) (g := gN 6) (vs := [6]) (te := mTup (mCons (mTree (m2 fMul (mVar 6) (mC (.int 7)))) (mCons (mTree (m2 fAdd (mVar 1) (mVar 6))) (mCons (mTree (m2 fAdd (mTree (m2 fPow (mC (.int 10)) (mC (.int 50)))) (mVar 6))) mNil)))) (f := f)
    (e := [some (.own (pn ns1)), some (.val (.int en)), none, none, none, none, none]) (e1 := [some (.own (pn ns1)), some (.val (.int en)), none, none, none, none, none]) (ts := tn (List.range 61)) (by rw [← rng_tn]; rfl) (by rw [len_tn, List.length_range]; decide) fun x hx => by
      unfold tn at hx
      obtain ⟨k, hk, rfl⟩ := List.mem_map.mp hx
      have hk' := List.mem_range.mp hk
      have hsk := small_st (n := (k : Int)) (by omega) (by omega)
      have hs7 : small 7 = true := by decide
      refine ⟨_, [some (.own (pn ns1)), some (.val (.int en)), none, none, none, none, some (.val (.int (k : Nat)))], rfl, ?_, rfl⟩
      simp [f, mTup, mCons, mNil, mTree, m2, mVar, mC, Res.bind, wipeE, fMul, fAdd, fPow, hsk, hs7, give, RV.tree, gI]
  have hL : ∀ x ∈ (tn (List.range 61)).map f, tri x := fun x hx => by
    obtain ⟨y, _, rfl⟩ := List.mem_map.mp hx
    exact ⟨_, _, _, rfl⟩
  have hLl : ((tn (List.range 61)).map f).length = 61 := by rw [List.length_map, len_tn, List.length_range]
  generalize (tn (List.range 61)).map f = L at q hL hLl
  have q' : mComp (mRng (mCons (mC (.int 61)) mNil)) (gN 6) mYes (mTup (mCons (mTree (m2 fMul (mVar 6) (mC (.int 7)))) (mCons (mTree (m2 fAdd (mVar 1) (mVar 6))) (mCons (mTree (m2 fAdd (mTree (m2 fPow (mC (.int 10)) (mC (.int 50)))) (mVar 6))) mNil)))) [6] [some (.own (pn ns1)), some (.val (.int en)), none, none, none, none, none]
      = .ok (.own L) [some (.own (pn ns1)), some (.val (.int en)), none, none, none, none, none] := q
  rw [seq_set q']
  simp only [List.set]
  obtain ⟨r, ns2, h2, p, rfl, hp0, hp1⟩ := callP (take_ok (b := 61) (by decide)) (ts := [.int 61]) (i := 0) (ms := mCons (mC (.int 61)) mNil) (e := [some (.own (pn ns1)), some (.val (.int en)), some (.own L), none, none, none, none]) (ns := ns1) rfl rfl
  obtain ⟨r, ns3, h3, s, rfl, hs0, hs1⟩ := callP (take_ok (b := 4) (by decide)) (ts := [.int 4]) (i := 0) (ms := mCons (mC (.int 4)) mNil) (e := [some (.own (pn ns2)), some (.val (.int en)), some (.own L), some (.val (.int p)), none, none, none]) (ns := ns2) rfl rfl
  rw [show ∀ rest : Ms, mSeq (mSet 3 (mCallP D__law_take 0 (mCons (mC (.int 61)) mNil))) rest [some (.own (pn ns1)), some (.val (.int en)), some (.own L), none, none, none, none] = rest [some (.own (pn ns2)), some (.val (.int en)), some (.own L), some (.val (.int p)), none, none, none] from fun rest => seq_set h2]
  rw [show ∀ rest : Ms, mSeq (mSet 4 (mCallP D__law_take 0 (mCons (mC (.int 4)) mNil))) rest [some (.own (pn ns2)), some (.val (.int en)), some (.own L), some (.val (.int p)), none, none, none] = rest [some (.own (pn ns3)), some (.val (.int en)), some (.own L), some (.val (.int p)), some (.val (.int s)), none, none] from fun rest => seq_set h3]
  have fin : ∀ (L' : List T) (x5 : Option RV), (∀ x ∈ L', tri x) → L'.length = 61 → ∃ r ns' e, mRet (mVal (mTup (mCons (mTree (m2 fAdd (mVar 1) (mC (.int 61)))) (mCons (mTree (mN fTuple (mCons (mVar 2) mNil))) mNil)))) [some (.own (pn ns3)), some (.val (.int en)), some (.own L'), some (.val (.int p)), some (.val (.int s)), x5, none] = .ok (.rt (.val r)) (some (.own (pn ns')) :: e) ∧ good r = true := fun L' x5 h1 h2 =>
    ⟨.tuple [.int (en + 61), .tuple L'], ns3, [some (.val (.int en)), some (.val (.list L')), some (.val (.int p)), some (.val (.int s)), x5, none], ret_eq (val_ok (tup_ok (cons_ok rfl (cons_ok rfl rfl)) (by simp))), web_good h1 (by omega)⟩
  by_cases h : s < 3
  · have c : mTst (mTree (m2 fLt (mVar 4) (mC (.int 3)))) [some (.own (pn ns3)), some (.val (.int en)), some (.own L), some (.val (.int p)), some (.val (.int s)), none, none] = .ok true [some (.own (pn ns3)), some (.val (.int en)), some (.own L), some (.val (.int p)), some (.val (.int s)), none, none] := by
      simp [runDef, List.replicate, mRet, mVal, mTree, mCall, mCons, mNil, mVar, mC, mSeq, mIfS, mNx, mNotT, mTst, mAndT, mOrT, mAndV, mOrV, mNotV, Res.bind, RV.tree, give, mAsg, gT, gN, gsCons, gsNil, mChainT, qLink, qLast, yes, asBool, m2, m1, mN, mTup, mSet, keepE, fCmp, h]
    obtain ⟨y, hy, hyp⟩ := atI_in (ts := L) hp0 (by omega)
    obtain ⟨a, b, d, rfl⟩ := hL y hy
    have hse := small_st hen0 (by omega : en < 2147483648)
    have hs2 : small 2 = true := by decide
    have hb : ∃ a' b' d' : Int, (mSeq (mSet 5 (mN fList (mCons (mIxV 2 (mVar 3)) mNil))) (mSeq (mSetIx 5 (mVar 4) (mTree (m2 fIx (mTree (mLst (mCons (mTree (m1 fNeg (mC (.int 1)))) (mCons (mTree (m2 fMul (mVar 1) (mC (.int 2)))) (mCons (mC (.int 0)) mNil))))) (mVar 4)))) (mSetIx 2 (mVar 3) (mTree (mN fTuple (mCons (mVar 5) mNil)))))) [some (.own (pn ns3)), some (.val (.int en)), some (.own L), some (.val (.int p)), some (.val (.int s)), none, none]
        = .ok .nx [some (.own (pn ns3)), some (.val (.int en)), some (.own (L.set p.toNat (.tuple [.int a', .int b', .int d']))), some (.val (.int p)), some (.val (.int s)), some (.val (.list [.int a', .int b', .int d'])), none] := by
      have g0 : mN fList (mCons (mIxV 2 (mVar 3)) mNil) [some (.own (pn ns3)), some (.val (.int en)), some (.own L), some (.val (.int p)), some (.val (.int s)), none, none] = .ok (.own [.int a, .int b, .int d]) [some (.own (pn ns3)), some (.val (.int en)), some (.own L), some (.val (.int p)), some (.val (.int s)), none, none] := by
        simp [mN, mCons, mNil, mIxV, mVar, Res.bind, peek, hyp, fList, items, give]
      rw [seq_set g0]
      simp only [List.set]
      have hix : ixN L.length p = some p.toNat := by
        unfold ixN
        rw [if_pos hp0, if_pos (by omega)]
      have last : ∀ a' b' d' : Int, mSetIx 2 (mVar 3) (mTree (mN fTuple (mCons (mVar 5) mNil))) [some (.own (pn ns3)), some (.val (.int en)), some (.own L), some (.val (.int p)), some (.val (.int s)), some (.own [.int a', .int b', .int d']), none]
          = .ok .nx [some (.own (pn ns3)), some (.val (.int en)), some (.own (L.set p.toNat (.tuple [.int a', .int b', .int d']))), some (.val (.int p)), some (.val (.int s)), some (.val (.list [.int a', .int b', .int d'])), none] := fun a' b' d' => by
        simp [mSetIx, mTree, mN, mCons, mNil, mVar, Res.bind, fTuple, give, RV.tree, hix]
      have sx : s = 0 ∨ s = 1 ∨ s = 2 := by omega
      rcases sx with rfl | rfl | rfl
      · refine ⟨-1, b, d, ?_⟩
        rw [seq_nx (e1 := [some (.own (pn ns3)), some (.val (.int en)), some (.own L), some (.val (.int p)), some (.val (.int 0)), some (.own [.int (-1), .int b, .int d]), none]) (by simp [mSetIx, mTree, m2, m1, mLst, mCons, mNil, mVar, mC, Res.bind, fNeg, fMul, hse, hs2, fIx, at0, give, RV.tree, ixN])]
        exact last _ _ _
      · refine ⟨a, en * 2, d, ?_⟩
        rw [seq_nx (e1 := [some (.own (pn ns3)), some (.val (.int en)), some (.own L), some (.val (.int p)), some (.val (.int 1)), some (.own [.int a, .int (en * 2), .int d]), none]) (by simp [mSetIx, mTree, m2, m1, mLst, mCons, mNil, mVar, mC, Res.bind, fNeg, fMul, hse, hs2, fIx, at1, give, RV.tree, ixN])]
        exact last _ _ _
      · refine ⟨a, b, 0, ?_⟩
        rw [seq_nx (e1 := [some (.own (pn ns3)), some (.val (.int en)), some (.own L), some (.val (.int p)), some (.val (.int 2)), some (.own [.int a, .int b, .int 0]), none]) (by simp [mSetIx, mTree, m2, m1, mLst, mCons, mNil, mVar, mC, Res.bind, fNeg, fMul, hse, hs2, fIx, at2, give, RV.tree, ixN])]
        exact last _ _ _
    obtain ⟨a', b', d', hb⟩ := hb
    rw [seq_if_nx c hb]
    refine fin _ _ (fun x hx => ?_) (by rw [List.length_set]; exact hLl)
    rcases List.mem_or_eq_of_mem_set hx with hx | rfl
    · exact hL x hx
    · exact ⟨_, _, _, rfl⟩
  · have c : mTst (mTree (m2 fLt (mVar 4) (mC (.int 3)))) [some (.own (pn ns3)), some (.val (.int en)), some (.own L), some (.val (.int p)), some (.val (.int s)), none, none] = .ok false [some (.own (pn ns3)), some (.val (.int en)), some (.own L), some (.val (.int p)), some (.val (.int s)), none, none] := by
      simp [runDef, List.replicate, mRet, mVal, mTree, mCall, mCons, mNil, mVar, mC, mSeq, mIfS, mNx, mNotT, mTst, mAndT, mOrT, mAndV, mOrV, mNotV, Res.bind, RV.tree, give, mAsg, gT, gN, gsCons, gsNil, mChainT, qLink, qLast, yes, asBool, m2, m1, mN, mTup, mSet, keepE, fCmp, h]
    rw [seq_if_f c]
    exact fin L none hL hLl
end G
end
section
set_option Elab.async false
set_option linter.all false
set_option autoImplicit false
set_option maxRecDepth 100000
set_option maxHeartbeats 2000000
set_option exponentiation.threshold 10000
namespace G
open PySem PySem.Spec PyProof.Rows L2 TL
def goodL : Res RV → Bool
  | .ok (.own L) _ => L.all good && decide (L.length ≤ 1000)
  | _ => false
theorem written_b : goodL (D__law_written []) = true := by decide +kernel
theorem written_ok : ∃ L e, D__law_written [] = .ok (.own L) e ∧ (∀ x ∈ L, good x = true) ∧ L.length ≤ 1000 := by
  have h := written_b
  unfold goodL at h
  split at h
  · rename_i L e he
    rw [Bool.and_eq_true] at h
    exact ⟨L, e, he, List.all_eq_true.mp h.1, of_decide_eq_true h.2⟩
  · cases h
end G
end
section
set_option Elab.async false
set_option linter.all false
set_option autoImplicit false
set_option maxRecDepth 100000
set_option maxHeartbeats 2000000
namespace G
open PySem PySem.Spec PyProof.Rows L2 TL
/-- a comprehension whose environment changes: an invariant of it, a property of each item -/
theorem compI {g : Mg} {tt : Mb} {te : Mt} {vs : List Nat} {I : En → Prop} {P : T → Prop} : ∀ (ts acc : List T) (e : En), I e →
    (∀ t ∈ ts, ∀ e, I e → ∃ e1 b e2, g t e = some e1 ∧ tt e1 = .ok b e2 ∧ (b = true → ∃ y e3, te e2 = .ok y e3 ∧ P y ∧ I (wipeE e3 vs)) ∧ (b = false → I (wipeE e2 vs))) →
    (∀ x ∈ acc, P x) → acc.length + ts.length ≤ 100000 → ∃ ys e', mCompL g tt te vs ts acc e = .ok ys e' ∧ I e' ∧ (∀ y ∈ ys, P y) ∧ ys.length ≤ acc.length + ts.length
  | [], acc, e, hI, _, ha, _ => ⟨acc, e, rfl, hI, ha, by simp⟩
  | t :: ts, acc, e, hI, h, ha, hl => by
    rw [List.length_cons] at hl
    obtain ⟨e1, b, e2, h1, h2, h3, h4⟩ := h t (by simp) e hI
    cases b with
    | true =>
      obtain ⟨y, e3, h5, hP, h6⟩ := h3 rfl
      obtain ⟨ys, e', r1, r2, r3, r4⟩ := compI ts (acc ++ [y]) _ h6 (fun u hu => h u (by simp [hu])) (fun x hx => by
        rcases List.mem_append.mp hx with hx | hx
        · exact ha x hx
        · rw [List.mem_singleton] at hx
          rw [hx]; exact hP) (by rw [List.length_append]; simp; omega)
      refine ⟨ys, e', ?_, r2, r3, by rw [List.length_append] at r4; simp at r4 ⊢; omega⟩
      unfold mCompL
      rw [h1]
      dsimp only
      rw [h2]
      dsimp only
      rw [h5]
      dsimp only
      rw [if_pos (by omega)]
      exact r1
    | false =>
      obtain ⟨ys, e', r1, r2, r3, r4⟩ := compI ts acc _ (h4 rfl) (fun u hu => h u (by simp [hu])) ha (by omega)
      refine ⟨ys, e', ?_, r2, r3, by simp at r4 ⊢; omega⟩
      unfold mCompL
      rw [h1]
      dsimp only
      rw [h2]
      exact r1
theorem comp_inv {mi : Ml} {g : Mg} {tt : Mb} {te : Mt} {vs : List Nat} {I : En → Prop} {P : T → Prop} {e e1 : En} {ts : List T} (hi : mi e = .ok ts e1) (hl : ts.length ≤ 100000) (hI : I (wipeE e1 vs))
    (h : ∀ t ∈ ts, ∀ e, I e → ∃ e1 b e2, g t e = some e1 ∧ tt e1 = .ok b e2 ∧ (b = true → ∃ y e3, te e2 = .ok y e3 ∧ P y ∧ I (wipeE e3 vs)) ∧ (b = false → I (wipeE e2 vs))) :
    ∃ ys e', mComp mi g tt te vs e = .ok (.own ys) (backE e1 e' vs) ∧ I e' ∧ (∀ y ∈ ys, P y) ∧ ys.length ≤ ts.length := by
  obtain ⟨ys, e', r1, r2, r3, r4⟩ := compI ts [] _ hI h (by simp) (by simpa using hl)
  refine ⟨ys, e', ?_, r2, r3, by simpa using r4⟩
  unfold mComp
  rw [hi]
  show (match mCompL g tt te vs ts [] (wipeE e1 vs) with | .ok acc e2 => _ | _ => _) = _
  rw [r1]
end G
end
section
set_option Elab.async false
set_option linter.all false
set_option autoImplicit false
set_option maxRecDepth 100000
set_option maxHeartbeats 2000000
set_option exponentiation.threshold 10000
namespace G
open PySem PySem.Spec PyProof.Rows L2 TL
/-- pickM where the list's own display takes from the pool -/
theorem pickM2 {L : List T} {n : Int} {ns : List Int} {e e1 : En} {ml : Mt} (hl : ml e = .ok (.list L) e1) (hn : (L.length : Int) = n) (h0 : 0 < n) (he : e1[0]? = some (some (.own (pn ns)))) :
    ∃ (x : T) (ns' : List Int), m2 fIx ml (mTree (mCallP D__law_take 0 (mCons (mC (.int n)) mNil))) e = .ok (.val x) (e1.set 0 (some (.own (pn ns')))) ∧ x ∈ L := by
  obtain ⟨r, ns', hc, i, rfl, hi0, hi1⟩ := callP (take_ok (b := n) h0) (ts := [.int n]) (i := 0) (ms := mCons (mC (.int n)) mNil) (e := e1) (ns := ns) he rfl
  obtain ⟨x, hx, hx2⟩ := atI_in (ts := L) hi0 (by omega)
  refine ⟨x, ns', ?_, hx⟩
  have ht := tree_ok hc
  simp only [m2, hl, Res.bind]
  rw [ht]
  simp only [RV.tree, fIx, hx2, give, Option.map]
/-- what the spoiling wants and gives -/
def SP (t : T) : Prop := good t = true ∧ ∀ a rows, t = .tuple [a, .tuple rows] → rows.length ≤ 100 ∧ (∀ i, a = .int i → i.natAbs < 2 ^ 200) ∧ ∀ rs, a = .tuple rs → rs.length ≤ 100
theorem good_fit {t : T} (h : good t = true) : fit t = true := by
  unfold good at h
  rw [Bool.and_eq_true] at h
  exact h.1
theorem good_okQ {t : T} (h : good t = true) : okQ t := by
  unfold good at h
  rw [Bool.and_eq_true] at h
  exact okQ_of h.2
theorem fits_set : ∀ {xs : List T} {x : T} (i : Nat), fits xs = true → fit x = true → fits (xs.set i x) = true
  | [], _, _, _, _ => rfl
  | y :: ys, x, 0, h, hx => by
    have h' : (fit y && fits ys) = true := h
    rw [Bool.and_eq_true] at h'
    show (fit x && fits ys) = true
    rw [hx, h'.2]
    rfl
  | y :: ys, x, i + 1, h, hx => by
    have h' : (fit y && fits ys) = true := h
    rw [Bool.and_eq_true] at h'
    show (fit y && fits (ys.set i x)) = true
    rw [h'.1, fits_set i h'.2 hx]
    rfl
theorem pair_good {a : T} {rows : List T} (ha : fit a = true) (hr : fits rows = true) (hl : rows.length ≤ 100) : good (.tuple [a, .tuple rows]) = true := by
  have h1 : fit (.tuple rows) = true := by
    show (decide (rows.length ≤ 100000) && fits rows) = true
    rw [hr, decide_eq_true (by omega)]
    rfl
  have h2 : fit (.tuple [a, .tuple rows]) = true := by
    show (decide (([a, .tuple rows] : List T).length ≤ 100000) && (fit a && (fit (.tuple rows) && true))) = true
    rw [h1, ha]
    rfl
  unfold good
  rw [h2]
  cases a <;> rfl
end G
end
section
set_option Elab.async false
set_option linter.all false
set_option autoImplicit false
set_option maxRecDepth 100000
set_option maxHeartbeats 2000000
set_option exponentiation.threshold 10000
namespace G
open PySem PySem.Spec PyProof.Rows L2 TL
abbrev S (ns : List Int) (t : T) (w : Int) (a : T) (rows : List T) (x5 x6 x7 x8 x9 : Option RV) : En := [some (.own (pn ns)), some (.val t), some (.val (.int w)), some (.val a), some (.own rows), x5, x6, x7, x8, x9]
theorem fit_one {a : T} (h : fit a = true) : fit (.tuple [a]) = true := by
  show (decide (([a] : List T).length ≤ 100000) && (fit a && true)) = true
  rw [h]; rfl
/-- the four bent pairs -/
theorem bent4 {a : T} {rows : List T} (h : SP (.tuple [a, .tuple rows])) : ∀ x ∈ ([.list [a, .tuple rows], .tuple [a], .tuple [a, .tuple rows, .int 0], .tuple [.tuple rows, a]] : List T), SP x := by
  have hf := good_fit h.1
  have fa := fit_it hf (x := a) (by simp)
  have fr := fit_it hf (x := .tuple rows) (by simp)
  obtain ⟨h1, h2, h3⟩ := h.2 a rows rfl
  intro x hx
  simp only [List.mem_cons, List.not_mem_nil, or_false] at hx
  rcases hx with rfl | rfl | rfl | rfl
  · refine ⟨?_, fun a' r' e => by cases e⟩
    have : fit (.list [a, .tuple rows]) = true := by
      show (fit a && (fit (.tuple rows) && true)) = true
      rw [fa, fr]; rfl
    unfold good
    rw [this]; rfl
  · refine ⟨?_, fun a' r' e => by cases e⟩
    unfold good
    rw [fit_one fa]
    cases a <;> rfl
  · refine ⟨?_, fun a' r' e => by cases e⟩
    have : fit (.tuple [a, .tuple rows, .int 0]) = true := by
      show (decide (([a, .tuple rows, .int 0] : List T).length ≤ 100000) && (fit a && (fit (.tuple rows) && (fit (.int 0) && true)))) = true
      rw [fa, fr]; rfl
    unfold good
    rw [this]
    cases a <;> rfl
  · refine ⟨?_, fun a' r' e => ?_⟩
    · have : fit (.tuple [.tuple rows, a]) = true := by
        show (decide (([.tuple rows, a] : List T).length ≤ 100000) && (fit (.tuple rows) && (fit a && true))) = true
        rw [fa, fr]; rfl
      unfold good
      rw [this]
      rfl
    · simp only [PyData.tuple.injEq, List.cons.injEq, and_true] at e
      obtain ⟨rfl, rfl⟩ := e
      refine ⟨h3 _ rfl, fun i e => by (cases e), fun rs e => ?_⟩
      cases e
      exact h1
theorem odd_tup : ∀ x ∈ oddL, ∀ rs, x = .tuple rs → rs.length ≤ 100 := by
  have h : (oddL.all fun x => match x with | .tuple rs => decide (rs.length ≤ 100) | _ => true) = true := by decide +kernel
  intro x hx rs e
  subst e
  exact of_decide_eq_true (List.all_eq_true.mp h _ hx)
section
variable {a : T} {rows : List T}
/-- a pair with good parts -/
theorem sp_pair {b : T} {L : List T} (hb : fit b = true) (hL : fits L = true) (hl : L.length ≤ 100) (hi : ∀ i, b = .int i → i.natAbs < 2 ^ 200) (ht : ∀ rs, b = .tuple rs → rs.length ≤ 100) : SP (.tuple [b, .tuple L]) :=
  ⟨pair_good hb hL hl, fun a' r' e => by
    simp only [PyData.tuple.injEq, List.cons.injEq, and_true] at e
    obtain ⟨rfl, rfl⟩ := e
    exact ⟨hl, hi, ht⟩⟩
end
theorem spoilt_same {t : T} (hs : ¬ ∃ a rows, t = .tuple [a, .tuple rows]) (hf : fit t = true) {e : En} (he : e[1]? = some (some (.val t))) : mOrT (mNotT (mTst (mIsi .tup (mVar 1)))) (mOrT (mTst (mTree (m2 fNe (mLenV 1) (mC (.int 2))))) (mNotT (mTst (mIsi .tup (mIxV 1 (mC (.int 1))))))) e = .ok true e := by
  have hv : mVar 1 e = .ok t e := by simp [mVar, he]
  rcases isTu_or 2 t with g | ⟨ts, rfl, g1, g⟩
  · cases t <;> first | (simp [mOrT, mNotT, mTst, mIsi, hv, isK, Res.bind]; done) | cases hf | skip
    rename_i ts
    have g' : ¬ (ts.length : Int) = 2 := of_decide_eq_false g
    have g'' : ¬ ts.length = 2 := by omega
    simp [mOrT, mNotT, mTst, mIsi, hv, isK, Res.bind, mTree, m2, mLenV, peek, he, items, mC, fNe, TL.same, give, RV.tree, g', g'']
  · obtain ⟨a, b, rfl⟩ := two g1
    have fb := fit_it hf (x := b) (by simp)
    cases b with
    | tuple rows => exact absurd ⟨a, rows, rfl⟩ hs
    | dict => cases fb
    | _ => simp [mOrT, mNotT, mTst, mIsi, hv, isK, Res.bind, mTree, m2, mLenV, mIxV, peek, he, items, bt1, mC, fNe, TL.same, give, RV.tree]
end G
end
section
set_option Elab.async false
set_option linter.all false
set_option autoImplicit false
set_option maxRecDepth 100000
set_option maxHeartbeats 2000000
set_option exponentiation.threshold 10000
namespace G
open PySem PySem.Spec PyProof.Rows L2 TL
def tailX : Ms := (mSeq (mSet 5 (mCallP D__law_take 0 (mCons (mLenV 4) mNil)))
  (mSeq (mIfS (mTst (mTree (m2 fEq (mVar 2) (mC (.int 4)))))
  (mSetIx 4 (mVar 5) (mTree (mCallP D__law_odd 0 mNil)))
  mNx)
  (mSeq (mIfS (mAndT (mTst (mTree (m2 fGt (mVar 2) (mC (.int 4))))) (mAndT (mTst (mIsi .tup (mIxV 4 (mVar 5)))) (mTst (mTree (m2 fEq (mTree (mN fLen (mCons (mIxV 4 (mVar 5)) mNil))) (mC (.int 3)))))))
  (mSeq (mSet 7 (mN fList (mCons (mIxV 4 (mVar 5)) mNil)))
  (mIfS (mTst (mTree (m2 fLt (mVar 2) (mC (.int 7)))))
  (mSeq (mSet 8 (mVal (mC (.int 4))))
  (mSeq (mIfS (mTst (mTree (mCall D__law_int (mCons (mVar 3) mNil))))
  (mSet 8 (mVal (mVar 3)))
  mNx)
  (mSeq (mSet 9 (mCallP D__law_take 0 (mCons (mC (.int 3)) mNil)))
  (mSeq (mSetIx 7 (mVar 9) (mTree (m2 fIx (mTree (mLst (mCons (mC .none) (mCons (mC (.bool true)) (mCons (mC (.bool false)) (mCons (mTree (m1 fNeg (mC (.int 1)))) (mCons (mC (.int 0)) (mCons (mVar 8) (mCons (mTree (m2 fSub (mVar 8) (mC (.int 1)))) (mCons (mC (.str "1")) (mCons (mTup (mCons (mC (.int 1)) mNil)) (mCons (mTree (m2 fPow (mC (.int 10)) (mC (.int 59)))) mNil)))))))))))) (mTree (mCallP D__law_take 0 (mCons (mC (.int 10)) mNil))))))
  (mSetIx 4 (mVar 5) (mTree (mN fTuple (mCons (mVar 7) mNil))))))))
  (mSetIx 4 (mVar 5) (mVar 7))))
  mNx)
  (mRet (mVal (mTup (mCons (mVar 3) (mCons (mTree (mN fTuple (mCons (mVar 4) mNil))) mNil))))))))
def Mspoilt : Ms := (mSeq (mSet 2 (mCallP D__law_take 0 (mCons (mC (.int 8)) mNil)))
  (mSeq (mIfS (mOrT (mNotT (mTst (mIsi .tup (mVar 1)))) (mOrT (mTst (mTree (m2 fNe (mLenV 1) (mC (.int 2))))) (mNotT (mTst (mIsi .tup (mIxV 1 (mC (.int 1))))))))
  (mRet (mVal (mVar 1)))
  mNx)
  (mSeq (mSet 3 (mVal (mIxV 1 (mC (.int 0)))))
  (mSeq (mSet 4 (mN fList (mCons (mIxV 1 (mC (.int 1))) mNil)))
  (mSeq (mIfS (mTst (mTree (m2 fEq (mVar 2) (mC (.int 1)))))
  (mRet (m2 fIx (mTree (mLst (mCons (mTree (mLst (mCons (mVar 3) (mCons (mIxV 1 (mC (.int 1))) mNil)))) (mCons (mTup (mCons (mVar 3) mNil)) (mCons (mTup (mCons (mVar 3) (mCons (mIxV 1 (mC (.int 1))) (mCons (mC (.int 0)) mNil)))) (mCons (mTup (mCons (mIxV 1 (mC (.int 1))) (mCons (mVar 3) mNil))) mNil)))))) (mTree (mCallP D__law_take 0 (mCons (mC (.int 4)) mNil)))))
  mNx)
  (mSeq (mIfS (mTst (mTree (m2 fEq (mVar 2) (mC (.int 2)))))
  (mSeq (mSet 6 (mCallP D__law_odd 0 mNil))
  (mSeq (mIfS (mAndT (mTst (mTree (mCall D__law_int (mCons (mVar 6) mNil)))) (mTst (mTree (m2 fGt (mVar 6) (mC (.int 9973))))))
  (mSet 6 (mVal (mC (.int 9973))))
  mNx)
  (mRet (mVal (mTup (mCons (mVar 6) (mCons (mIxV 1 (mC (.int 1))) mNil)))))))
  mNx)
  (mSeq (mIfS (mTst (mTree (m2 fEq (mVar 2) (mC (.int 3)))))
  (mRet (mVal (mTup (mCons (mVar 3) (mCons (mTree (m2 fIx (mTree (mLst (mCons (mVar 4) (mCons (mTree (mCallP D__law_odd 0 mNil)) mNil)))) (mTree (mCallP D__law_take 0 (mCons (mC (.int 2)) mNil))))) mNil)))))
  mNx)
  (mSeq (mIfS (mTst (mTree (m2 fEq (mLenV 4) (mC (.int 0)))))
  (mRet (mVal (mTup (mCons (mVar 3) (mCons (mTup (mCons (mTree (mCallP D__law_odd 0 mNil)) mNil)) mNil)))))
  mNx)
  tailX))))))))
theorem Mspoilt_eq : M__law_spoilt = Mspoilt := rfl
theorem odd_fit {x : T} (h : x ∈ oddL) : fit x = true := good_fit (oddL_good x h).1
theorem odd_ok2 : PO D__law_odd [] (fun x => x ∈ oddL) := run_po rfl rfl fun ns => by
  show ∃ r ns' e, M__law_odd [some (.own (pn ns)), none] = _ ∧ _
  obtain ⟨x, ns', hp, hx⟩ := pickV (L := oddL) (n := 24) (j := 1) (e := [some (.own (pn ns)), some (.own oddL)]) (ns := ns) rfl (by decide) (by decide) (by decide) rfl
  refine ⟨x, ns', [some (.own oddL)], ?_, hx⟩
  exact (show M__law_odd [some (.own (pn ns)), none] = mRet (mVal (mIxV 1 (mTree (mCallP D__law_take 0 (mCons (mC (.int 24)) mNil))))) [some (.own (pn ns)), some (.own oddL)] from rfl).trans (ret_eq (val_ok hp))
theorem odd_i {x : T} (h : x ∈ oddL) : ∀ i, x = .int i → i.natAbs < 2 ^ 200 := (oddL_good x h).2
theorem sp_any {a x : T} (fa : fit a = true) (fx : fit x = true) (h2 : ∀ i, a = .int i → i.natAbs < 2 ^ 200) (hx : ∀ i, x = .int i → i.natAbs < 2 ^ 200) (ht : ∀ rs, x = .tuple rs → rs.length ≤ 100) (h3 : ∀ rs, a = .tuple rs → rs.length ≤ 100) : SP (.tuple [a, x]) := by
  have hf : fit (.tuple [a, x]) = true := by
    show (decide (([a, x] : List T).length ≤ 100000) && (fit a && (fit x && true))) = true
    rw [fa, fx]; rfl
  have hq : okQb (.tuple [a, x]) = true := by
    unfold okQb
    split
    · rename_i i j e
      simp only [PyData.tuple.injEq, List.cons.injEq, and_true] at e
      obtain ⟨rfl, rfl⟩ := e
      rw [decide_eq_true (h2 i rfl), decide_eq_true (Nat.lt_of_lt_of_le (hx j rfl) (Nat.pow_le_pow_right (by decide) (by decide)))]
      rfl
    · rfl
  refine ⟨by unfold good; rw [hf, hq]; rfl, fun a' r' e => ?_⟩
  simp only [PyData.tuple.injEq, List.cons.injEq, and_true] at e
  obtain ⟨rfl, rfl⟩ := e
  exact ⟨ht _ rfl, h2, h3⟩
theorem spoilt_ok {t : T} (h : SP t) (tl : ∀ (ns : List Int) (w : Int) (a : T) (rows : List T), t = .tuple [a, .tuple rows] → rows ≠ [] → 4 ≤ w ∨ w = 0 → ∃ r ns' e, tailX (S ns t w a rows none none none none none) = .ok (.rt r) (some (.own (pn ns')) :: e) ∧ SP r.tree) : PV D__law_spoilt [.val t] SP := run_pv rfl rfl fun ns => by
  show ∃ r ns' e, M__law_spoilt [some (.own (pn ns)), some (.val t), none, none, none, none, none, none, none, none] = _ ∧ _
  obtain ⟨r, ns1, hc, w, rfl, hw0, hw1⟩ := callP (take_ok (b := 8) (by decide)) (ts := [.int 8]) (i := 0) (ms := mCons (mC (.int 8)) mNil) (e := [some (.own (pn ns)), some (.val t), none, none, none, none, none, none, none, none]) (ns := ns) rfl rfl
  rw [Mspoilt_eq]
  unfold Mspoilt
  rw [seq_set hc]
  simp only [List.set]
  have hf := good_fit h.1
  by_cases hs : ∃ a rows, t = .tuple [a, .tuple rows]
  · obtain ⟨a, rows, rfl⟩ := hs
    have c0 : mOrT (mNotT (mTst (mIsi .tup (mVar 1)))) (mOrT (mTst (mTree (m2 fNe (mLenV 1) (mC (.int 2))))) (mNotT (mTst (mIsi .tup (mIxV 1 (mC (.int 1))))))) [some (.own (pn ns1)), some (.val (.tuple [a, .tuple rows])), some (.val (.int w)), none, none, none, none, none, none, none]
        = .ok false [some (.own (pn ns1)), some (.val (.tuple [a, .tuple rows])), some (.val (.int w)), none, none, none, none, none, none, none] := rfl
    have s3 : mVal (mIxV 1 (mC (.int 0))) [some (.own (pn ns1)), some (.val (.tuple [a, .tuple rows])), some (.val (.int w)), none, none, none, none, none, none, none] = .ok (.val a) [some (.own (pn ns1)), some (.val (.tuple [a, .tuple rows])), some (.val (.int w)), none, none, none, none, none, none, none] := rfl
    have s4 : mN fList (mCons (mIxV 1 (mC (.int 1))) mNil) [some (.own (pn ns1)), some (.val (.tuple [a, .tuple rows])), some (.val (.int w)), some (.val a), none, none, none, none, none, none] = .ok (.own rows) [some (.own (pn ns1)), some (.val (.tuple [a, .tuple rows])), some (.val (.int w)), some (.val a), none, none, none, none, none, none] := rfl
    rw [seq_if_f c0, seq_set s3]
    simp only [List.set]
    rw [seq_set s4]
    simp only [List.set]
    obtain ⟨h1, h2, h3⟩ := h.2 a rows rfl
    have fa := fit_it hf (x := a) (by simp)
    have fr := fit_it hf (x := .tuple rows) (by simp)
    have frs := (fit_tup fr).2
    have eqc : ∀ k : Int, mTst (mTree (m2 fEq (mVar 2) (mC (.int k)))) (S ns1 (.tuple [a, .tuple rows]) w a rows none none none none none) = .ok (decide (w = k)) (S ns1 (.tuple [a, .tuple rows]) w a rows none none none none none) := fun k => by
      simp [runDef, List.replicate, mRet, mVal, mTree, mCall, mCons, mNil, mVar, mC, mSeq, mIfS, mNx, mNotT, mTst, mAndT, mOrT, mAndV, mOrV, mNotV, Res.bind, RV.tree, give, mAsg, gT, gN, gsCons, gsNil, mChainT, qLink, qLast, yes, asBool, m2, m1, mN, mTup, mSet, keepE, fEq, TL.same]
    have c1 := eqc 1
    by_cases hw : w = 1
    · rw [decide_eq_true hw] at c1
      obtain ⟨x, ns2, hp, hx⟩ := pickM (L := [.list [a, .tuple rows], .tuple [a], .tuple [a, .tuple rows, .int 0], .tuple [.tuple rows, a]]) (n := 4) (ml := mTree (mLst (mCons (mTree (mLst (mCons (mVar 3) (mCons (mIxV 1 (mC (.int 1))) mNil)))) (mCons (mTup (mCons (mVar 3) mNil)) (mCons (mTup (mCons (mVar 3) (mCons (mIxV 1 (mC (.int 1))) (mCons (mC (.int 0)) mNil)))) (mCons (mTup (mCons (mIxV 1 (mC (.int 1))) (mCons (mVar 3) mNil))) mNil))))))
        (e := S ns1 (.tuple [a, .tuple rows]) w a rows none none none none none) (ns := ns1) rfl rfl (by decide) rfl
      exact ⟨.val x, ns2, _, seq_if_t c1 (ret_eq hp), bent4 h x hx⟩
    rw [decide_eq_false hw] at c1
    rw [seq_if_f c1]
    have c2 := eqc 2
    by_cases hw2 : w = 2
    · rw [decide_eq_true hw2] at c2
      obtain ⟨o, ns2, ho, hox⟩ := callP odd_ok2 (ts := []) (i := 0) (ms := mNil) (e := S ns1 (.tuple [a, .tuple rows]) w a rows none none none none none) (ns := ns1) rfl rfl
      obtain ⟨e7, q7⟩ := law_int_ok (fit_nd (odd_fit hox))
      have key : ∃ o', SP (.tuple [o', .tuple rows]) ∧ ∃ ee, (mSeq (mIfS (mAndT (mTst (mTree (mCall D__law_int (mCons (mVar 6) mNil)))) (mTst (mTree (m2 fGt (mVar 6) (mC (.int 9973)))))) (mSet 6 (mVal (mC (.int 9973)))) mNx) (mRet (mVal (mTup (mCons (mVar 6) (mCons (mIxV 1 (mC (.int 1))) mNil))))))
          (S ns2 (.tuple [a, .tuple rows]) w a rows none (some (.val o)) none none none) = .ok (.rt (.val (.tuple [o', .tuple rows]))) (some (.own (pn ns2)) :: ee) := by
        have go : ∀ o' : T, mRet (mVal (mTup (mCons (mVar 6) (mCons (mIxV 1 (mC (.int 1))) mNil)))) (S ns2 (.tuple [a, .tuple rows]) w a rows none (some (.val o')) none none none) = .ok (.rt (.val (.tuple [o', .tuple rows]))) (S ns2 (.tuple [a, .tuple rows]) w a rows none (some (.val o')) none none none) := fun o' => ret_eq (val_ok (tup_ok (cons_ok rfl (cons_ok rfl rfl)) (by simp)))
        rcases isI_or o with g | ⟨i, rfl, g⟩ <;> rw [g] at q7
        · have c : mAndT (mTst (mTree (mCall D__law_int (mCons (mVar 6) mNil)))) (mTst (mTree (m2 fGt (mVar 6) (mC (.int 9973))))) (S ns2 (.tuple [a, .tuple rows]) w a rows none (some (.val o)) none none none) = .ok false (S ns2 (.tuple [a, .tuple rows]) w a rows none (some (.val o)) none none none) := by
            simp [runDef, List.replicate, mRet, mVal, mTree, mCall, mCons, mNil, mVar, mC, mSeq, mIfS, mNx, mNotT, mTst, mAndT, mOrT, mAndV, mOrV, mNotV, Res.bind, RV.tree, give, mAsg, gT, gN, gsCons, gsNil, mChainT, qLink, qLast, yes, asBool, m2, m1, mN, mTup, mSet, keepE, q7]
          exact ⟨o, sp_pair (odd_fit hox) frs h1 (odd_i hox) (odd_tup o hox), _, (seq_if_f c).trans (go o)⟩
        · by_cases hi : 9973 < i
          · have c : mAndT (mTst (mTree (mCall D__law_int (mCons (mVar 6) mNil)))) (mTst (mTree (m2 fGt (mVar 6) (mC (.int 9973))))) (S ns2 (.tuple [a, .tuple rows]) w a rows none (some (.val (.int i))) none none none) = .ok true (S ns2 (.tuple [a, .tuple rows]) w a rows none (some (.val (.int i))) none none none) := by
              simp [runDef, List.replicate, mRet, mVal, mTree, mCall, mCons, mNil, mVar, mC, mSeq, mIfS, mNx, mNotT, mTst, mAndT, mOrT, mAndV, mOrV, mNotV, Res.bind, RV.tree, give, mAsg, gT, gN, gsCons, gsNil, mChainT, qLink, qLast, yes, asBool, m2, m1, mN, mTup, mSet, keepE, q7, fCmp, hi]
            exact ⟨.int 9973, sp_pair rfl frs h1 (fun i e => by cases e; decide) (fun rs e => by cases e), _, (seq_if_nx c (set_eq (e1 := S ns2 (.tuple [a, .tuple rows]) w a rows none (some (.val (.int i))) none none none) (r := .val (.int 9973)) rfl)).trans (go (.int 9973))⟩
          · have c : mAndT (mTst (mTree (mCall D__law_int (mCons (mVar 6) mNil)))) (mTst (mTree (m2 fGt (mVar 6) (mC (.int 9973))))) (S ns2 (.tuple [a, .tuple rows]) w a rows none (some (.val (.int i))) none none none) = .ok false (S ns2 (.tuple [a, .tuple rows]) w a rows none (some (.val (.int i))) none none none) := by
              simp [runDef, List.replicate, mRet, mVal, mTree, mCall, mCons, mNil, mVar, mC, mSeq, mIfS, mNx, mNotT, mTst, mAndT, mOrT, mAndV, mOrV, mNotV, Res.bind, RV.tree, give, mAsg, gT, gN, gsCons, gsNil, mChainT, qLink, qLast, yes, asBool, m2, m1, mN, mTup, mSet, keepE, q7, fCmp, hi]
            exact ⟨.int i, sp_pair rfl frs h1 (odd_i hox) (fun rs e => by cases e), _, (seq_if_f c).trans (go (.int i))⟩
      obtain ⟨o', hsp, ee, key⟩ := key
      exact ⟨.val (.tuple [o', .tuple rows]), ns2, ee, seq_if_t c2 ((seq_set ho).trans key), hsp⟩
    rw [decide_eq_false hw2] at c2
    rw [seq_if_f c2]
    have c3 := eqc 3
    by_cases hw3 : w = 3
    · rw [decide_eq_true hw3] at c3
      let e1 : En := [some (.own (pn ns1)), some (.val (.tuple [a, .tuple rows])), some (.val (.int w)), some (.val a), some (.val (.list rows)), none, none, none, none, none]
      obtain ⟨o, ns2, ho, hox⟩ := callP odd_ok2 (ts := []) (i := 0) (ms := mNil) (e := e1) (ns := ns1) rfl rfl
      let e2 : En := [some (.own (pn ns2)), some (.val (.tuple [a, .tuple rows])), some (.val (.int w)), some (.val a), some (.val (.list rows)), none, none, none, none, none]
      have hml : mTree (mLst (mCons (mVar 4) (mCons (mTree (mCallP D__law_odd 0 mNil)) mNil))) (S ns1 (.tuple [a, .tuple rows]) w a rows none none none none none) = .ok (.list [.list rows, o]) e2 := by
        have : mLst (mCons (mVar 4) (mCons (mTree (mCallP D__law_odd 0 mNil)) mNil)) (S ns1 (.tuple [a, .tuple rows]) w a rows none none none none none) = .ok (.own [.list rows, o]) e2 := by
          simp only [mLst]
          rw [cons_ok (show mVar 4 (S ns1 (.tuple [a, .tuple rows]) w a rows none none none none none) = .ok (.list rows) e1 from rfl) (cons_ok (tree_ok ho) (show mNil _ = .ok [] _ from rfl))]
          rfl
        exact tree_ok this
      obtain ⟨x, ns3, hp, hx⟩ := pickM2 (n := 2) (ns := ns2) hml rfl (by decide) rfl
      refine ⟨.val (.tuple [a, x]), ns3, _, seq_if_t c3 (ret_eq (val_ok (tup_ok (cons_ok rfl (cons_ok (tree_ok hp) rfl)) (by simp)))), ?_⟩
      simp only [List.mem_cons, List.not_mem_nil, or_false] at hx
      rcases hx with rfl | rfl
      · exact sp_any fa (show fit (.list rows) = true from frs) h2 (fun i e => by cases e) (fun rs e => by cases e) h3
      · exact sp_any fa (odd_fit hox) h2 (odd_i hox) (odd_tup _ hox) h3
    rw [decide_eq_false hw3] at c3
    rw [seq_if_f c3]
    have c4 : mTst (mTree (m2 fEq (mLenV 4) (mC (.int 0)))) (S ns1 (.tuple [a, .tuple rows]) w a rows none none none none none) = .ok (decide (rows.length = 0)) (S ns1 (.tuple [a, .tuple rows]) w a rows none none none none none) := by
      show Res.ok (decide ((rows.length : Int) = 0)) _ = _
      rw [show decide ((rows.length : Int) = 0) = decide (rows.length = 0) from decide_eq_decide.mpr (by omega)]
    by_cases hr : rows.length = 0
    · rw [decide_eq_true hr] at c4
      obtain ⟨o, ns2, ho, hox⟩ := callP odd_ok2 (ts := []) (i := 0) (ms := mNil) (e := S ns1 (.tuple [a, .tuple rows]) w a rows none none none none none) (ns := ns1) rfl rfl
      refine ⟨.val (.tuple [a, .tuple [o]]), ns2, _, seq_if_t c4 (ret_eq (val_ok (tup_ok (cons_ok rfl (cons_ok (tup_ok (cons_ok (tree_ok ho) rfl) (by simp)) rfl)) (by simp)))), sp_pair fa ?_ (by simp) h2 h3⟩
      show (fit o && true) = true
      rw [odd_fit hox]; rfl
    rw [decide_eq_false hr] at c4
    rw [seq_if_f c4]
    exact tl ns1 w a rows rfl (fun z => hr (by rw [z]; rfl)) (by omega)
  · have c0 := spoilt_same hs hf (e := [some (.own (pn ns1)), some (.val t), some (.val (.int w)), none, none, none, none, none, none, none]) rfl
    exact ⟨.val t, ns1, [some (.val t), some (.val (.int w)), none, none, none, none, none, none, none], seq_if_t c0 (ret_eq rfl), h⟩
end G
end
section
set_option Elab.async false
set_option linter.all false
set_option autoImplicit false
set_option maxRecDepth 100000
set_option maxHeartbeats 2000000
set_option exponentiation.threshold 10000
namespace G
open PySem PySem.Spec PyProof.Rows L2 TL
def body8 : Ms := (mSeq (mSet 8 (mVal (mC (.int 4))))
  (mSeq (mIfS (mTst (mTree (mCall D__law_int (mCons (mVar 3) mNil))))
  (mSet 8 (mVal (mVar 3)))
  mNx)
  (mSeq (mSet 9 (mCallP D__law_take 0 (mCons (mC (.int 3)) mNil)))
  (mSeq (mSetIx 7 (mVar 9) (mTree (m2 fIx (mTree (mLst (mCons (mC .none) (mCons (mC (.bool true)) (mCons (mC (.bool false)) (mCons (mTree (m1 fNeg (mC (.int 1)))) (mCons (mC (.int 0)) (mCons (mVar 8) (mCons (mTree (m2 fSub (mVar 8) (mC (.int 1)))) (mCons (mC (.str "1")) (mCons (mTup (mCons (mC (.int 1)) mNil)) (mCons (mTree (m2 fPow (mC (.int 10)) (mC (.int 59)))) mNil)))))))))))) (mTree (mCallP D__law_take 0 (mCons (mC (.int 10)) mNil))))))
  (mSetIx 4 (mVar 5) (mTree (mN fTuple (mCons (mVar 7) mNil))))))))
def body7 : Ms := (mSeq (mSet 7 (mN fList (mCons (mIxV 4 (mVar 5)) mNil)))
  (mIfS (mTst (mTree (m2 fLt (mVar 2) (mC (.int 7)))))
  body8
  (mSetIx 4 (mVar 5) (mVar 7))))
def tailY : Ms := (mSeq (mSet 5 (mCallP D__law_take 0 (mCons (mLenV 4) mNil)))
  (mSeq (mIfS (mTst (mTree (m2 fEq (mVar 2) (mC (.int 4)))))
  (mSetIx 4 (mVar 5) (mTree (mCallP D__law_odd 0 mNil)))
  mNx)
  (mSeq (mIfS (mAndT (mTst (mTree (m2 fGt (mVar 2) (mC (.int 4))))) (mAndT (mTst (mIsi .tup (mIxV 4 (mVar 5)))) (mTst (mTree (m2 fEq (mTree (mN fLen (mCons (mIxV 4 (mVar 5)) mNil))) (mC (.int 3)))))))
  body7
  mNx)
  (mRet (mVal (mTup (mCons (mVar 3) (mCons (mTree (mN fTuple (mCons (mVar 4) mNil))) mNil))))))))
theorem tailY_eq : tailX = tailY := rfl
section
variable {t a : T} {w p : Int} {rows : List T} {ns : List Int}
theorem fin_sp {x5 x6 x7 x8 x9 : Option RV} (fa : fit a = true) (h2 : ∀ i, a = .int i → i.natAbs < 2 ^ 200) (h3 : ∀ rs, a = .tuple rs → rs.length ≤ 100) (hr : fits rows = true) (hl : rows.length ≤ 100) :
    ∃ r ns' e, mRet (mVal (mTup (mCons (mVar 3) (mCons (mTree (mN fTuple (mCons (mVar 4) mNil))) mNil)))) (S ns t w a rows x5 x6 x7 x8 x9) = .ok (.rt r) (some (.own (pn ns')) :: e) ∧ SP r.tree :=
  ⟨.val (.tuple [a, .tuple rows]), ns, [some (.val t), some (.val (.int w)), some (.val a), some (.val (.list rows)), x5, x6, x7, x8, x9], ret_eq (val_ok (tup_ok (cons_ok rfl (cons_ok rfl rfl)) (by simp))), sp_pair fa hr hl h2 h3⟩
theorem setix {x6 x7 x8 x9 : Option RV} {m : Mt} {y : T} {ns1 : List Int} {x7' : Option RV} (h0 : 0 ≤ p) (h1 : p < rows.length) (hm : m (S ns t w a rows (some (.val (.int p))) x6 x7 x8 x9) = .ok y (S ns1 t w a rows (some (.val (.int p))) x6 x7' x8 x9)) :
    mSetIx 4 (mVar 5) m (S ns t w a rows (some (.val (.int p))) x6 x7 x8 x9) = .ok .nx (S ns1 t w a (rows.set p.toNat y) (some (.val (.int p))) x6 x7' x8 x9) := by
  have hix : ixN rows.length p = some p.toNat := by
    unfold ixN
    rw [if_pos h0, if_pos h1]
  simp [mSetIx, hm, Res.bind, mVar, hix]
end
theorem step8 {t a x y z : T} {w p : Int} {rows : List T} {ns : List Int} (hx : fit x = true) (hy : fit y = true) (hz : fit z = true) (fa : fit a = true) (h0 : 0 ≤ p) (h1 : p < rows.length) : ∃ ns' u x7 x8 x9, body8 (S ns t w a rows (some (.val (.int p))) none (some (.own [x, y, z])) none none) = .ok .nx (S ns' t w a (rows.set p.toNat u) (some (.val (.int p))) none x7 x8 x9) ∧ fit u = true := by
  obtain ⟨e7, q7⟩ := law_int_ok (fit_nd fa)
  -- the end of the range
  have hend : ∃ en : Int, ∀ rest : Ms, mSeq (mSet 8 (mVal (mC (.int 4)))) (mSeq (mIfS (mTst (mTree (mCall D__law_int (mCons (mVar 3) mNil)))) (mSet 8 (mVal (mVar 3))) mNx) rest) (S ns t w a rows (some (.val (.int p))) none (some (.own [x, y, z])) none none) = rest (S ns t w a rows (some (.val (.int p))) none (some (.own [x, y, z])) (some (.val (.int en))) none) := by
    rcases isI_or a with g | ⟨i, rfl, g⟩ <;> rw [g] at q7
    · refine ⟨4, fun rest => ?_⟩
      rw [seq_set (i := 8) (m := mVal (mC (.int 4))) (e1 := S ns t w a rows (some (.val (.int p))) none (some (.own [x, y, z])) none none) (r := .val (.int 4)) rfl]
      exact seq_if_f (by simp [runDef, List.replicate, mRet, mVal, mTree, mCall, mCons, mNil, mVar, mC, mSeq, mIfS, mNx, mNotT, mTst, mAndT, mOrT, mAndV, mOrV, mNotV, Res.bind, RV.tree, give, mAsg, gT, gN, gsCons, gsNil, mChainT, qLink, qLast, yes, asBool, m2, m1, mN, mTup, mSet, keepE, q7])
    · refine ⟨i, fun rest => ?_⟩
      rw [seq_set (i := 8) (m := mVal (mC (.int 4))) (e1 := S ns t w (.int i) rows (some (.val (.int p))) none (some (.own [x, y, z])) none none) (r := .val (.int 4)) rfl]
      exact seq_if_nx (e1 := S ns t w (.int i) rows (some (.val (.int p))) none (some (.own [x, y, z])) (some (.val (.int 4))) none) (by simp [runDef, List.replicate, mRet, mVal, mTree, mCall, mCons, mNil, mVar, mC, mSeq, mIfS, mNx, mNotT, mTst, mAndT, mOrT, mAndV, mOrV, mNotV, Res.bind, RV.tree, give, mAsg, gT, gN, gsCons, gsNil, mChainT, qLink, qLast, yes, asBool, m2, m1, mN, mTup, mSet, keepE, q7]) (set_eq (e1 := S ns t w (.int i) rows (some (.val (.int p))) none (some (.own [x, y, z])) (some (.val (.int 4))) none) (r := .val (.int i)) rfl)
  obtain ⟨en, hend⟩ := hend
  unfold body8
  rw [hend]
  obtain ⟨r, ns1, hc, s, rfl, hs0, hs1⟩ := callP (take_ok (b := 3) (by decide)) (ts := [.int 3]) (i := 0) (ms := mCons (mC (.int 3)) mNil) (e := S ns t w a rows (some (.val (.int p))) none (some (.own [x, y, z])) (some (.val (.int en))) none) (ns := ns) rfl rfl
  rw [seq_set hc]
  simp only [List.set]
  have hL : ∀ v ∈ ([.none, .bool true, .bool false, .int (-1), .int 0, .int en, .int (en - 1), .str "1", .tuple [.int 1], .int (10 ^ 59)] : List T), fit v = true := by
    intro v hv
    simp only [List.mem_cons, List.not_mem_nil, or_false] at hv
    rcases hv with rfl | rfl | rfl | rfl | rfl | rfl | rfl | rfl | rfl | rfl <;> rfl
  obtain ⟨v, ns2, hp, hv⟩ := pickM (L := [.none, .bool true, .bool false, .int (-1), .int 0, .int en, .int (en - 1), .str "1", .tuple [.int 1], .int (10 ^ 59)]) (n := 10) (ml := mTree (mLst (mCons (mC .none) (mCons (mC (.bool true)) (mCons (mC (.bool false)) (mCons (mTree (m1 fNeg (mC (.int 1)))) (mCons (mC (.int 0)) (mCons (mVar 8) (mCons (mTree (m2 fSub (mVar 8) (mC (.int 1)))) (mCons (mC (.str "1")) (mCons (mTup (mCons (mC (.int 1)) mNil)) (mCons (mTree (m2 fPow (mC (.int 10)) (mC (.int 59)))) mNil))))))))))))
    (e := S ns1 t w a rows (some (.val (.int p))) none (some (.own [x, y, z])) (some (.val (.int en))) (some (.val (.int s)))) (ns := ns1) rfl rfl (by decide) rfl
  have hm := tree_ok hp
  have fv := hL v hv
  have go : ∀ l7 : List T, l7.length = 3 → fits l7 = true → mSetIx 7 (mVar 9) (mTree (m2 fIx (mTree (mLst (mCons (mC .none) (mCons (mC (.bool true)) (mCons (mC (.bool false)) (mCons (mTree (m1 fNeg (mC (.int 1)))) (mCons (mC (.int 0)) (mCons (mVar 8) (mCons (mTree (m2 fSub (mVar 8) (mC (.int 1)))) (mCons (mC (.str "1")) (mCons (mTup (mCons (mC (.int 1)) mNil)) (mCons (mTree (m2 fPow (mC (.int 10)) (mC (.int 59)))) mNil)))))))))))) (mTree (mCallP D__law_take 0 (mCons (mC (.int 10)) mNil)))))
      (S ns1 t w a rows (some (.val (.int p))) none (some (.own [x, y, z])) (some (.val (.int en))) (some (.val (.int s)))) = .ok .nx (S ns2 t w a rows (some (.val (.int p))) none (some (.own l7)) (some (.val (.int en))) (some (.val (.int s)))) → ∃ ns' u x7 x8 x9, mSeq (mSetIx 7 (mVar 9) (mTree (m2 fIx (mTree (mLst (mCons (mC .none) (mCons (mC (.bool true)) (mCons (mC (.bool false)) (mCons (mTree (m1 fNeg (mC (.int 1)))) (mCons (mC (.int 0)) (mCons (mVar 8) (mCons (mTree (m2 fSub (mVar 8) (mC (.int 1)))) (mCons (mC (.str "1")) (mCons (mTup (mCons (mC (.int 1)) mNil)) (mCons (mTree (m2 fPow (mC (.int 10)) (mC (.int 59)))) mNil)))))))))))) (mTree (mCallP D__law_take 0 (mCons (mC (.int 10)) mNil))))))
      (mSetIx 4 (mVar 5) (mTree (mN fTuple (mCons (mVar 7) mNil)))) (S ns1 t w a rows (some (.val (.int p))) none (some (.own [x, y, z])) (some (.val (.int en))) (some (.val (.int s)))) = .ok .nx (S ns' t w a (rows.set p.toNat u) (some (.val (.int p))) none x7 x8 x9) ∧ fit u = true := fun l7 hl hf h => by
    rw [seq_nx h]
    refine ⟨ns2, .tuple l7, some (.val (.list l7)), some (.val (.int en)), some (.val (.int s)), setix h0 h1 rfl, ?_⟩
    show (decide (l7.length ≤ 100000) && fits l7) = true
    rw [hf, decide_eq_true (by omega)]
    rfl
  have f3 : ∀ {a b c : T}, fit a = true → fit b = true → fit c = true → fits [a, b, c] = true := fun ha hb hc => by
    show (fit _ && (fit _ && (fit _ && true))) = true
    rw [ha, hb, hc]
    rfl
  have sx : s = 0 ∨ s = 1 ∨ s = 2 := by omega
  rcases sx with rfl | rfl | rfl
  · refine go [v, y, z] rfl (f3 fv hy hz) ?_
    simp only [mSetIx]
    rw [hm]
    rfl
  · refine go [x, v, z] rfl (f3 hx fv hz) ?_
    simp only [mSetIx]
    rw [hm]
    rfl
  · refine go [x, y, v] rfl (f3 hx hy fv) ?_
    simp only [mSetIx]
    rw [hm]
    rfl
theorem tail_ok {t a : T} {w : Int} {rows : List T} {ns : List Int} (fa : fit a = true) (h2 : ∀ i, a = .int i → i.natAbs < 2 ^ 200) (h3 : ∀ rs, a = .tuple rs → rs.length ≤ 100) (hr : fits rows = true) (hl : rows.length ≤ 100) (hne : rows ≠ []) :
    ∃ r ns' e, tailX (S ns t w a rows none none none none none) = .ok (.rt r) (some (.own (pn ns')) :: e) ∧ SP r.tree := by
  have hpos : 0 < rows.length := List.length_pos_iff.mpr hne
  obtain ⟨r, ns1, hc, p, rfl, hp0, hp1⟩ := callP (take_ok (b := (rows.length : Int)) (by omega)) (ts := [.int (rows.length : Int)]) (i := 0) (ms := mCons (mLenV 4) mNil) (e := S ns t w a rows none none none none none) (ns := ns) rfl rfl
  rw [tailY_eq]
  unfold tailY
  rw [seq_set hc]
  simp only [List.set]
  have eqc : ∀ k : Int, mTst (mTree (m2 fEq (mVar 2) (mC (.int k)))) (S ns1 t w a rows (some (.val (.int p))) none none none none) = .ok (decide (w = k)) (S ns1 t w a rows (some (.val (.int p))) none none none none) := fun k => by
    simp [runDef, List.replicate, mRet, mVal, mTree, mCall, mCons, mNil, mVar, mC, mSeq, mIfS, mNx, mNotT, mTst, mAndT, mOrT, mAndV, mOrV, mNotV, Res.bind, RV.tree, give, mAsg, gT, gN, gsCons, gsNil, mChainT, qLink, qLast, yes, asBool, m2, m1, mN, mTup, mSet, keepE, fEq, TL.same]
  have c4 := eqc 4
  have c7f : ∀ (ns' : List Int) (rows' : List T), ¬ 4 < w → mAndT (mTst (mTree (m2 fGt (mVar 2) (mC (.int 4))))) (mAndT (mTst (mIsi .tup (mIxV 4 (mVar 5)))) (mTst (mTree (m2 fEq (mTree (mN fLen (mCons (mIxV 4 (mVar 5)) mNil))) (mC (.int 3)))))) (S ns' t w a rows' (some (.val (.int p))) none none none none) = .ok false (S ns' t w a rows' (some (.val (.int p))) none none none none) := fun ns' rows' hw => by
    simp [runDef, List.replicate, mRet, mVal, mTree, mCall, mCons, mNil, mVar, mC, mSeq, mIfS, mNx, mNotT, mTst, mAndT, mOrT, mAndV, mOrV, mNotV, Res.bind, RV.tree, give, mAsg, gT, gN, gsCons, gsNil, mChainT, qLink, qLast, yes, asBool, m2, m1, mN, mTup, mSet, keepE, fCmp, hw]
  by_cases hw4 : w = 4
  · rw [decide_eq_true hw4] at c4
    obtain ⟨o, ns2, ho, hox⟩ := callP odd_ok2 (ts := []) (i := 0) (ms := mNil) (e := S ns1 t w a rows (some (.val (.int p))) none none none none) (ns := ns1) rfl rfl
    rw [seq_if_nx c4 (setix (ns1 := ns2) hp0 hp1 (tree_ok ho)), seq_if_f (c7f ns2 _ (by omega))]
    exact fin_sp fa h2 h3 (fits_set _ hr (odd_fit hox)) (by rw [List.length_set]; exact hl)
  rw [decide_eq_false hw4] at c4
  rw [seq_if_f c4]
  by_cases hw : 4 < w
  · obtain ⟨l, hlm, hat⟩ := atI_in (ts := rows) hp0 hp1
    have fl := fits_mem hr l hlm
    have hix : mIxV 4 (mVar 5) (S ns1 t w a rows (some (.val (.int p))) none none none none) = .ok l (S ns1 t w a rows (some (.val (.int p))) none none none none) := by
      simp [mIxV, mVar, Res.bind, peek, hat]
    have c7 : mAndT (mTst (mTree (m2 fGt (mVar 2) (mC (.int 4))))) (mAndT (mTst (mIsi .tup (mIxV 4 (mVar 5)))) (mTst (mTree (m2 fEq (mTree (mN fLen (mCons (mIxV 4 (mVar 5)) mNil))) (mC (.int 3)))))) (S ns1 t w a rows (some (.val (.int p))) none none none none) = .ok (isTu 3 l) (S ns1 t w a rows (some (.val (.int p))) none none none none) := by
      cases l <;> first | cases fl; done | simp [mAndT, mTst, mTree, m2, mN, mCons, mNil, mVar, mC, mIsi, hix, isK, Res.bind, fCmp, hw, give, RV.tree, fLen, items, fEq, TL.same, isTu]
    rcases isTu_or 3 l with g | ⟨ts, rfl, g1, g⟩ <;> rw [g] at c7
    · rw [seq_if_f c7]
      exact fin_sp fa h2 h3 hr hl
    · obtain ⟨x, y, z, rfl⟩ := three g1
      have hx := fit_it fl (x := x) (by simp)
      have hy := fit_it fl (x := y) (by simp)
      have hz := fit_it fl (x := z) (by simp)
      have g7 : mN fList (mCons (mIxV 4 (mVar 5)) mNil) (S ns1 t w a rows (some (.val (.int p))) none none none none) = .ok (.own [x, y, z]) (S ns1 t w a rows (some (.val (.int p))) none none none none) := by
        simp [mN, mCons, mNil, hix, Res.bind, fList, items, give]
      have cw : mTst (mTree (m2 fLt (mVar 2) (mC (.int 7)))) (S ns1 t w a rows (some (.val (.int p))) none (some (.own [x, y, z])) none none) = .ok (decide (w < 7)) (S ns1 t w a rows (some (.val (.int p))) none (some (.own [x, y, z])) none none) := by
        simp [runDef, List.replicate, mRet, mVal, mTree, mCall, mCons, mNil, mVar, mC, mSeq, mIfS, mNx, mNotT, mTst, mAndT, mOrT, mAndV, mOrV, mNotV, Res.bind, RV.tree, give, mAsg, gT, gN, gsCons, gsNil, mChainT, qLink, qLast, yes, asBool, m2, m1, mN, mTup, mSet, keepE, fCmp]
      by_cases hw7 : w < 7
      · rw [decide_eq_true hw7] at cw
        obtain ⟨ns2, u, x7, x8, x9, h8, hu⟩ := step8 (t := t) (w := w) (ns := ns1) hx hy hz fa hp0 hp1
        have h7 : body7 (S ns1 t w a rows (some (.val (.int p))) none none none none) = .ok .nx (S ns2 t w a (rows.set p.toNat u) (some (.val (.int p))) none x7 x8 x9) := by
          unfold body7
          rw [seq_set g7]
          simp only [List.set, mIfS, cw, Res.bind, if_true]
          exact h8
        rw [seq_if_nx c7 h7]
        exact fin_sp fa h2 h3 (fits_set _ hr hu) (by rw [List.length_set]; exact hl)
      · rw [decide_eq_false hw7] at cw
        have h7 : body7 (S ns1 t w a rows (some (.val (.int p))) none none none none) = .ok .nx (S ns1 t w a (rows.set p.toNat (.list [x, y, z])) (some (.val (.int p))) none (some (.val (.list [x, y, z]))) none none) := by
          unfold body7
          rw [seq_set g7]
          simp only [List.set, mIfS, cw, Res.bind, Bool.false_eq_true, if_false]
          exact setix hp0 hp1 rfl
        have hu : fit (.list [x, y, z]) = true := by
          show (fit x && (fit y && (fit z && true))) = true
          rw [hx, hy, hz]
          rfl
        rw [seq_if_nx c7 h7]
        exact fin_sp fa h2 h3 (fits_set _ hr hu) (by rw [List.length_set]; exact hl)
  · rw [seq_if_f (c7f ns1 rows hw)]
    exact fin_sp fa h2 h3 hr hl
theorem spoilt_all {t : T} (h : SP t) : PV D__law_spoilt [.val t] SP := spoilt_ok h fun ns w a rows e hne _ => by
  subst e
  have hf := good_fit h.1
  obtain ⟨h1, h2, h3⟩ := h.2 a rows rfl
  exact tail_ok (fit_it hf (by simp)) h2 h3 (fit_tup (fit_it hf (x := .tuple rows) (by simp))).2 h1 hne
end G
end
section
set_option Elab.async false
set_option linter.all false
set_option autoImplicit false
set_option maxRecDepth 100000
set_option maxHeartbeats 2000000
set_option exponentiation.threshold 10000
namespace G
open PySem PySem.Spec PyProof.Rows L2 TL
def body1 : Ms := (mSeq (mSet 17 (mCall D__law_due (mCons (mVar 16) (mCons (mVar 3) (mCons (mVar 2) mNil)))))
  (mSeq (mIfS (mNotT (mTst (mTree (mCall D__law_same (mCons (mTree (mCall D__law_told (mCons (mVar 16) (mCons (mVar 3) (mCons (mVar 2) (mCons (mVar 4) mNil)))))) (mCons (mVar 17) mNil))))))
  (mRet (mVal (mC (.bool false))))
  mNx)
  (mIfS (mNotT (mTst (mTree (mCall D__law_checked (mCons (mVar 16) (mCons (mVar 4) mNil))))))
  (mRet (mVal (mC (.bool false))))
  mNx)))
def body2 : Ms := (mSeq (mIfS (mNotT (mTst (mTree (mCall D__law_checked (mCons (mVar 16) (mCons (mNotV (mVar 4)) mNil))))))
  (mRet (mVal (mC (.bool false))))
  mNx)
  (mIfS (mNotT (mTst (mTree (mCall D__law_same (mCons (mTree (mCall D__law_told (mCons (mVar 16) (mCons (mVar 3) (mCons (mVar 2) (mCons (mNotV (mVar 4)) mNil)))))) (mCons (mTree (mCall D__law_due (mCons (mVar 16) (mCons (mVar 3) (mCons (mVar 2) mNil))))) mNil))))))
  (mRet (mVal (mC (.bool false))))
  mNx))
abbrev Z (x0 x1 : Option RV) (w0 : T) (ls : List T) (m : Nat) (b : Bool) (x5 x6 x7 x8 x9 x10 x11 x12 x13 x14 x15 x16 x17 x18 : Option RV) : En :=
  [x0, x1, some (.val (.tuple [w0, .tuple ls])), some (.val (.int (m : Nat))), some (.val (.bool b)), x5, x6, x7, x8, x9, x10, x11, x12, x13, x14, x15, x16, x17, x18]
theorem call4 {D : DF} {m n k j : Mt} {e e1 e2 e3 e4 : En} {t s r q u : T} (hm : m e = .ok t e1) (hn : n e1 = .ok s e2) (hk : k e2 = .ok r e3) (hj : j e3 = .ok q e4) (h : Is (D [.val t, .val s, .val r, .val q]) u) : mTree (mCall D (mCons m (mCons n (mCons k (mCons j mNil))))) e = .ok u e4 := by
  obtain ⟨e5, h⟩ := h
  simp [mTree, mCall, mCons, mNil, Res.bind, hm, hn, hk, hj, h, RV.tree]
section
variable {x0 x1 : Option RV} {w0 : T} {ls : List T} {m : Nat} {b : Bool} {x5 x6 x7 x8 x9 x10 x11 x12 x13 x14 x15 x17 x18 : Option RV} {t : T}
theorem step1 (h : good t = true) (hm : m ≤ 100000) (hl : ∀ l ∈ ls, okLine l) : body1 (Z x0 x1 w0 ls m b x5 x6 x7 x8 x9 x10 x11 x12 x13 x14 x15 (some (.val t)) x17 x18)
    = .ok .nx (Z x0 x1 w0 ls m b x5 x6 x7 x8 x9 x10 x11 x12 x13 x14 x15 (some (.val t)) (some (.val (.tuple (ans t (m : Int) ls)))) x18) := by
  have hf := good_fit h
  have c17 : mCall D__law_due (mCons (mVar 16) (mCons (mVar 3) (mCons (mVar 2) mNil))) (Z x0 x1 w0 ls m b x5 x6 x7 x8 x9 x10 x11 x12 x13 x14 x15 (some (.val t)) x17 x18) = .ok (.val (.tuple (ans t (m : Int) ls))) (Z x0 x1 w0 ls m b x5 x6 x7 x8 x9 x10 x11 x12 x13 x14 x15 (some (.val t)) x17 x18) :=
    callV3 rfl rfl rfl (due_ok hf (good_okQ h) hm hl)
  unfold body1
  rw [seq_set c17]
  simp only [List.set]
  have ct := call4 (m := mVar 16) (n := mVar 3) (k := mVar 2) (j := mVar 4) (e := Z x0 x1 w0 ls m b x5 x6 x7 x8 x9 x10 x11 x12 x13 x14 x15 (some (.val t)) (some (.val (.tuple (ans t (m : Int) ls)))) x18) rfl rfl rfl rfl (told_ok (w0 := w0) (m := m) (b := b) hf hl)
  have cs := notT_ok (tst_eq (call2 ct (n := mVar 17) (s := .tuple (ans t (m : Int) ls)) rfl agree))
  rw [seq_if_f cs]
  have cc := notT_ok (tst_eq (call2 (m := mVar 16) (n := mVar 4) (e := Z x0 x1 w0 ls m b x5 x6 x7 x8 x9 x10 x11 x12 x13 x14 x15 (some (.val t)) (some (.val (.tuple (ans t (m : Int) ls)))) x18) rfl rfl (checked_ok (b := b) hf)))
  simp only [mIfS, cc, Res.bind, mNx]
  rfl
theorem step2 (h : good t = true) (hm : m ≤ 100000) (hl : ∀ l ∈ ls, okLine l) : body2 (Z x0 x1 w0 ls m b x5 x6 x7 x8 x9 x10 x11 x12 x13 x14 x15 (some (.val t)) x17 x18)
    = .ok .nx (Z x0 x1 w0 ls m b x5 x6 x7 x8 x9 x10 x11 x12 x13 x14 x15 (some (.val t)) x17 x18) := by
  have hf := good_fit h
  have cc := notT_ok (tst_eq (call2 (m := mVar 16) (n := mNotV (mVar 4)) (s := .bool (!b)) (e := Z x0 x1 w0 ls m b x5 x6 x7 x8 x9 x10 x11 x12 x13 x14 x15 (some (.val t)) x17 x18) rfl rfl (checked_ok (b := !b) hf)))
  unfold body2
  rw [seq_if_f cc]
  have ct := call4 (m := mVar 16) (n := mVar 3) (k := mVar 2) (j := mNotV (mVar 4)) (q := .bool (!b)) (e := Z x0 x1 w0 ls m b x5 x6 x7 x8 x9 x10 x11 x12 x13 x14 x15 (some (.val t)) x17 x18) rfl rfl rfl rfl (told_ok (w0 := w0) (m := m) (b := !b) hf hl)
  have cd : mTree (mCall D__law_due (mCons (mVar 16) (mCons (mVar 3) (mCons (mVar 2) mNil)))) (Z x0 x1 w0 ls m b x5 x6 x7 x8 x9 x10 x11 x12 x13 x14 x15 (some (.val t)) x17 x18) = .ok (.tuple (ans t (m : Int) ls)) (Z x0 x1 w0 ls m b x5 x6 x7 x8 x9 x10 x11 x12 x13 x14 x15 (some (.val t)) x17 x18) :=
    tree_ok (callV3 rfl rfl rfl (due_ok hf (good_okQ h) hm hl))
  have cs := notT_ok (tst_eq (call2 ct cd agree))
  simp only [mIfS, cs, Res.bind, mNx]
  rfl
end
theorem loop1 {x0 x1 : Option RV} {w0 : T} {ls : List T} {m : Nat} {b : Bool} {x5 x6 x7 x8 x9 x10 x11 x12 x13 x14 x15 x18 : Option RV} (hm : m ≤ 100000) (hl : ∀ l ∈ ls, okLine l) : ∀ (vs : List T) (x16 x17 : Option RV), (∀ v ∈ vs, good v = true) → ∃ y16 y17, mLoop (gN 16) body1 vs (Z x0 x1 w0 ls m b x5 x6 x7 x8 x9 x10 x11 x12 x13 x14 x15 x16 x17 x18) = .ok .nx (Z x0 x1 w0 ls m b x5 x6 x7 x8 x9 x10 x11 x12 x13 x14 x15 y16 y17 x18)
  | [], x16, x17, _ => ⟨x16, x17, rfl⟩
  | v :: vs, x16, x17, h => by
    obtain ⟨y16, y17, ih⟩ := loop1 hm hl vs (some (.val v)) (some (.val (.tuple (ans v (m : Int) ls)))) (fun u hu => h u (by simp [hu]))
    refine ⟨y16, y17, ?_⟩
    unfold mLoop
    simp only [gN, List.set]
    rw [step1 (h v (by simp)) hm hl]
    exact ih
theorem loop2 {x0 x1 : Option RV} {w0 : T} {ls : List T} {m : Nat} {b : Bool} {x5 x6 x7 x8 x9 x10 x11 x12 x13 x14 x15 x17 x18 : Option RV} (hm : m ≤ 100000) (hl : ∀ l ∈ ls, okLine l) : ∀ (vs : List T) (x16 : Option RV), (∀ v ∈ vs, good v = true) → ∃ y16, mLoop (gN 16) body2 vs (Z x0 x1 w0 ls m b x5 x6 x7 x8 x9 x10 x11 x12 x13 x14 x15 x16 x17 x18) = .ok .nx (Z x0 x1 w0 ls m b x5 x6 x7 x8 x9 x10 x11 x12 x13 x14 x15 y16 x17 x18)
  | [], x16, _ => ⟨x16, rfl⟩
  | v :: vs, x16, h => by
    obtain ⟨y16, ih⟩ := loop2 hm hl vs (some (.val v)) (fun u hu => h u (by simp [hu]))
    refine ⟨y16, ?_⟩
    unfold mLoop
    simp only [gN, List.set]
    rw [step2 (h v (by simp)) hm hl]
    exact ih
end G
end
section
set_option Elab.async false
set_option linter.all false
set_option autoImplicit false
set_option maxRecDepth 100000
set_option maxHeartbeats 2000000
set_option exponentiation.threshold 10000
namespace G
open PySem PySem.Spec PyProof.Rows L2 TL
/-- the law's environment in its first steps -/
abbrev Y (s : T) (ns : List Int) (l : List (Option RV)) : En := some (.val s) :: some (.own (pn ns)) :: l
theorem netP_line {ls : List T} (h : ∀ l ∈ ls, lineP l) : ∀ l ∈ ls, okLine l := fun l hl => by
  obtain ⟨a, b, c, e, _⟩ := h l hl
  exact ⟨a, b, c, e⟩
theorem net_sp {t : T} (h : netP t) : SP t := by
  obtain ⟨n, ls, rfl, h1, h2, h3, h4⟩ := h
  have ht : fits ls = true := fits_tri fun x hx => by
    obtain ⟨a, b, c, e, _⟩ := h4 x hx
    exact ⟨a, b, c, e⟩
  refine sp_pair rfl ht (by omega) (fun i e => ?_) (fun rs e => by cases e)
  cases e
  have : (2 : Nat) ^ 200 > 8 := by decide
  omega
/-- an item taken from the pool at slot 1, told as a test for 1 -/
theorem named_ok {s : T} {ns : List Int} {l : List (Option RV)} : ∃ (b : Bool) (ns' : List Int), m2 fEq (mTree (mCallP D__law_take 1 (mCons (mC (.int 2)) mNil))) (mC (.int 1)) (Y s ns l) = .ok (.val (.bool b)) (Y s ns' l) := by
  obtain ⟨r, ns1, hc, i, rfl, _, _⟩ := callP (take_ok (b := 2) (by decide)) (ts := [.int 2]) (i := 1) (ms := mCons (mC (.int 2)) mNil) (e := Y s ns l) (ns := ns) rfl rfl
  refine ⟨decide (i = 1), ns1, ?_⟩
  simp only [m2]
  rw [tree_ok hc]
  rfl
/-- the first comprehension: some of the houses -/
theorem comp1 {s t : T} {n : Nat} {ns : List Int} {x4 : Option RV} {l : List (Option RV)} (hn : n ≤ 8) : ∃ (ys : List T) (ns' : List Int), mComp (mRng (mCons (mVar 3) mNil)) (gN 8) (mTst (mTree (m2 fEq (mTree (mCallP D__law_take 1 (mCons (mC (.int 2)) mNil))) (mC (.int 1))))) (mVar 8) [8] (Y s ns [some (.val t), some (.val (.int (n : Nat))), x4, none, none, none, none, none, none, none, none, none, none, none, none, none, none])
    = .ok (.own ys) (Y s ns' [some (.val t), some (.val (.int (n : Nat))), x4, none, none, none, none, none, none, none, none, none, none, none, none, none, none]) ∧ (∀ y ∈ ys, ∃ i : Int, y = .int i ∧ i.natAbs < 8) ∧ ys.length ≤ 8 := by
  obtain ⟨ys, e', h1, ⟨ns', rfl⟩, h3, h4⟩ := comp_inv (I := fun e => ∃ ns', e = Y s ns' [some (.val t), some (.val (.int (n : Nat))), x4, none, none, none, none, none, none, none, none, none, none, none, none, none, none]) (P := fun y => ∃ i : Int, y = .int i ∧ i.natAbs < 8)
    (mi := mRng (mCons (mVar 3) mNil)) (g := gN 8) (vs := [8]) (tt := mTst (mTree (m2 fEq (mTree (mCallP D__law_take 1 (mCons (mC (.int 2)) mNil))) (mC (.int 1))))) (te := mVar 8)
    (e := Y s ns [some (.val t), some (.val (.int (n : Nat))), x4, none, none, none, none, none, none, none, none, none, none, none, none, none, none]) (e1 := Y s ns [some (.val t), some (.val (.int (n : Nat))), x4, none, none, none, none, none, none, none, none, none, none, none, none, none, none]) (ts := tn (List.range n))
    (by
      rw [← rng_tn]
      simp only [mRng, mCons, mNil, mVar, Res.bind, List.getElem?_cons_succ, List.getElem?_cons_zero]
      rw [if_pos (by omega)]
      simp) (by rw [len_tn, List.length_range]; omega) ⟨ns, rfl⟩ fun y hy e ⟨ns1, he⟩ => by
      subst he
      unfold tn at hy
      obtain ⟨k, hk, rfl⟩ := List.mem_map.mp hy
      have hk' := List.mem_range.mp hk
      obtain ⟨b, ns2, hb⟩ := named_ok (s := s) (ns := ns1) (l := [some (.val t), some (.val (.int (n : Nat))), x4, none, none, none, some (.val (.int (k : Nat))), none, none, none, none, none, none, none, none, none, none])
      exact ⟨_, b, _, rfl, tst_eq (tree_ok hb), fun _ => ⟨.int (k : Nat), _, rfl, ⟨_, rfl, by omega⟩, ⟨ns2, rfl⟩⟩, fun _ => ⟨ns2, rfl⟩⟩
  refine ⟨ys, ns', h1, h3, ?_⟩
  rw [len_tn, List.length_range] at h4
  omega
end G
end
section
set_option Elab.async false
set_option linter.all false
set_option autoImplicit false
set_option maxRecDepth 100000
set_option maxHeartbeats 2000000
set_option exponentiation.threshold 10000
namespace G
open PySem PySem.Spec PyProof.Rows L2 TL
/-- a comprehension of numbers from the pool -/
theorem comp2 {s t : T} {n : Nat} {ns : List Int} {x4 x5 x6 x7 x9 x10 x11 x12 x13 x14 x15 : Option RV} {tb : Mt} {bd : Int} (hn : n ≤ 8) (htb : ∀ (k : Nat) (ns' : List Int), k < n → ∃ (i : Int) (ns'' : List Int), tb (Y s ns' [some (.val t), some (.val (.int (n : Nat))), x4, x5, x6, x7, some (.val (.int (k : Nat))), x9, x10, x11, x12, x13, x14, x15, none, none, none])
      = .ok (.int i) (Y s ns'' [some (.val t), some (.val (.int (n : Nat))), x4, x5, x6, x7, some (.val (.int (k : Nat))), x9, x10, x11, x12, x13, x14, x15, none, none, none]) ∧ i.natAbs < 8) :
    ∃ (ys : List T) (ns' : List Int), mComp (mRng (mCons (mVar 3) mNil)) (gN 8) mYes tb [8] (Y s ns [some (.val t), some (.val (.int (n : Nat))), x4, x5, x6, x7, none, x9, x10, x11, x12, x13, x14, x15, none, none, none])
    = .ok (.own ys) (Y s ns' [some (.val t), some (.val (.int (n : Nat))), x4, x5, x6, x7, none, x9, x10, x11, x12, x13, x14, x15, none, none, none]) ∧ (∀ y ∈ ys, ∃ i : Int, y = .int i ∧ i.natAbs < 8) ∧ ys.length ≤ 8 := by
  obtain ⟨ys, e', h1, ⟨ns', rfl⟩, h3, h4⟩ := comp_inv (I := fun e => ∃ ns', e = Y s ns' [some (.val t), some (.val (.int (n : Nat))), x4, x5, x6, x7, none, x9, x10, x11, x12, x13, x14, x15, none, none, none]) (P := fun y => ∃ i : Int, y = .int i ∧ i.natAbs < 8)
    (mi := mRng (mCons (mVar 3) mNil)) (g := gN 8) (vs := [8]) (tt := mYes) (te := tb)
    (e := Y s ns [some (.val t), some (.val (.int (n : Nat))), x4, x5, x6, x7, none, x9, x10, x11, x12, x13, x14, x15, none, none, none]) (e1 := Y s ns [some (.val t), some (.val (.int (n : Nat))), x4, x5, x6, x7, none, x9, x10, x11, x12, x13, x14, x15, none, none, none]) (ts := tn (List.range n))
    (by
      rw [← rng_tn]
      simp only [mRng, mCons, mNil, mVar, Res.bind, List.getElem?_cons_succ, List.getElem?_cons_zero]
      rw [if_pos (by omega)]
      simp) (by rw [len_tn, List.length_range]; omega) ⟨ns, rfl⟩ fun y hy e ⟨ns1, he⟩ => by
      subst he
      unfold tn at hy
      obtain ⟨k, hk, rfl⟩ := List.mem_map.mp hy
      obtain ⟨i, ns2, hb, hi⟩ := htb k ns1 (List.mem_range.mp hk)
      exact ⟨_, true, _, rfl, rfl, fun _ => ⟨.int i, _, hb, ⟨_, rfl, hi⟩, ⟨ns2, rfl⟩⟩, fun z => by cases z⟩
  refine ⟨ys, ns', h1, h3, ?_⟩
  rw [len_tn, List.length_range] at h4
  omega
def bodyJ : Ms := (mIfS (mAndT (mTst (mTree (m2 fGt (mVar 8) (mC (.int 0))))) (mTst (mTree (m2 fEq (mTree (mCallP D__law_take 1 (mCons (mC (.int 2)) mNil))) (mC (.int 1))))))
  (mDrop (mApp 7 (mIxV 7 (mTree (mCallP D__law_take 1 (mCons (mVar 8) mNil))))))
  (mDrop (mApp 7 (mVar 8))))
theorem stepJ {s t : T} {nv : T} {ns : List Int} {x4 x5 x6 : Option RV} {js : List T} {k : Nat} (hk : js.length = k) (hk8 : k < 8) (hj : ∀ y ∈ js, ∃ i : Int, y = .int i ∧ i.natAbs < 8) : ∃ (y : T) (ns' : List Int), bodyJ (Y s ns [some (.val t), some (.val nv), x4, x5, x6, some (.own js), some (.val (.int (k : Nat))), none, none, none, none, none, none, none, none, none, none])
    = .ok .nx (Y s ns' [some (.val t), some (.val nv), x4, x5, x6, some (.own (js ++ [y])), some (.val (.int (k : Nat))), none, none, none, none, none, none, none, none, none, none]) ∧ ∃ i : Int, y = .int i ∧ i.natAbs < 8 := by
  have app : ∀ (ns' : List Int), mDrop (mApp 7 (mVar 8)) (Y s ns' [some (.val t), some (.val nv), x4, x5, x6, some (.own js), some (.val (.int (k : Nat))), none, none, none, none, none, none, none, none, none, none]) = .ok .nx (Y s ns' [some (.val t), some (.val nv), x4, x5, x6, some (.own (js ++ [.int (k : Nat)])), some (.val (.int (k : Nat))), none, none, none, none, none, none, none, none, none, none]) := fun ns' => by
    simp only [mDrop, mApp, mVar, Res.bind, List.getElem?_cons_succ, List.getElem?_cons_zero]
    rw [if_pos (by omega)]
    rfl
  unfold bodyJ
  by_cases h0 : 0 < k
  · have c1 : mTst (mTree (m2 fGt (mVar 8) (mC (.int 0)))) (Y s ns [some (.val t), some (.val nv), x4, x5, x6, some (.own js), some (.val (.int (k : Nat))), none, none, none, none, none, none, none, none, none, none]) = .ok true (Y s ns [some (.val t), some (.val nv), x4, x5, x6, some (.own js), some (.val (.int (k : Nat))), none, none, none, none, none, none, none, none, none, none]) := by
      simp [runDef, List.replicate, mRet, mVal, mTree, mCall, mCons, mNil, mVar, mC, mSeq, mIfS, mNx, mNotT, mTst, mAndT, mOrT, mAndV, mOrV, mNotV, Res.bind, RV.tree, give, mAsg, gT, gN, gsCons, gsNil, mChainT, qLink, qLast, yes, asBool, m2, m1, mN, mTup, mSet, keepE, fCmp, h0]
    obtain ⟨b, ns1, hb⟩ := named_ok (s := s) (ns := ns) (l := [some (.val t), some (.val nv), x4, x5, x6, some (.own js), some (.val (.int (k : Nat))), none, none, none, none, none, none, none, none, none, none])
    have c2 := tst_eq (tree_ok hb)
    cases b with
    | true =>
      obtain ⟨r, ns2, hc, p, rfl, hp0, hp1⟩ := callP (take_ok (b := (k : Int)) (by omega)) (ts := [.int (k : Int)]) (i := 1) (ms := mCons (mVar 8) mNil) (e := Y s ns1 [some (.val t), some (.val nv), x4, x5, x6, some (.own js), some (.val (.int (k : Nat))), none, none, none, none, none, none, none, none, none, none]) (ns := ns1) rfl rfl
      obtain ⟨y, hy, hat⟩ := atI_in (ts := js) hp0 (by omega)
      refine ⟨y, ns2, ?_, hj y hy⟩
      simp only [mIfS, mAndT, c1, Res.bind, if_true]
      rw [c2]
      simp only [RV.tree, if_true]
      have hx : mIxV 7 (mTree (mCallP D__law_take 1 (mCons (mVar 8) mNil))) (Y s ns1 [some (.val t), some (.val nv), x4, x5, x6, some (.own js), some (.val (.int (k : Nat))), none, none, none, none, none, none, none, none, none, none]) = .ok y (Y s ns2 [some (.val t), some (.val nv), x4, x5, x6, some (.own js), some (.val (.int (k : Nat))), none, none, none, none, none, none, none, none, none, none]) := by
        simp only [mIxV]
        rw [tree_ok hc]
        simp [Res.bind, RV.tree, peek, hat]
      simp only [mDrop, mApp, hx, Res.bind, List.getElem?_cons_succ, List.getElem?_cons_zero]
      rw [if_pos (by omega)]
      rfl
    | false =>
      refine ⟨.int (k : Nat), ns1, ?_, _, rfl, by omega⟩
      simp only [mIfS, mAndT, c1, Res.bind, if_true]
      rw [c2]
      exact app ns1
  · have c1 : mTst (mTree (m2 fGt (mVar 8) (mC (.int 0)))) (Y s ns [some (.val t), some (.val nv), x4, x5, x6, some (.own js), some (.val (.int (k : Nat))), none, none, none, none, none, none, none, none, none, none]) = .ok false (Y s ns [some (.val t), some (.val nv), x4, x5, x6, some (.own js), some (.val (.int (k : Nat))), none, none, none, none, none, none, none, none, none, none]) := by
      simp [runDef, List.replicate, mRet, mVal, mTree, mCall, mCons, mNil, mVar, mC, mSeq, mIfS, mNx, mNotT, mTst, mAndT, mOrT, mAndV, mOrV, mNotV, Res.bind, RV.tree, give, mAsg, gT, gN, gsCons, gsNil, mChainT, qLink, qLast, yes, asBool, m2, m1, mN, mTup, mSet, keepE, fCmp, h0]
    refine ⟨.int (k : Nat), ns, ?_, _, rfl, by omega⟩
    simp only [mIfS, mAndT, c1, Res.bind, Bool.false_eq_true, if_false]
    exact app ns
end G
end
section
set_option Elab.async false
set_option linter.all false
set_option autoImplicit false
set_option maxRecDepth 100000
set_option maxHeartbeats 2000000
namespace G
open PySem PySem.Spec PyProof.Rows L2 TL
theorem loopJ {s t : T} {nv : T} {x4 x5 x6 : Option RV} : ∀ (f k : Nat) (ns : List Int) (js : List T) (x8 : Option RV), js.length = k → k + f ≤ 8 → (∀ y ∈ js, ∃ i : Int, y = .int i ∧ i.natAbs < 8) → ∃ (js' : List T) (ns' : List Int) (y8 : Option RV), mLoop (gN 8) bodyJ (rngT (k : Int) f) (Y s ns [some (.val t), some (.val nv), x4, x5, x6, some (.own js), x8, none, none, none, none, none, none, none, none, none, none])
    = .ok .nx (Y s ns' [some (.val t), some (.val nv), x4, x5, x6, some (.own js'), y8, none, none, none, none, none, none, none, none, none, none]) ∧ js'.length = k + f ∧ ∀ y ∈ js', ∃ i : Int, y = .int i ∧ i.natAbs < 8
  | 0, k, ns, js, x8, hk, _, hj => ⟨js, ns, x8, rfl, hk, hj⟩
  | f + 1, k, ns, js, x8, hk, h8, hj => by
    obtain ⟨y, ns1, hs, hy⟩ := stepJ (s := s) (t := t) (nv := nv) (ns := ns) (x4 := x4) (x5 := x5) (x6 := x6) hk (by omega) hj
    obtain ⟨js', ns', y8, ih, g1, g2⟩ := loopJ (s := s) (t := t) (nv := nv) (x4 := x4) (x5 := x5) (x6 := x6) f (k + 1) ns1 (js ++ [y]) (some (.val (.int (k : Nat)))) (by rw [List.length_append, hk]; rfl) (by omega) (fun u hu => by
      rcases List.mem_append.mp hu with hu | hu
      · exact hj u hu
      · rw [List.mem_singleton] at hu
        rw [hu]; exact hy)
    refine ⟨js', ns', y8, ?_, by omega, g2⟩
    rw [rng_cons]
    unfold mLoop
    simp only [gN, List.set]
    rw [hs]
    simpa using ih
end G
end
section
set_option Elab.async false
set_option linter.all false
set_option autoImplicit false
set_option maxRecDepth 100000
set_option maxHeartbeats 2000000
set_option exponentiation.threshold 10000
namespace G
open PySem PySem.Spec PyProof.Rows L2 TL
theorem set_self {α : Type} : ∀ {l : List α} {i : Nat} {x : α}, l[i]? = some x → l.set i x = l
  | [], i, x, h => by simp at h
  | y :: l, 0, x, h => by
    simp at h
    rw [h]; rfl
  | y :: l, i + 1, x, h => by
    have h' : l[i]? = some x := by simpa using h
    show y :: l.set i x = y :: l
    rw [set_self h']
/-- a name read: an own list becomes a value -/
theorem var_rv {i : Nat} {e : En} {r : RV} (h : e[i]? = some (some r)) : mVar i e = .ok r.tree (e.set i (some (.val r.tree))) := by
  cases r with
  | val t =>
    rw [show (RV.val t).tree = t from rfl, set_self h]
    simp only [mVar, h]
  | own ts => simp only [mVar, h, RV.tree]
/-- a number taken from the pool at slot 1 -/
theorem takeY {s : T} {ns : List Int} {l : List (Option RV)} {b : Int} (hb : 0 < b) : ∃ (i : Int) (ns' : List Int), mTree (mCallP D__law_take 1 (mCons (mC (.int b)) mNil)) (Y s ns l) = .ok (.int i) (Y s ns' l) ∧ 0 ≤ i ∧ i < b := by
  obtain ⟨r, ns1, hc, i, rfl, h0, h1⟩ := callP (take_ok (b := b) hb) (ts := [.int b]) (i := 1) (ms := mCons (mC (.int b)) mNil) (e := Y s ns l) (ns := ns) rfl rfl
  exact ⟨i, ns1, tree_ok hc, h0, h1⟩
abbrev R17 (t : T) (n : Nat) (x4 x5 x6 x7 x8 x9 x10 x11 x12 x13 x14 x15 x16 x17 x18 : Option RV) : List (Option RV) :=
  [some (.val t), some (.val (.int (n : Nat))), x4, x5, x6, x7, x8, x9, x10, x11, x12, x13, x14, x15, x16, x17, x18]
/-- what a comprehension gives back of a name that it hides -/
def bk (x : Option RV) : Option RV := match some x with
  | some (some (.val t)) => some (.val t)
  | _ => none
theorem comp4 {s t : T} {n : Nat} {ns : List Int} {x4 x5 x6 x7 x8 x9 x10 x11 x12 x13 x14 x15 x16 x17 x18 : Option RV} {tb : Mt} (hn : n ≤ 8) (htb : ∀ (k : Nat) (ns' : List Int), k < n → ∃ (i : Int) (ns'' : List Int), tb (Y s ns' (R17 t n x4 x5 x6 x7 (some (.val (.int (k : Nat)))) x9 x10 x11 x12 x13 x14 x15 x16 x17 x18))
      = .ok (.int i) (Y s ns'' (R17 t n x4 x5 x6 x7 (some (.val (.int (k : Nat)))) x9 x10 x11 x12 x13 x14 x15 x16 x17 x18)) ∧ i.natAbs < 8) :
    ∃ (ys : List T) (ns' : List Int), mComp (mRng (mCons (mVar 3) mNil)) (gN 8) mYes tb [8] (Y s ns (R17 t n x4 x5 x6 x7 x8 x9 x10 x11 x12 x13 x14 x15 x16 x17 x18))
    = .ok (.own ys) (Y s ns' (R17 t n x4 x5 x6 x7 (bk x8) x9 x10 x11 x12 x13 x14 x15 x16 x17 x18)) ∧ (∀ y ∈ ys, ∃ i : Int, y = .int i ∧ i.natAbs < 8) ∧ ys.length ≤ 8 := by
  obtain ⟨ys, e', h1, ⟨ns', rfl⟩, h3, h4⟩ := comp_inv (I := fun e => ∃ ns', e = Y s ns' (R17 t n x4 x5 x6 x7 none x9 x10 x11 x12 x13 x14 x15 x16 x17 x18)) (P := fun y => ∃ i : Int, y = .int i ∧ i.natAbs < 8)
    (mi := mRng (mCons (mVar 3) mNil)) (g := gN 8) (vs := [8]) (tt := mYes) (te := tb)
    (e := Y s ns (R17 t n x4 x5 x6 x7 x8 x9 x10 x11 x12 x13 x14 x15 x16 x17 x18)) (e1 := Y s ns (R17 t n x4 x5 x6 x7 x8 x9 x10 x11 x12 x13 x14 x15 x16 x17 x18)) (ts := tn (List.range n))
    (by
      rw [← rng_tn]
      simp only [mRng, mCons, mNil, mVar, Res.bind, List.getElem?_cons_succ, List.getElem?_cons_zero]
      rw [if_pos (by omega)]
      simp) (by rw [len_tn, List.length_range]; omega) ⟨ns, rfl⟩ fun y hy e ⟨ns1, he⟩ => by
      subst he
      unfold tn at hy
      obtain ⟨k, hk, rfl⟩ := List.mem_map.mp hy
      obtain ⟨i, ns2, hb, hi⟩ := htb k ns1 (List.mem_range.mp hk)
      exact ⟨_, true, _, rfl, rfl, fun _ => ⟨.int i, _, hb, ⟨_, rfl, hi⟩, ⟨ns2, rfl⟩⟩, fun z => by cases z⟩
  refine ⟨ys, ns', h1, h3, ?_⟩
  rw [len_tn, List.length_range] at h4
  omega
def tbH : Mt := mTree (m2 fIx (mTree (mLst (mCons (mC (.int 0)) (mCons (mIxV 18 (mC (.int 2))) (mCons (mTree (m2 fDiv (mIxV 18 (mC (.int 2))) (mC (.int 2)))) mNil))))) (mTree (mCallP D__law_take 1 (mCons (mC (.int 3)) mNil))))
theorem atI3 {a b c i : Int} (h0 : 0 ≤ i) (h1 : i < 3) : ∃ x : Int, atI ([.int a, .int b, .int c] : List T) i = some (.int x) ∧ (x = a ∨ x = b ∨ x = c) := by
  have : i = 0 ∨ i = 1 ∨ i = 2 := by omega
  rcases this with rfl | rfl | rfl
  · exact ⟨_, rfl, by simp⟩
  · exact ⟨_, rfl, by simp⟩
  · exact ⟨_, rfl, by simp⟩
/-- what the halves are taken from, line by line -/
theorem stepH {s l : T} {ns : List Int} {q : List (Option RV)} (hq : q.length = 16) (h : lineP l) : ∃ (i : Int) (ns' : List Int), tbH (Y s ns (q ++ [some (.val l)])) = .ok (.int i) (Y s ns' (q ++ [some (.val l)])) ∧ i.natAbs < 1000000000000000000000000000001 := by
  obtain ⟨a, b, c, rfl, _, _, hc0, hc1⟩ := h
  obtain ⟨i, ns1, ht, h0, h1⟩ := takeY (s := s) (ns := ns) (l := q ++ [some (.val (.tuple [.int a, .int b, .int c]))]) (b := 3) (by decide)
  obtain ⟨x, hx, hx2⟩ := atI3 (a := 0) (b := c) (c := c / 2) h0 h1
  have h18 : (Y s ns (q ++ [some (.val (.tuple [.int a, .int b, .int c]))]))[18]? = some (some (.val (.tuple [.int a, .int b, .int c]))) := by
    show (q ++ [some (.val (.tuple [.int a, .int b, .int c]))])[16]? = _
    rw [List.getElem?_append_right (by omega), hq]
    rfl
  have hix : mIxV 18 (mC (.int 2)) (Y s ns (q ++ [some (.val (.tuple [.int a, .int b, .int c]))])) = .ok (.int c) (Y s ns (q ++ [some (.val (.tuple [.int a, .int b, .int c]))])) := by
    simp only [mIxV, mC, Res.bind, peek, h18, items]
    rfl
  have hdv : mTree (m2 fDiv (mIxV 18 (mC (.int 2))) (mC (.int 2))) (Y s ns (q ++ [some (.val (.tuple [.int a, .int b, .int c]))])) = .ok (.int (c / 2)) (Y s ns (q ++ [some (.val (.tuple [.int a, .int b, .int c]))])) := by
    refine tree_ok (r := .val (.int (c / 2))) ?_
    simp only [m2, hix, Res.bind, mC]
    rfl
  have hl : mTree (mLst (mCons (mC (.int 0)) (mCons (mIxV 18 (mC (.int 2))) (mCons (mTree (m2 fDiv (mIxV 18 (mC (.int 2))) (mC (.int 2)))) mNil)))) (Y s ns (q ++ [some (.val (.tuple [.int a, .int b, .int c]))])) = .ok (.list [.int 0, .int c, .int (c / 2)]) (Y s ns (q ++ [some (.val (.tuple [.int a, .int b, .int c]))])) := by
    refine tree_ok (r := .own [.int 0, .int c, .int (c / 2)]) ?_
    simp only [mLst]
    rw [cons_ok (show mC (.int 0) _ = .ok (.int 0) _ from rfl) (cons_ok hix (cons_ok hdv (show mNil _ = .ok [] _ from rfl)))]
    rfl
  refine ⟨x, ns1, ?_, by omega⟩
  refine tree_ok (r := .val (.int x)) ?_
  simp only [m2, hl, Res.bind]
  rw [ht]
  simp only [fIx, hx, Option.map, give]
theorem comp5 {s : T} {w0 : T} {ls : List T} {ns : List Int} {x3 x4 x5 x6 x7 x8 x9 x10 x11 x12 x13 x14 x15 x16 x17 : Option RV} (hl : ls.length ≤ 14) (h : ∀ l ∈ ls, lineP l) :
    ∃ (ys : List T) (ns' : List Int), mComp (mSeq1 (mIxV 2 (mC (.int 1)))) (gN 18) mYes tbH [18] (Y s ns [some (.val (.tuple [w0, .tuple ls])), x3, x4, x5, x6, x7, x8, x9, x10, x11, x12, x13, x14, x15, x16, x17, none])
    = .ok (.own ys) (Y s ns' [some (.val (.tuple [w0, .tuple ls])), x3, x4, x5, x6, x7, x8, x9, x10, x11, x12, x13, x14, x15, x16, x17, none]) ∧ (∀ y ∈ ys, ∃ i : Int, y = .int i ∧ i.natAbs < 1000000000000000000000000000001) ∧ ys.length ≤ 14 := by
  obtain ⟨ys, e', h1, ⟨ns', rfl⟩, h3, h4⟩ := comp_inv (I := fun e => ∃ ns', e = Y s ns' [some (.val (.tuple [w0, .tuple ls])), x3, x4, x5, x6, x7, x8, x9, x10, x11, x12, x13, x14, x15, x16, x17, none]) (P := fun y => ∃ i : Int, y = .int i ∧ i.natAbs < 1000000000000000000000000000001)
    (mi := mSeq1 (mIxV 2 (mC (.int 1)))) (g := gN 18) (vs := [18]) (tt := mYes) (te := tbH)
    (e := Y s ns [some (.val (.tuple [w0, .tuple ls])), x3, x4, x5, x6, x7, x8, x9, x10, x11, x12, x13, x14, x15, x16, x17, none]) (e1 := Y s ns [some (.val (.tuple [w0, .tuple ls])), x3, x4, x5, x6, x7, x8, x9, x10, x11, x12, x13, x14, x15, x16, x17, none]) (ts := ls)
    rfl (by omega) ⟨ns, rfl⟩ fun y hy e ⟨ns1, he⟩ => by
      subst he
      obtain ⟨i, ns2, hb, hi⟩ := stepH (s := s) (l := y) (ns := ns1) (q := [some (.val (.tuple [w0, .tuple ls])), x3, x4, x5, x6, x7, x8, x9, x10, x11, x12, x13, x14, x15, x16, x17]) rfl (h y hy)
      exact ⟨_, true, _, rfl, rfl, fun _ => ⟨.int i, _, hb, ⟨_, rfl, hi⟩, ⟨ns2, rfl⟩⟩, fun z => by cases z⟩
  exact ⟨ys, ns', h1, h3, by omega⟩
end G
end
section
set_option Elab.async false
set_option linter.all false
set_option autoImplicit false
set_option maxRecDepth 100000
set_option maxHeartbeats 2000000
set_option exponentiation.threshold 10000
namespace G
open PySem PySem.Spec PyProof.Rows L2 TL
theorem small_200 {n : Int} (h : n.natAbs < 2 ^ 200) : small n = true := by
  unfold small
  rw [decide_eq_true_iff]
  by_cases hz : n.natAbs = 0
  · rw [hz]; decide
  · have := (Nat.log2_lt hz).mpr h
    omega
theorem p200 : (10000000000000000000000000000000000000 : Nat) < 2 ^ 200 := by decide
theorem mul_ok {m k : Mt} {i j : Int} {e e1 e2 : En} (h : m e = .ok (.int i) e1) (h2 : k e1 = .ok (.int j) e2) (hi : i.natAbs < 2 ^ 200) (hj : j.natAbs < 2 ^ 200) : mTree (m2 fMul m k) e = .ok (.int (i * j)) e2 := by
  refine tree_ok (r := .val (.int (i * j))) ?_
  simp only [m2, h, h2, Res.bind, fMul, small_200 hi, small_200 hj]
  rfl
theorem sub_ok {m k : Mt} {i j : Int} {e e1 e2 : En} (h : m e = .ok (.int i) e1) (h2 : k e1 = .ok (.int j) e2) : mTree (m2 fSub m k) e = .ok (.int (i - j)) e2 := by
  refine tree_ok (r := .val (.int (i - j))) ?_
  simp only [m2, h, h2, Res.bind]
  rfl
theorem adds_ok {m k : Mt} {i j : Int} {e e1 e2 : En} (h : m e = .ok (.int i) e1) (h2 : k e1 = .ok (.int j) e2) : mTree (m2 fAdd m k) e = .ok (.int (i + j)) e2 := by
  refine tree_ok (r := .val (.int (i + j))) ?_
  simp only [m2, h, h2, Res.bind]
  rfl
def Mhead (rest : Ms) : Ms := (mSeq (mSet 1 (mCall D__law_pool (mCons (mVar 0) mNil)))
  (mSeq (mSet 2 (mCallP D__law_net 1 mNil))
  (mSeq (mSet 3 (mVal (mIxV 2 (mC (.int 0)))))
  (mSeq (mSet 4 (m2 fEq (mTree (mCallP D__law_take 1 (mCons (mC (.int 2)) mNil))) (mC (.int 1))))
  (mSeq (mSet 5 (mCallP D__law_bent 1 (mCons (mTree (mComp (mRng (mCons (mVar 3) mNil)) (gN 8) (mTst (mTree (m2 fEq (mTree (mCallP D__law_take 1 (mCons (mC (.int 2)) mNil))) (mC (.int 1))))) (mVar 8) [8])) (mCons (mVar 3) mNil))))
  (mSeq (mSet 6 (mCallP D__law_bent 1 (mCons (mTree (mComp (mRng (mCons (mVar 3) mNil)) (gN 8) mYes (mTree (mCallP D__law_take 1 (mCons (mC (.int 5)) mNil))) [8])) (mCons (mVar 3) mNil))))
  (mSeq (mSet 7 (mLst mNil))
  (mSeq (mFor (mRng (mCons (mVar 3) mNil)) (gN 8) bodyJ)
  (mSeq (mSet 9 (mCallP D__law_bent 1 (mCons (mTree (mComp (mSeq1 (mIxV 2 (mC (.int 1)))) (gN 18) mYes tbH [18])) (mCons (mC (.int 1)) mNil))))
  (mSeq (mSet 10 (m2 fAdd (mC (.int 1)) (mTree (mCallP D__law_take 1 (mCons (mC (.int 3)) mNil)))))
  (mSeq (mSet 11 (mVal (mTup (mCons (mTree (m2 fMul (mTree (m2 fSub (mTree (mCallP D__law_take 1 (mCons (mC (.int 999)) mNil))) (mC (.int 400)))) (mVar 10))) (mCons (mTree (m2 fMul (mTree (m2 fAdd (mC (.int 1)) (mTree (mCallP D__law_take 1 (mCons (mC (.int 60)) mNil))))) (mVar 10))) mNil)))))
  (mSeq (mSet 12 (mCallP D__law_great 1 mNil)) rest))))))))))))
theorem head_ok {rest : Ms} (ns : List Int) (hn : ns.length ≤ 63) : ∃ (n : Nat) (ls : List T) (xs : List Int) (b : Bool) (r5 r6 r9 : RV) (js : List T) (y8 : Option RV) (tm p q near : Int),
    Mhead rest [some (.val (scrT ns)), none, none, none, none, none, none, none, none, none, none, none, none, none, none, none, none, none, none]
      = rest (Y (scrT ns) xs (R17 (.tuple [.int (n : Nat), .tuple ls]) n (some (.val (.bool b))) (some r5) (some r6) (some (.own js)) y8 (some r9) (some (.val (.int tm))) (some (.val (.tuple [.int p, .int q]))) (some (.val (.int near))) none none none none none none))
    ∧ 1 ≤ n ∧ n ≤ 8 ∧ ls.length ≤ 14 ∧ (∀ l ∈ ls, lineP l) ∧ good r5.tree = true ∧ good r6.tree = true ∧ good r9.tree = true ∧ (∀ y ∈ js, ∃ i : Int, y = .int i ∧ i.natAbs < 8) ∧ js.length ≤ 8
    ∧ p.natAbs < 100000 ∧ q.natAbs < 100000 ∧ 0 ≤ near ∧ near < 1000000000000000000000000000000 := by
  have p2 := p200
  obtain ⟨xs0, e0, hp⟩ := pool_ok ns hn
  have c1 : mCall D__law_pool (mCons (mVar 0) mNil) [some (.val (scrT ns)), none, none, none, none, none, none, none, none, none, none, none, none, none, none, none, none, none, none]
      = .ok (.own (pn xs0)) [some (.val (scrT ns)), none, none, none, none, none, none, none, none, none, none, none, none, none, none, none, none, none, none] := by
    simp only [mCall, mCons, mNil, mVar, Res.bind, List.getElem?_cons_zero, List.map, hp]
  obtain ⟨r, xs1, c2, n, ls, rfl, h1, h2, h3, h4⟩ := callP net_ok (ts := []) (i := 1) (ms := mNil) (e := Y (scrT ns) xs0 [none, none, none, none, none, none, none, none, none, none, none, none, none, none, none, none, none]) (ns := xs0) rfl rfl
  have c3 : mVal (mIxV 2 (mC (.int 0))) (Y (scrT ns) xs1 [some (.val (.tuple [.int (n : Nat), .tuple ls])), none, none, none, none, none, none, none, none, none, none, none, none, none, none, none, none])
      = .ok (.val (.int (n : Nat))) (Y (scrT ns) xs1 [some (.val (.tuple [.int (n : Nat), .tuple ls])), none, none, none, none, none, none, none, none, none, none, none, none, none, none, none, none]) := rfl
  obtain ⟨b, xs2, c4⟩ := named_ok (s := scrT ns) (ns := xs1) (l := [some (.val (.tuple [.int (n : Nat), .tuple ls])), some (.val (.int (n : Nat))), none, none, none, none, none, none, none, none, none, none, none, none, none, none, none])
  obtain ⟨ys5, xs3, d5, g5, k5⟩ := comp1 (s := scrT ns) (t := .tuple [.int (n : Nat), .tuple ls]) (n := n) (ns := xs2) (x4 := some (.val (.bool b))) (l := []) h2
  obtain ⟨r5, xs4, c5, q5⟩ := callPV (bent_ok (row := ys5) (n := (n : Int)) (fun x hx => by
      obtain ⟨i, rfl, hi⟩ := g5 x hx
      exact ⟨i, rfl, by omega⟩) (by omega) (by omega)) (ts := [.list ys5, .int (n : Nat)]) (i := 1) (ns0 := xs2) (ns := xs3)
      (ms := mCons (mTree (mComp (mRng (mCons (mVar 3) mNil)) (gN 8) (mTst (mTree (m2 fEq (mTree (mCallP D__law_take 1 (mCons (mC (.int 2)) mNil))) (mC (.int 1))))) (mVar 8) [8])) (mCons (mVar 3) mNil))
      (e := Y (scrT ns) xs2 [some (.val (.tuple [.int (n : Nat), .tuple ls])), some (.val (.int (n : Nat))), some (.val (.bool b)), none, none, none, none, none, none, none, none, none, none, none, none, none, none])
      (e1 := Y (scrT ns) xs3 [some (.val (.tuple [.int (n : Nat), .tuple ls])), some (.val (.int (n : Nat))), some (.val (.bool b)), none, none, none, none, none, none, none, none, none, none, none, none, none, none])
      rfl rfl (cons_ok (tree_ok d5) (cons_ok rfl rfl))
  obtain ⟨ys6, xs5, d6, g6, k6⟩ := comp4 (s := scrT ns) (t := .tuple [.int (n : Nat), .tuple ls]) (n := n) (ns := xs4) (x4 := some (.val (.bool b))) (x5 := some r5) (x6 := none) (x7 := none) (x8 := none) (x9 := none) (x10 := none) (x11 := none) (x12 := none) (x13 := none) (x14 := none) (x15 := none) (x16 := none) (x17 := none) (x18 := none)
      (tb := mTree (mCallP D__law_take 1 (mCons (mC (.int 5)) mNil))) h2 fun k ns' _ => by
        obtain ⟨i, ns'', ht, h0, hb⟩ := takeY (s := scrT ns) (ns := ns') (l := R17 (.tuple [.int (n : Nat), .tuple ls]) n (some (.val (.bool b))) (some r5) none none (some (.val (.int (k : Nat)))) none none none none none none none none none none) (b := 5) (by decide)
        exact ⟨i, ns'', ht, by omega⟩
  obtain ⟨r6, xs6, c6, q6⟩ := callPV (bent_ok (row := ys6) (n := (n : Int)) (fun x hx => by
      obtain ⟨i, rfl, hi⟩ := g6 x hx
      exact ⟨i, rfl, by omega⟩) (by omega) (by omega)) (ts := [.list ys6, .int (n : Nat)]) (i := 1) (ns0 := xs4) (ns := xs5)
      (ms := mCons (mTree (mComp (mRng (mCons (mVar 3) mNil)) (gN 8) mYes (mTree (mCallP D__law_take 1 (mCons (mC (.int 5)) mNil))) [8])) (mCons (mVar 3) mNil))
      (e := Y (scrT ns) xs4 (R17 (.tuple [.int (n : Nat), .tuple ls]) n (some (.val (.bool b))) (some r5) none none none none none none none none none none none none none))
      (e1 := Y (scrT ns) xs5 (R17 (.tuple [.int (n : Nat), .tuple ls]) n (some (.val (.bool b))) (some r5) none none none none none none none none none none none none none))
      rfl rfl (cons_ok (tree_ok d6) (cons_ok rfl rfl))
  obtain ⟨js, xs7, y8, c8, g8, k8⟩ := loopJ (s := scrT ns) (t := .tuple [.int (n : Nat), .tuple ls]) (nv := .int (n : Nat)) (x4 := some (.val (.bool b))) (x5 := some r5) (x6 := some r6) n 0 xs6 [] none rfl (by omega) (by simp)
  have f8 : mFor (mRng (mCons (mVar 3) mNil)) (gN 8) bodyJ (Y (scrT ns) xs6 (R17 (.tuple [.int (n : Nat), .tuple ls]) n (some (.val (.bool b))) (some r5) (some r6) (some (.own [])) none none none none none none none none none none none))
      = .ok .nx (Y (scrT ns) xs7 (R17 (.tuple [.int (n : Nat), .tuple ls]) n (some (.val (.bool b))) (some r5) (some r6) (some (.own js)) y8 none none none none none none none none none none)) := by
    refine Eq.trans ?_ c8
    simp only [mFor, mRng, mCons, mNil, mVar, Res.bind, List.getElem?_cons_succ, List.getElem?_cons_zero]
    rw [if_pos (by omega)]
    rfl
  obtain ⟨ys9, xs8, d9, g9, k9⟩ := comp5 (s := scrT ns) (w0 := .int (n : Nat)) (ls := ls) (ns := xs7) (x3 := some (.val (.int (n : Nat)))) (x4 := some (.val (.bool b))) (x5 := some r5) (x6 := some r6) (x7 := some (.own js)) (x8 := y8) (x9 := none) (x10 := none) (x11 := none) (x12 := none) (x13 := none) (x14 := none) (x15 := none) (x16 := none) (x17 := none) h3 h4
  obtain ⟨r9, xs9, c9, q9⟩ := callPV (bent_ok (row := ys9) (n := 1) (fun x hx => by
      obtain ⟨i, rfl, hi⟩ := g9 x hx
      exact ⟨i, rfl, by omega⟩) (by omega) (by decide)) (ts := [.list ys9, .int 1]) (i := 1) (ns0 := xs7) (ns := xs8)
      (ms := mCons (mTree (mComp (mSeq1 (mIxV 2 (mC (.int 1)))) (gN 18) mYes tbH [18])) (mCons (mC (.int 1)) mNil))
      (e := Y (scrT ns) xs7 (R17 (.tuple [.int (n : Nat), .tuple ls]) n (some (.val (.bool b))) (some r5) (some r6) (some (.own js)) y8 none none none none none none none none none none))
      (e1 := Y (scrT ns) xs8 (R17 (.tuple [.int (n : Nat), .tuple ls]) n (some (.val (.bool b))) (some r5) (some r6) (some (.own js)) y8 none none none none none none none none none none))
      rfl rfl (cons_ok (tree_ok d9) (cons_ok rfl rfl))
  obtain ⟨i10, xs10, t10, a10, b10⟩ := takeY (s := scrT ns) (ns := xs9) (l := R17 (.tuple [.int (n : Nat), .tuple ls]) n (some (.val (.bool b))) (some r5) (some r6) (some (.own js)) y8 (some r9) none none none none none none none none none) (b := 3) (by decide)
  have c10 := add_ok (j := 1) t10
  obtain ⟨i11, xs11, t11, a11, b11⟩ := takeY (s := scrT ns) (ns := xs10) (l := R17 (.tuple [.int (n : Nat), .tuple ls]) n (some (.val (.bool b))) (some r5) (some r6) (some (.own js)) y8 (some r9) (some (.val (.int (1 + i10)))) none none none none none none none none) (b := 999) (by decide)
  obtain ⟨j11, xs12, u11, e11, f11⟩ := takeY (s := scrT ns) (ns := xs11) (l := R17 (.tuple [.int (n : Nat), .tuple ls]) n (some (.val (.bool b))) (some r5) (some r6) (some (.own js)) y8 (some r9) (some (.val (.int (1 + i10)))) none none none none none none none none) (b := 60) (by decide)
  have v11 := mul_ok (k := mVar 10) (j := 1 + i10) (sub_ok (k := mC (.int 400)) (j := 400) t11 rfl) rfl (by omega) (by omega)
  have w11 := mul_ok (k := mVar 10) (j := 1 + i10) (tree_ok (add_ok (j := 1) u11)) rfl (by omega) (by omega)
  have c11 := val_ok (tup_ok (cons_ok v11 (cons_ok w11 (show mNil _ = .ok [] _ from rfl))) (by simp))
  obtain ⟨r, xs13, c12, near, rfl, a12, b12⟩ := callP great_ok (ts := []) (i := 1) (ms := mNil) (e := Y (scrT ns) xs12 (R17 (.tuple [.int (n : Nat), .tuple ls]) n (some (.val (.bool b))) (some r5) (some r6) (some (.own js)) y8 (some r9) (some (.val (.int (1 + i10)))) (some (.val (.tuple [.int ((i11 - 400) * (1 + i10)), .int ((1 + j11) * (1 + i10))]))) none none none none none none none)) (ns := xs12) rfl rfl
  refine ⟨n, ls, xs13, b, r5, r6, r9, js, y8, 1 + i10, (i11 - 400) * (1 + i10), (1 + j11) * (1 + i10), near, ?_, h1, h2, h3, h4, q5, q6, q9, k8, by omega, ?_, ?_, a12, b12⟩
  · unfold Mhead
    rw [seq_set c1]
    simp only [List.set]
    rw [seq_set c2]
    simp only [List.set]
    rw [seq_set c3]
    simp only [List.set]
    rw [seq_set c4]
    simp only [List.set]
    rw [seq_set c5]
    simp only [List.set]
    rw [seq_set c6]
    simp only [List.set]
    rw [seq_set (m := mLst mNil) (r := .own []) (i := 7) rfl]
    simp only [List.set]
    rw [seq_nx f8]
    rw [seq_set c9]
    simp only [List.set]
    rw [seq_set c10]
    simp only [List.set]
    rw [seq_set c11]
    simp only [List.set]
    rw [seq_set c12]
    simp only [List.set]
  · have : i10 = 0 ∨ i10 = 1 ∨ i10 = 2 := by omega
    rcases this with rfl | rfl | rfl <;> omega
  · have : i10 = 0 ∨ i10 = 1 ∨ i10 = 2 := by omega
    rcases this with rfl | rfl | rfl <;> omega
end G
end
section
set_option Elab.async false
set_option linter.all false
set_option autoImplicit false
set_option maxRecDepth 100000
set_option maxHeartbeats 2000000
set_option exponentiation.threshold 10000
namespace G
open PySem PySem.Spec PyProof.Rows L2 TL
def Mfin : Ms := (mSeq (mFor (mSeq1 (mVar 13)) (gN 16) body1)
  (mSeq (mFor (mSeq1 (mTree (mSl (mVar 13) none (some (mC (.int 12)))))) (gN 16) body2)
  (mRet (mVal (mC (.bool true))))))
theorem fin2 {x0 x1 : Option RV} {w0 : T} {ls : List T} {m : Nat} {b : Bool} {vs : List T} {x5 x6 x7 x8 x9 x10 x11 x12 x14 x15 x16 x17 x18 : Option RV} (hm : m ≤ 100000) (hl : ∀ l ∈ ls, okLine l) (hv : ∀ v ∈ vs, good v = true) :
    ∃ e, Mfin (Z x0 x1 w0 ls m b x5 x6 x7 x8 x9 x10 x11 x12 (some (.own vs)) x14 x15 x16 x17 x18) = .ok (.rt (.val (.bool true))) (x0 :: e) := by
  obtain ⟨y16, y17, h1⟩ := loop1 (x0 := x0) (x1 := x1) (w0 := w0) (b := b) (x5 := x5) (x6 := x6) (x7 := x7) (x8 := x8) (x9 := x9) (x10 := x10) (x11 := x11) (x12 := x12) (x13 := some (.val (.list vs))) (x14 := x14) (x15 := x15) (x18 := x18) hm hl vs x16 x17 hv
  obtain ⟨z16, h2⟩ := loop2 (x0 := x0) (x1 := x1) (w0 := w0) (b := b) (x5 := x5) (x6 := x6) (x7 := x7) (x8 := x8) (x9 := x9) (x10 := x10) (x11 := x11) (x12 := x12) (x13 := some (.val (.list vs))) (x14 := x14) (x15 := x15) (x17 := y17) (x18 := x18) hm hl (cutT vs none (some 12)) y16 fun v h => hv v (cut_sub.1 v h)
  have f1 : mFor (mSeq1 (mVar 13)) (gN 16) body1 (Z x0 x1 w0 ls m b x5 x6 x7 x8 x9 x10 x11 x12 (some (.own vs)) x14 x15 x16 x17 x18) = .ok .nx (Z x0 x1 w0 ls m b x5 x6 x7 x8 x9 x10 x11 x12 (some (.val (.list vs))) x14 x15 y16 y17 x18) := by
    rw [← h1]
    rfl
  have f2 : mFor (mSeq1 (mTree (mSl (mVar 13) none (some (mC (.int 12)))))) (gN 16) body2 (Z x0 x1 w0 ls m b x5 x6 x7 x8 x9 x10 x11 x12 (some (.val (.list vs))) x14 x15 y16 y17 x18) = .ok .nx (Z x0 x1 w0 ls m b x5 x6 x7 x8 x9 x10 x11 x12 (some (.val (.list vs))) x14 x15 z16 y17 x18) := by
    rw [← h2]
    rfl
  refine ⟨[x1, some (.val (.tuple [w0, .tuple ls])), some (.val (.int (m : Nat))), some (.val (.bool b)), x5, x6, x7, x8, x9, x10, x11, x12, some (.val (.list vs)), x14, x15, z16, y17, x18], ?_⟩
  unfold Mfin
  rw [seq_nx f1]
  rw [seq_nx f2]
  rfl
def A7 : Ms := (mSeq (mSet 13 (m2 fAdd (mVar 13) (mTree (mCall00 D__law_written))))
  (mSeq (mSet 3 (m2 fAdd (mC (.int 2)) (mTree (mCallP D__law_take 1 (mCons (mC (.int 4)) mNil)))))
  (mSeq (mSet 2 (mVal (mTup (mCons (mVar 3) (mCons (mTup (mCons (mTup (mCons (mC (.int 0)) (mCons (mC (.int 1)) (mCons (mC (.int 1)) mNil)))) (mCons (mTup (mCons (mC (.int 0)) (mCons (mC (.int 1)) (mCons (mC (.int 2)) mNil)))) (mCons (mTup (mCons (mC (.int 0)) (mCons (mC (.int 1)) (mCons (mC (.int 2)) mNil)))) mNil)))) mNil)))))
  (mIfS (mOrT (mTst (mTree (m2 fIsN (mTree (mCall D_is_joining (mCons (mC (.int 0)) (mCons (mTup mNil) mNil)))) (mC (.bool true))))) (mOrT (mTst (mTree (m2 fIsN (mTree (mCall D_is_joining (mCons (mC (.int 0)) (mCons (mTup (mCons (mC (.int 0)) mNil)) mNil)))) (mC (.bool false))))) (mTst (mTree (m2 fIsN (mTree (mCall D_is_split (mCons (mTup (mCons (mC (.int 2)) (mCons (mTup mNil) mNil))) (mCons (mTup mNil) mNil)))) (mC (.bool true)))))))
  (mRet (mVal (mC (.bool false))))
  mNx))))
def L3 : List T := [.tuple [.int 0, .int 1, .int 1], .tuple [.int 0, .int 1, .int 2], .tuple [.int 0, .int 1, .int 2]]
theorem L3_ok : ∀ l ∈ L3, okLine l := by
  intro l hl
  have : l = .tuple [.int 0, .int 1, .int 1] ∨ l = .tuple [.int 0, .int 1, .int 2] := by
    simp [L3] at hl
    exact hl
  rcases this with rfl | rfl <;> exact ⟨_, _, _, rfl⟩
theorem isn_ok {m : Mt} {e : En} {b c : Bool} (h : m e = .ok (.bool b) e) (hb : b = c) : mTst (mTree (m2 fIsN m (mC (.bool c)))) e = .ok false e := by
  subst hb
  refine tst_eq (tree_ok (r := .val (.bool false)) ?_)
  simp only [m2, h, Res.bind, mC]
  cases b <;> rfl
theorem nd1_n0 : nd1 (.tuple []) := ⟨rfl, fun ts h => by cases h; simp⟩
theorem nd1_n1 : nd1 (.tuple [.int 0]) := ⟨rfl, fun ts h => by cases h; simp [nd]⟩
theorem cond7 (e : En) : mOrT (mTst (mTree (m2 fIsN (mTree (mCall D_is_joining (mCons (mC (.int 0)) (mCons (mTup mNil) mNil)))) (mC (.bool true))))) (mOrT (mTst (mTree (m2 fIsN (mTree (mCall D_is_joining (mCons (mC (.int 0)) (mCons (mTup (mCons (mC (.int 0)) mNil)) mNil)))) (mC (.bool false))))) (mTst (mTree (m2 fIsN (mTree (mCall D_is_split (mCons (mTup (mCons (mC (.int 2)) (mCons (mTup mNil) mNil))) (mCons (mTup mNil) mNil)))) (mC (.bool true)))))) e = .ok false e := by
  have a1 := isn_ok (call2 (m := mC (.int 0)) (n := mTup mNil) (e := e) rfl rfl (is_joining_ok (n := 0) nd1_n0)) (c := true) rfl
  have a2 := isn_ok (call2 (m := mC (.int 0)) (n := mTup (mCons (mC (.int 0)) mNil)) (e := e) rfl rfl (is_joining_ok (n := 0) nd1_n1)) (c := false) rfl
  have a3 := isn_ok (call2 (m := mTup (mCons (mC (.int 2)) (mCons (mTup mNil) mNil))) (n := mTup mNil) (e := e) rfl rfl (is_split_ok (w0 := .int 2) (ls := []) nd1_n0 (fun l h => by cases h))) (c := true) rfl
  simp only [mOrT, a1, a2, a3, Res.bind, Bool.false_eq_true, if_false]
theorem seven {s t : T} {n : Nat} {ns : List Int} {b : Bool} {vs : List T} {x5 x6 x7 x8 x9 x10 x11 x12 x14 x15 x16 x17 x18 : Option RV} (hl : vs.length ≤ 100) :
    ∃ (m : Nat) (L : List T) (ns' : List Int), A7 (Y s ns (R17 t n (some (.val (.bool b))) x5 x6 x7 x8 x9 x10 x11 x12 (some (.own vs)) x14 x15 x16 x17 x18))
      = .ok .nx (Y s ns' (R17 (.tuple [.int (m : Nat), .tuple L3]) m (some (.val (.bool b))) x5 x6 x7 x8 x9 x10 x11 x12 (some (.own (vs ++ L))) x14 x15 x16 x17 x18)) ∧ m ≤ 100 ∧ (∀ v ∈ L, good v = true) := by
  obtain ⟨L, eL, hL, g1, g2⟩ := written_ok
  have cw : mTree (mCall00 D__law_written) (Y s ns (R17 t n (some (.val (.bool b))) x5 x6 x7 x8 x9 x10 x11 x12 (some (.val (.list vs))) x14 x15 x16 x17 x18)) = .ok (.list L) (Y s ns (R17 t n (some (.val (.bool b))) x5 x6 x7 x8 x9 x10 x11 x12 (some (.val (.list vs))) x14 x15 x16 x17 x18)) := by
    refine tree_ok (r := .own L) ?_
    simp only [mCall00, mCall, mNil, Res.bind, List.map, hL]
  have c1 : m2 fAdd (mVar 13) (mTree (mCall00 D__law_written)) (Y s ns (R17 t n (some (.val (.bool b))) x5 x6 x7 x8 x9 x10 x11 x12 (some (.own vs)) x14 x15 x16 x17 x18)) = .ok (.own (vs ++ L)) (Y s ns (R17 t n (some (.val (.bool b))) x5 x6 x7 x8 x9 x10 x11 x12 (some (.val (.list vs))) x14 x15 x16 x17 x18)) := by
    have hv : mVar 13 (Y s ns (R17 t n (some (.val (.bool b))) x5 x6 x7 x8 x9 x10 x11 x12 (some (.own vs)) x14 x15 x16 x17 x18)) = .ok (.list vs) (Y s ns (R17 t n (some (.val (.bool b))) x5 x6 x7 x8 x9 x10 x11 x12 (some (.val (.list vs))) x14 x15 x16 x17 x18)) := rfl
    simp only [m2, hv, cw, Res.bind, fAdd]
    rw [if_pos (by omega)]
    rfl
  obtain ⟨i, ns1, t2, h0, h1⟩ := takeY (s := s) (ns := ns) (l := R17 t n (some (.val (.bool b))) x5 x6 x7 x8 x9 x10 x11 x12 (some (.own (vs ++ L))) x14 x15 x16 x17 x18) (b := 4) (by decide)
  have c2 := add_ok (j := 2) t2
  have e2 : (2 + i : Int) = ((2 + i).toNat : Nat) := by omega
  rw [e2] at c2
  refine ⟨(2 + i).toNat, L, ns1, ?_, by omega, g1⟩
  unfold A7
  rw [seq_set c1]
  simp only [List.set]
  rw [seq_set c2]
  simp only [List.set]
  have c3 : mVal (mTup (mCons (mVar 3) (mCons (mTup (mCons (mTup (mCons (mC (.int 0)) (mCons (mC (.int 1)) (mCons (mC (.int 1)) mNil)))) (mCons (mTup (mCons (mC (.int 0)) (mCons (mC (.int 1)) (mCons (mC (.int 2)) mNil)))) (mCons (mTup (mCons (mC (.int 0)) (mCons (mC (.int 1)) (mCons (mC (.int 2)) mNil)))) mNil)))) mNil))) (Y s ns1 (R17 t (2 + i).toNat (some (.val (.bool b))) x5 x6 x7 x8 x9 x10 x11 x12 (some (.own (vs ++ L))) x14 x15 x16 x17 x18))
      = .ok (.val (.tuple [.int ((2 + i).toNat : Nat), .tuple L3])) (Y s ns1 (R17 t (2 + i).toNat (some (.val (.bool b))) x5 x6 x7 x8 x9 x10 x11 x12 (some (.own (vs ++ L))) x14 x15 x16 x17 x18)) := rfl
  rw [seq_set c3]
  simp only [List.set]
  simp only [mIfS, cond7, Res.bind, Bool.false_eq_true, if_false]
  rfl
theorem six {s t : T} {n : Nat} {ns : List Int} {b : Bool} {vs : List T} {x5 x6 x7 x8 x9 x10 x11 x12 x14 x15 x16 x17 x18 : Option RV} (hl : vs.length ≤ 100) :
    ∃ (v : T) (ns' : List Int), mDrop (mApp 13 (mTree (mCallP D__law_wide 1 mNil))) (Y s ns (R17 t n (some (.val (.bool b))) x5 x6 x7 x8 x9 x10 x11 x12 (some (.own vs)) x14 x15 x16 x17 x18))
      = .ok .nx (Y s ns' (R17 t n (some (.val (.bool b))) x5 x6 x7 x8 x9 x10 x11 x12 (some (.own (vs ++ [v]))) x14 x15 x16 x17 x18)) ∧ good v = true := by
  obtain ⟨v, ns1, hc, g⟩ := callP wide_ok (ts := []) (i := 1) (ms := mNil) (e := Y s ns (R17 t n (some (.val (.bool b))) x5 x6 x7 x8 x9 x10 x11 x12 (some (.own vs)) x14 x15 x16 x17 x18)) (ns := ns) rfl rfl
  refine ⟨v, ns1, ?_, g⟩
  simp only [mDrop, mApp, tree_ok hc, Res.bind, List.getElem?_cons_succ, List.getElem?_cons_zero, List.set]
  rw [if_pos (by omega)]
  rfl
def Mscene : Ms := (mSeq (mIfS (mTst (mTree (m2 fEq (mVar 15) (mC (.int 7))))) A7 mNx)
  (mSeq (mIfS (mTst (mTree (m2 fEq (mVar 15) (mC (.int 6)))))
  (mDrop (mApp 13 (mTree (mCallP D__law_wide 1 mNil))))
  mNx)
  Mfin))
theorem scene_ok {s w0 : T} {ls : List T} {n : Nat} {ns : List Int} {b : Bool} {sc : Int} {vs : List T} {x5 x6 x7 x8 x9 x10 x11 x12 x14 x16 x17 x18 : Option RV} (hn : n ≤ 100) (hl : ∀ l ∈ ls, okLine l) (hv : ∀ v ∈ vs, good v = true) (hvl : vs.length ≤ 100) :
    ∃ e, Mscene (Y s ns (R17 (.tuple [w0, .tuple ls]) n (some (.val (.bool b))) x5 x6 x7 x8 x9 x10 x11 x12 (some (.own vs)) x14 (some (.val (.int sc))) x16 x17 x18)) = .ok (.rt (.val (.bool true))) (some (.val s) :: e) := by
  unfold Mscene
  by_cases h7 : sc = 7
  · subst h7
    obtain ⟨m, L, ns1, c7, hm, gL⟩ := seven (s := s) (t := .tuple [w0, .tuple ls]) (n := n) (ns := ns) (b := b) (x5 := x5) (x6 := x6) (x7 := x7) (x8 := x8) (x9 := x9) (x10 := x10) (x11 := x11) (x12 := x12) (x14 := x14) (x15 := some (.val (.int 7))) (x16 := x16) (x17 := x17) (x18 := x18) hvl
    rw [seq_if_nx (c := mTst (mTree (m2 fEq (mVar 15) (mC (.int 7))))) (e1 := Y s ns (R17 (.tuple [w0, .tuple ls]) n (some (.val (.bool b))) x5 x6 x7 x8 x9 x10 x11 x12 (some (.own vs)) x14 (some (.val (.int 7))) x16 x17 x18)) rfl c7]
    rw [seq_if_f (c := mTst (mTree (m2 fEq (mVar 15) (mC (.int 6))))) (e1 := Y s ns1 (R17 (.tuple [.int (m : Nat), .tuple L3]) m (some (.val (.bool b))) x5 x6 x7 x8 x9 x10 x11 x12 (some (.own (vs ++ L))) x14 (some (.val (.int 7))) x16 x17 x18)) rfl]
    exact fin2 (by omega) L3_ok fun v h => by
      rcases List.mem_append.mp h with h | h
      · exact hv v h
      · exact gL v h
  · have c7 : mTst (mTree (m2 fEq (mVar 15) (mC (.int 7)))) (Y s ns (R17 (.tuple [w0, .tuple ls]) n (some (.val (.bool b))) x5 x6 x7 x8 x9 x10 x11 x12 (some (.own vs)) x14 (some (.val (.int sc))) x16 x17 x18)) = .ok false (Y s ns (R17 (.tuple [w0, .tuple ls]) n (some (.val (.bool b))) x5 x6 x7 x8 x9 x10 x11 x12 (some (.own vs)) x14 (some (.val (.int sc))) x16 x17 x18)) := by
      simp [runDef, List.replicate, mRet, mVal, mTree, mCall, mCons, mNil, mVar, mC, mSeq, mIfS, mNx, mNotT, mTst, mAndT, mOrT, mAndV, mOrV, mNotV, Res.bind, RV.tree, give, mAsg, gT, gN, gsCons, gsNil, mChainT, qLink, qLast, yes, asBool, m2, m1, mN, mTup, mSet, keepE, fEq, TL.same, h7]
    rw [seq_if_f c7]
    by_cases h6 : sc = 6
    · subst h6
      obtain ⟨v, ns1, c6, gv⟩ := six (s := s) (t := .tuple [w0, .tuple ls]) (n := n) (ns := ns) (b := b) (x5 := x5) (x6 := x6) (x7 := x7) (x8 := x8) (x9 := x9) (x10 := x10) (x11 := x11) (x12 := x12) (x14 := x14) (x15 := some (.val (.int 6))) (x16 := x16) (x17 := x17) (x18 := x18) hvl
      rw [seq_if_nx (c := mTst (mTree (m2 fEq (mVar 15) (mC (.int 6))))) (e1 := Y s ns (R17 (.tuple [w0, .tuple ls]) n (some (.val (.bool b))) x5 x6 x7 x8 x9 x10 x11 x12 (some (.own vs)) x14 (some (.val (.int 6))) x16 x17 x18)) rfl c6]
      exact fin2 (by omega) hl fun u h => by
        rcases List.mem_append.mp h with h | h
        · exact hv u h
        · rw [List.mem_singleton] at h
          rw [h]; exact gv
    · have c6 : mTst (mTree (m2 fEq (mVar 15) (mC (.int 6)))) (Y s ns (R17 (.tuple [w0, .tuple ls]) n (some (.val (.bool b))) x5 x6 x7 x8 x9 x10 x11 x12 (some (.own vs)) x14 (some (.val (.int sc))) x16 x17 x18)) = .ok false (Y s ns (R17 (.tuple [w0, .tuple ls]) n (some (.val (.bool b))) x5 x6 x7 x8 x9 x10 x11 x12 (some (.own vs)) x14 (some (.val (.int sc))) x16 x17 x18)) := by
        simp [runDef, List.replicate, mRet, mVal, mTree, mCall, mCons, mNil, mVar, mC, mSeq, mIfS, mNx, mNotT, mTst, mAndT, mOrT, mAndV, mOrV, mNotV, Res.bind, RV.tree, give, mAsg, gT, gN, gsCons, gsNil, mChainT, qLink, qLast, yes, asBool, m2, m1, mN, mTup, mSet, keepE, fEq, TL.same, h6]
      rw [seq_if_f c6]
      exact fin2 (by omega) hl hv
end G
end
section
set_option Elab.async false
set_option linter.all false
set_option autoImplicit false
set_option maxRecDepth 100000
set_option maxHeartbeats 2000000
set_option exponentiation.threshold 10000
namespace G
open PySem PySem.Spec PyProof.Rows L2 TL
def Mvals (rest : Ms) : Ms := (mSeq (mSet 13 (mLst (mCons (mVar 5) (mCons (mVar 6) (mCons (mTree (mCallP D__law_bent 1 (mCons (mVar 7) (mCons (mVar 3) mNil)))) (mCons (mVar 9) (mCons (mVar 11) (mCons (mTup (mCons (mVar 12) (mCons (mTree (m2 fAdd (mVar 12) (mC (.int 1)))) mNil))) (mCons (mTup (mCons (mTree (m2 fMul (mVar 12) (mC (.int 3)))) (mCons (mTree (m2 fAdd (mTree (m2 fMul (mVar 12) (mC (.int 3)))) (mC (.int 3)))) mNil))) (mCons (mVar 12) mNil))))))))))
  (mSeq (mSet 14 (mCallP D__law_spoilt 1 (mCons (mVar 2) mNil)))
  (mSeq (mSet 13 (m2 fAdd (mVar 13) (mTree (mLst (mCons (mVar 2) (mCons (mVar 14) (mCons (mTree (mCallP D__law_spoilt 1 (mCons (mVar 14) mNil))) (mCons (mTree (mN fTuple (mCons (mTree (mComp (mRng (mCons (mVar 3) mNil)) (gN 8) mYes (mTree (mCallP D__law_take 1 (mCons (mTree (m2 fAdd (mVar 8) (mC (.int 1)))) mNil))) [8])) mNil))) mNil))))))))
  (mSeq (mSet 15 (mCallP D__law_take 1 (mCons (mC (.int 8)) mNil)))
  rest))))
theorem pair_ok {p q : Int} (hp : p.natAbs < 2 ^ 200) (hq : q.natAbs < 2 ^ 200) : good (.tuple [.int p, .int q]) = true :=
  (atoms_good (xs := [.int p, .int q]) (fun x hx => by
    rcases List.mem_cons.mp hx with rfl | hx
    · exact decide_eq_true hp
    · rw [List.mem_singleton] at hx
      subst hx
      exact decide_eq_true hq) (by simp)).1
theorem vals_ok {s : T} {n : Nat} {ls : List T} {ns : List Int} {b : Bool} {r5 r6 r9 : RV} {js : List T} {y8 : Option RV} {tm p q near : Int} {rest : Ms}
    (h1 : 1 ≤ n) (h2 : n ≤ 8) (h3 : ls.length ≤ 14) (h4 : ∀ l ∈ ls, lineP l) (g5 : good r5.tree = true) (g6 : good r6.tree = true) (g9 : good r9.tree = true) (gj : ∀ y ∈ js, ∃ i : Int, y = .int i ∧ i.natAbs < 8) (hj : js.length ≤ 8)
    (hp : p.natAbs < 100000) (hq : q.natAbs < 100000) (hn0 : 0 ≤ near) (hn1 : near < 1000000000000000000000000000000) :
    ∃ (ns' : List Int) (vs : List T) (sc : Int) (x5 x6 x7 x8 x9 x14 : Option RV), Mvals rest (Y s ns (R17 (.tuple [.int (n : Nat), .tuple ls]) n (some (.val (.bool b))) (some r5) (some r6) (some (.own js)) y8 (some r9) (some (.val (.int tm))) (some (.val (.tuple [.int p, .int q]))) (some (.val (.int near))) none none none none none none))
      = rest (Y s ns' (R17 (.tuple [.int (n : Nat), .tuple ls]) n (some (.val (.bool b))) x5 x6 x7 x8 x9 (some (.val (.int tm))) (some (.val (.tuple [.int p, .int q]))) (some (.val (.int near))) (some (.own vs)) x14 (some (.val (.int sc))) none none none))
      ∧ (∀ v ∈ vs, good v = true) ∧ vs.length ≤ 100 := by
  have p2 := p200
  -- the first eight
  obtain ⟨r7, ns1, c7, g7⟩ := callPV (bent_ok (row := js) (n := (n : Int)) (fun x hx => by
      obtain ⟨i, rfl, hi⟩ := gj x hx
      exact ⟨i, rfl, by omega⟩) (by omega) (by omega)) (ts := [.list js, .int (n : Nat)]) (i := 1) (ns0 := ns) (ns := ns)
      (ms := mCons (mVar 7) (mCons (mVar 3) mNil))
      (e := Y s ns (R17 (.tuple [.int (n : Nat), .tuple ls]) n (some (.val (.bool b))) (some (.val r5.tree)) (some (.val r6.tree)) (some (.own js)) y8 (some r9) (some (.val (.int tm))) (some (.val (.tuple [.int p, .int q]))) (some (.val (.int near))) none none none none none none))
      (e1 := Y s ns (R17 (.tuple [.int (n : Nat), .tuple ls]) n (some (.val (.bool b))) (some (.val r5.tree)) (some (.val r6.tree)) (some (.val (.list js))) y8 (some r9) (some (.val (.int tm))) (some (.val (.tuple [.int p, .int q]))) (some (.val (.int near))) none none none none none none))
      rfl rfl (cons_ok rfl (cons_ok rfl rfl))
  have v5 := var_rv (i := 5) (r := r5) (e := Y s ns (R17 (.tuple [.int (n : Nat), .tuple ls]) n (some (.val (.bool b))) (some r5) (some r6) (some (.own js)) y8 (some r9) (some (.val (.int tm))) (some (.val (.tuple [.int p, .int q]))) (some (.val (.int near))) none none none none none none)) rfl
  have v6 := var_rv (i := 6) (r := r6) (e := Y s ns (R17 (.tuple [.int (n : Nat), .tuple ls]) n (some (.val (.bool b))) (some (.val r5.tree)) (some r6) (some (.own js)) y8 (some r9) (some (.val (.int tm))) (some (.val (.tuple [.int p, .int q]))) (some (.val (.int near))) none none none none none none)) rfl
  have v9 := var_rv (i := 9) (r := r9) (e := Y s ns1 (R17 (.tuple [.int (n : Nat), .tuple ls]) n (some (.val (.bool b))) (some (.val r5.tree)) (some (.val r6.tree)) (some (.val (.list js))) y8 (some r9) (some (.val (.int tm))) (some (.val (.tuple [.int p, .int q]))) (some (.val (.int near))) none none none none none none)) rfl
  have w12 : mVar 12 (Y s ns1 (R17 (.tuple [.int (n : Nat), .tuple ls]) n (some (.val (.bool b))) (some (.val r5.tree)) (some (.val r6.tree)) (some (.val (.list js))) y8 (some (.val r9.tree)) (some (.val (.int tm))) (some (.val (.tuple [.int p, .int q]))) (some (.val (.int near))) none none none none none none))
      = .ok (.int near) (Y s ns1 (R17 (.tuple [.int (n : Nat), .tuple ls]) n (some (.val (.bool b))) (some (.val r5.tree)) (some (.val r6.tree)) (some (.val (.list js))) y8 (some (.val r9.tree)) (some (.val (.int tm))) (some (.val (.tuple [.int p, .int q]))) (some (.val (.int near))) none none none none none none)) := rfl
  have w11 : mVar 11 (Y s ns1 (R17 (.tuple [.int (n : Nat), .tuple ls]) n (some (.val (.bool b))) (some (.val r5.tree)) (some (.val r6.tree)) (some (.val (.list js))) y8 (some (.val r9.tree)) (some (.val (.int tm))) (some (.val (.tuple [.int p, .int q]))) (some (.val (.int near))) none none none none none none))
      = .ok (.tuple [.int p, .int q]) (Y s ns1 (R17 (.tuple [.int (n : Nat), .tuple ls]) n (some (.val (.bool b))) (some (.val r5.tree)) (some (.val r6.tree)) (some (.val (.list js))) y8 (some (.val r9.tree)) (some (.val (.int tm))) (some (.val (.tuple [.int p, .int q]))) (some (.val (.int near))) none none none none none none)) := rfl
  have m3 := mul_ok w12 (k := mC (.int 3)) (j := 3) rfl (by omega) (by omega)
  have t1 := tup_ok (cons_ok w12 (cons_ok (adds_ok w12 (k := mC (.int 1)) (j := 1) rfl) (show mNil _ = .ok [] _ from rfl))) (by simp)
  have t2 := tup_ok (cons_ok m3 (cons_ok (adds_ok m3 (k := mC (.int 3)) (j := 3) rfl) (show mNil _ = .ok [] _ from rfl))) (by simp)
  have cl := cons_ok v5 (cons_ok v6 (cons_ok (tree_ok c7) (cons_ok v9 (cons_ok w11 (cons_ok t1 (cons_ok t2 (cons_ok w12 (show mNil _ = .ok [] _ from rfl))))))))
  have c13 : mLst (mCons (mVar 5) (mCons (mVar 6) (mCons (mTree (mCallP D__law_bent 1 (mCons (mVar 7) (mCons (mVar 3) mNil)))) (mCons (mVar 9) (mCons (mVar 11) (mCons (mTup (mCons (mVar 12) (mCons (mTree (m2 fAdd (mVar 12) (mC (.int 1)))) mNil))) (mCons (mTup (mCons (mTree (m2 fMul (mVar 12) (mC (.int 3)))) (mCons (mTree (m2 fAdd (mTree (m2 fMul (mVar 12) (mC (.int 3)))) (mC (.int 3)))) mNil))) (mCons (mVar 12) mNil))))))))
      (Y s ns (R17 (.tuple [.int (n : Nat), .tuple ls]) n (some (.val (.bool b))) (some r5) (some r6) (some (.own js)) y8 (some r9) (some (.val (.int tm))) (some (.val (.tuple [.int p, .int q]))) (some (.val (.int near))) none none none none none none))
      = .ok (.own [r5.tree, r6.tree, r7.tree, r9.tree, .tuple [.int p, .int q], .tuple [.int near, .int (near + 1)], .tuple [.int (near * 3), .int (near * 3 + 3)], .int near])
        (Y s ns1 (R17 (.tuple [.int (n : Nat), .tuple ls]) n (some (.val (.bool b))) (some (.val r5.tree)) (some (.val r6.tree)) (some (.val (.list js))) y8 (some (.val r9.tree)) (some (.val (.int tm))) (some (.val (.tuple [.int p, .int q]))) (some (.val (.int near))) none none none none none none)) := by
    unfold mLst
    rw [cl]
    rfl
  -- spoilt once
  have hSP : SP (.tuple [.int (n : Nat), .tuple ls]) := net_sp ⟨n, ls, rfl, h1, h2, h3, h4⟩
  obtain ⟨r14, ns2, c14, g14⟩ := callPV (spoilt_all hSP) (ts := [.tuple [.int (n : Nat), .tuple ls]]) (i := 1) (ns0 := ns1) (ns := ns1) (ms := mCons (mVar 2) mNil)
      (e := Y s ns1 (R17 (.tuple [.int (n : Nat), .tuple ls]) n (some (.val (.bool b))) (some (.val r5.tree)) (some (.val r6.tree)) (some (.val (.list js))) y8 (some (.val r9.tree)) (some (.val (.int tm))) (some (.val (.tuple [.int p, .int q]))) (some (.val (.int near))) (some (.own [r5.tree, r6.tree, r7.tree, r9.tree, .tuple [.int p, .int q], .tuple [.int near, .int (near + 1)], .tuple [.int (near * 3), .int (near * 3 + 3)], .int near])) none none none none none))
      (e1 := Y s ns1 (R17 (.tuple [.int (n : Nat), .tuple ls]) n (some (.val (.bool b))) (some (.val r5.tree)) (some (.val r6.tree)) (some (.val (.list js))) y8 (some (.val r9.tree)) (some (.val (.int tm))) (some (.val (.tuple [.int p, .int q]))) (some (.val (.int near))) (some (.own [r5.tree, r6.tree, r7.tree, r9.tree, .tuple [.int p, .int q], .tuple [.int near, .int (near + 1)], .tuple [.int (near * 3), .int (near * 3 + 3)], .int near])) none none none none none))
      rfl rfl (cons_ok rfl rfl)
  generalize hL : ([r5.tree, r6.tree, r7.tree, r9.tree, .tuple [.int p, .int q], .tuple [.int near, .int (near + 1)], .tuple [.int (near * 3), .int (near * 3 + 3)], .int near] : List T) = L at *
  have hLl : L.length = 8 := by rw [← hL]; rfl
  have hLg : ∀ v ∈ L, good v = true := by
    rw [← hL]
    intro v hv
    simp only [List.mem_cons, List.not_mem_nil, or_false] at hv
    rcases hv with rfl | rfl | rfl | rfl | rfl | rfl | rfl | rfl
    · exact g5
    · exact g6
    · exact g7
    · exact g9
    · exact pair_ok (by omega) (by omega)
    · exact pair_ok (by omega) (by omega)
    · exact pair_ok (by omega) (by omega)
    · rfl
  have v14 := var_rv (i := 14) (r := r14) (e := Y s ns2 (R17 (.tuple [.int (n : Nat), .tuple ls]) n (some (.val (.bool b))) (some (.val r5.tree)) (some (.val r6.tree)) (some (.val (.list js))) y8 (some (.val r9.tree)) (some (.val (.int tm))) (some (.val (.tuple [.int p, .int q]))) (some (.val (.int near))) (some (.val (.list L))) (some r14) none none none none)) rfl
  obtain ⟨r15, ns3, c15, g15⟩ := callPV (spoilt_all g14) (ts := [r14.tree]) (i := 1) (ns0 := ns2) (ns := ns2) (ms := mCons (mVar 14) mNil)
      (e := Y s ns2 (R17 (.tuple [.int (n : Nat), .tuple ls]) n (some (.val (.bool b))) (some (.val r5.tree)) (some (.val r6.tree)) (some (.val (.list js))) y8 (some (.val r9.tree)) (some (.val (.int tm))) (some (.val (.tuple [.int p, .int q]))) (some (.val (.int near))) (some (.val (.list L))) (some (.val r14.tree)) none none none none))
      (e1 := Y s ns2 (R17 (.tuple [.int (n : Nat), .tuple ls]) n (some (.val (.bool b))) (some (.val r5.tree)) (some (.val r6.tree)) (some (.val (.list js))) y8 (some (.val r9.tree)) (some (.val (.int tm))) (some (.val (.tuple [.int p, .int q]))) (some (.val (.int near))) (some (.val (.list L))) (some (.val r14.tree)) none none none none))
      rfl rfl (cons_ok rfl rfl)
  obtain ⟨ys, ns4, d4, gy, ky⟩ := comp4 (s := s) (t := .tuple [.int (n : Nat), .tuple ls]) (n := n) (ns := ns3) (x4 := some (.val (.bool b))) (x5 := some (.val r5.tree)) (x6 := some (.val r6.tree)) (x7 := some (.val (.list js))) (x8 := y8) (x9 := some (.val r9.tree)) (x10 := some (.val (.int tm))) (x11 := some (.val (.tuple [.int p, .int q]))) (x12 := some (.val (.int near))) (x13 := some (.val (.list L))) (x14 := some (.val r14.tree)) (x15 := none) (x16 := none) (x17 := none) (x18 := none)
      (tb := mTree (mCallP D__law_take 1 (mCons (mTree (m2 fAdd (mVar 8) (mC (.int 1)))) mNil))) h2 fun k ns' hk => by
        obtain ⟨r, ns'', hc, i, rfl, i0, i1⟩ := callP (take_ok (b := ((k : Int) + 1)) (by omega)) (ts := [.int ((k : Int) + 1)]) (i := 1) (ms := mCons (mTree (m2 fAdd (mVar 8) (mC (.int 1)))) mNil)
          (e := Y s ns' (R17 (.tuple [.int (n : Nat), .tuple ls]) n (some (.val (.bool b))) (some (.val r5.tree)) (some (.val r6.tree)) (some (.val (.list js))) (some (.val (.int (k : Nat)))) (some (.val r9.tree)) (some (.val (.int tm))) (some (.val (.tuple [.int p, .int q]))) (some (.val (.int near))) (some (.val (.list L))) (some (.val r14.tree)) none none none none)) (ns := ns') rfl rfl
        exact ⟨i, ns'', tree_ok hc, by omega⟩
  have ct : mTree (mN fTuple (mCons (mTree (mComp (mRng (mCons (mVar 3) mNil)) (gN 8) mYes (mTree (mCallP D__law_take 1 (mCons (mTree (m2 fAdd (mVar 8) (mC (.int 1)))) mNil))) [8])) mNil)) (Y s ns3 (R17 (.tuple [.int (n : Nat), .tuple ls]) n (some (.val (.bool b))) (some (.val r5.tree)) (some (.val r6.tree)) (some (.val (.list js))) y8 (some (.val r9.tree)) (some (.val (.int tm))) (some (.val (.tuple [.int p, .int q]))) (some (.val (.int near))) (some (.val (.list L))) (some (.val r14.tree)) none none none none))
      = .ok (.tuple ys) (Y s ns4 (R17 (.tuple [.int (n : Nat), .tuple ls]) n (some (.val (.bool b))) (some (.val r5.tree)) (some (.val r6.tree)) (some (.val (.list js))) (bk y8) (some (.val r9.tree)) (some (.val (.int tm))) (some (.val (.tuple [.int p, .int q]))) (some (.val (.int near))) (some (.val (.list L))) (some (.val r14.tree)) none none none none)) := by
    refine tree_ok (r := .val (.tuple ys)) ?_
    unfold mN
    rw [cons_ok (tree_ok d4) (show mNil _ = .ok [] _ from rfl)]
    rfl
  have cl2 := cons_ok (m := mVar 2) (t := .tuple [.int (n : Nat), .tuple ls]) (e := Y s ns2 (R17 (.tuple [.int (n : Nat), .tuple ls]) n (some (.val (.bool b))) (some (.val r5.tree)) (some (.val r6.tree)) (some (.val (.list js))) y8 (some (.val r9.tree)) (some (.val (.int tm))) (some (.val (.tuple [.int p, .int q]))) (some (.val (.int near))) (some (.val (.list L))) (some r14) none none none none)) rfl (cons_ok v14 (cons_ok (tree_ok c15) (cons_ok ct (show mNil _ = .ok [] _ from rfl))))
  have c16 : m2 fAdd (mVar 13) (mTree (mLst (mCons (mVar 2) (mCons (mVar 14) (mCons (mTree (mCallP D__law_spoilt 1 (mCons (mVar 14) mNil))) (mCons (mTree (mN fTuple (mCons (mTree (mComp (mRng (mCons (mVar 3) mNil)) (gN 8) mYes (mTree (mCallP D__law_take 1 (mCons (mTree (m2 fAdd (mVar 8) (mC (.int 1)))) mNil))) [8])) mNil))) mNil))))))
      (Y s ns2 (R17 (.tuple [.int (n : Nat), .tuple ls]) n (some (.val (.bool b))) (some (.val r5.tree)) (some (.val r6.tree)) (some (.val (.list js))) y8 (some (.val r9.tree)) (some (.val (.int tm))) (some (.val (.tuple [.int p, .int q]))) (some (.val (.int near))) (some (.own L)) (some r14) none none none none))
      = .ok (.own (L ++ [.tuple [.int (n : Nat), .tuple ls], r14.tree, r15.tree, .tuple ys]))
       (Y s ns4 (R17 (.tuple [.int (n : Nat), .tuple ls]) n (some (.val (.bool b))) (some (.val r5.tree)) (some (.val r6.tree)) (some (.val (.list js))) (bk y8) (some (.val r9.tree)) (some (.val (.int tm))) (some (.val (.tuple [.int p, .int q]))) (some (.val (.int near))) (some (.val (.list L))) (some (.val r14.tree)) none none none none)) := by
    have hv : mVar 13 (Y s ns2 (R17 (.tuple [.int (n : Nat), .tuple ls]) n (some (.val (.bool b))) (some (.val r5.tree)) (some (.val r6.tree)) (some (.val (.list js))) y8 (some (.val r9.tree)) (some (.val (.int tm))) (some (.val (.tuple [.int p, .int q]))) (some (.val (.int near))) (some (.own L)) (some r14) none none none none))
      = .ok (.list L) (Y s ns2 (R17 (.tuple [.int (n : Nat), .tuple ls]) n (some (.val (.bool b))) (some (.val r5.tree)) (some (.val r6.tree)) (some (.val (.list js))) y8 (some (.val r9.tree)) (some (.val (.int tm))) (some (.val (.tuple [.int p, .int q]))) (some (.val (.int near))) (some (.val (.list L))) (some r14) none none none none)) := rfl
    have hl2 := tree_ok (m := mLst (mCons (mVar 2) (mCons (mVar 14) (mCons (mTree (mCallP D__law_spoilt 1 (mCons (mVar 14) mNil))) (mCons (mTree (mN fTuple (mCons (mTree (mComp (mRng (mCons (mVar 3) mNil)) (gN 8) mYes (mTree (mCallP D__law_take 1 (mCons (mTree (m2 fAdd (mVar 8) (mC (.int 1)))) mNil))) [8])) mNil))) mNil)))))
      (r := .own [.tuple [.int (n : Nat), .tuple ls], r14.tree, r15.tree, .tuple ys]) (e := Y s ns2 (R17 (.tuple [.int (n : Nat), .tuple ls]) n (some (.val (.bool b))) (some (.val r5.tree)) (some (.val r6.tree)) (some (.val (.list js))) y8 (some (.val r9.tree)) (some (.val (.int tm))) (some (.val (.tuple [.int p, .int q]))) (some (.val (.int near))) (some (.val (.list L))) (some r14) none none none none)) (by
        unfold mLst
        rw [cl2]
        rfl)
    simp only [m2, hv, Res.bind]
    rw [hl2]
    simp only [RV.tree, fAdd]
    rw [if_pos (by rw [hLl]; simp)]
    rfl
  obtain ⟨sc, ns5, t5, _, _⟩ := takeY (s := s) (ns := ns4) (l := R17 (.tuple [.int (n : Nat), .tuple ls]) n (some (.val (.bool b))) (some (.val r5.tree)) (some (.val r6.tree)) (some (.val (.list js))) (bk y8) (some (.val r9.tree)) (some (.val (.int tm))) (some (.val (.tuple [.int p, .int q]))) (some (.val (.int near))) (some (.own (L ++ [.tuple [.int (n : Nat), .tuple ls], r14.tree, r15.tree, .tuple ys]))) (some (.val r14.tree)) none none none none) (b := 8) (by decide)
  obtain ⟨r, ns6, c17, sc2, rfl, _, _⟩ := callP (take_ok (b := 8) (by decide)) (ts := [.int 8]) (i := 1) (ms := mCons (mC (.int 8)) mNil) (e := Y s ns4 (R17 (.tuple [.int (n : Nat), .tuple ls]) n (some (.val (.bool b))) (some (.val r5.tree)) (some (.val r6.tree)) (some (.val (.list js))) (bk y8) (some (.val r9.tree)) (some (.val (.int tm))) (some (.val (.tuple [.int p, .int q]))) (some (.val (.int near))) (some (.own (L ++ [.tuple [.int (n : Nat), .tuple ls], r14.tree, r15.tree, .tuple ys]))) (some (.val r14.tree)) none none none none)) (ns := ns4) rfl rfl
  refine ⟨ns6, L ++ [.tuple [.int (n : Nat), .tuple ls], r14.tree, r15.tree, .tuple ys], sc2, some (.val r5.tree), some (.val r6.tree), some (.val (.list js)), bk y8, some (.val r9.tree), some (.val r14.tree), ?_, ?_, by rw [List.length_append, hLl]; simp⟩
  · unfold Mvals
    rw [seq_set c13]
    simp only [List.set]
    rw [seq_set c14]
    simp only [List.set]
    rw [seq_set c16]
    simp only [List.set]
    rw [seq_set c17]
    simp only [List.set]
  · intro v hv
    rcases List.mem_append.mp hv with hv | hv
    · exact hLg v hv
    · simp only [List.mem_cons, List.not_mem_nil, or_false] at hv
      rcases hv with rfl | rfl | rfl | rfl
      · exact hSP.1
      · exact g14.1
      · exact g15.1
      · exact (atoms_good (fun x hx => by
          obtain ⟨i, rfl, hi⟩ := gy x hx
          exact decide_eq_true (by omega)) (by omega)).1
theorem Mlaw_eq : M_law = Mhead (Mvals Mscene) := rfl
theorem maths_k00 (ns : List Int) (hn : ns.length ≤ 63) : ∃ e, D_law [.val (scrT ns)] = .ok (.val (.bool true)) e := by
  obtain ⟨n, ls, xs, b, r5, r6, r9, js, y8, tm, p, q, near, c1, h1, h2, h3, h4, g5, g6, g9, gj, hj, hp, hq, hn0, hn1⟩ := head_ok (rest := Mvals Mscene) ns hn
  obtain ⟨xs2, vs, sc, x5, x6, x7, x8, x9, x14, c2, gv, hv⟩ := vals_ok (s := scrT ns) (ns := xs) (b := b) (y8 := y8) (tm := tm) (rest := Mscene) h1 h2 h3 h4 g5 g6 g9 gj hj hp hq hn0 hn1
  obtain ⟨e, c3⟩ := scene_ok (s := scrT ns) (w0 := .int (n : Nat)) (ls := ls) (n := n) (ns := xs2) (b := b) (sc := sc) (vs := vs) (x5 := x5) (x6 := x6) (x7 := x7) (x8 := x8) (x9 := x9) (x10 := some (.val (.int tm))) (x11 := some (.val (.tuple [.int p, .int q]))) (x12 := some (.val (.int near))) (x14 := x14) (x16 := none) (x17 := none) (x18 := none) (by omega) (netP_line h4) gv hv
  have hM : M_law [some (.val (scrT ns)), none, none, none, none, none, none, none, none, none, none, none, none, none, none, none, none, none, none] = .ok (.rt (.val (.bool true))) (some (.val (scrT ns)) :: e) := by
    rw [Mlaw_eq, c1, c2]
    exact c3
  refine ⟨keepE [0] 1 (some (.val (scrT ns)) :: e), ?_⟩
  unfold D_law runDef
  rw [if_pos (show [RV.val (scrT ns)].length = 1 from rfl)]
  rw [show M_law (List.map some [RV.val (scrT ns)] ++ List.replicate (19 - 1) none) = _ from hM]
end G
end
set_option Elab.async false
set_option linter.all false
set_option autoImplicit false
set_option maxRecDepth 100000
set_option maxHeartbeats 8000000
namespace G
open PySem PySem.Spec PyProof.Rows L2 TL
def lawT (ns : List Int) : T := .dict (ns.map fun n => (.int n, .none))
/-- what is left: the mathematics -/
def Maths : Prop := ∀ ns : List Int, ns.length ≤ 63 → ∃ e, D_law [.val (lawT ns)] = .ok (.val (.bool true)) e
def spL (K : PySem.W.Frag) : Sp := fun vs H Q _ => ∃ (a : Addr) (ns : List Int), vs = [.ref a] ∧ ns.length ≤ 63 ∧ SqL K H a (ns.map V.int) ∧ ∀ H', Q (.bl true) H'
theorem law_fin {P : Program} {w : World} {K : PySem.W.Frag} {mg : Str → Option Value} {base : Heap} {k : Nat} {f : Addr} {fd : FuncData} {ps : List Str} (M : Maths) (F : FnOk P w K mg base (L2.CX P w) k f fd ps (spD K mg D_law)) :
    FnOk P w K mg base (L2.CX P w) k f fd ps (spL K) := F.imp fun vs H Q E h => by
  obtain ⟨a, ns, rfl, hl, hS, q⟩ := h
  obtain ⟨e, he⟩ := M ns hl
  refine ⟨fun _ => none, H, [.val (lawT ns)], rfl, ⟨fun _ _ h => (nomatch h), Ex.refl H, fun i r h => ?_, by simp, fun i j v ts us h1 => ?_⟩, ?_⟩
  · match i, h with
    | 0, h =>
      cases h
      exact ⟨.ref a, rfl, .scr hS⟩
    | i + 1, h => simp at h
  · match i, h1 with
    | 0, h1 => cases h1
    | i + 1, h1 => simp at h1
  · rw [he]
    intro B' H' s g v hv
    cases hv.1
    exact q H'
abbrev fdOf (x : Str) (st : Stmt) (kV dc pm : Value) (an : Option Addr) (cd ct : Value) : FuncData := PySem.W.fnOf x x (defArgs st) (defBody st) (defScope st) .none kV dc pm an cd ct
abbrev fdOfI (x q : Str) (st : Stmt) (kV dc pm : Value) (an : Option Addr) (cd ct : Value) : FuncData := PySem.W.fnOf x q (defArgs st) (defBody st) (defScope st) .none kV dc pm an cd ct
def fd0 : FuncData := PySem.W.fnOf "" "" (defArgs (topS 0)) [] (defScope (topS 0)) .none .none .none .none none .none .none
theorem all_mk (M : Maths) {l : PySem.W.OpenLaw} {w : World} {K : PySem.W.Frag} {h : Heap} {mg : Str → Option Value} {fa : Addr} (X : K.In h) (G : h.Ns mainGlobals mg) (hfa : mg "law" = some (.ref fa))
    {f0 : Addr} {od0 an0 : Option Addr} {sl0 : Array (Option Value)} {oc0 kV0 dc0 pm0 cd0 ct0 : Value}
    {f1 : Addr} {od1 an1 : Option Addr} {sl1 : Array (Option Value)} {oc1 kV1 dc1 pm1 cd1 ct1 : Value}
    {f2 : Addr} {od2 an2 : Option Addr} {sl2 : Array (Option Value)} {oc2 kV2 dc2 pm2 cd2 ct2 : Value}
    {f3 : Addr} {od3 an3 : Option Addr} {sl3 : Array (Option Value)} {oc3 kV3 dc3 pm3 cd3 ct3 : Value}
    {f4 : Addr} {od4 an4 : Option Addr} {sl4 : Array (Option Value)} {oc4 kV4 dc4 pm4 cd4 ct4 : Value}
    {f5 : Addr} {od5 an5 : Option Addr} {sl5 : Array (Option Value)} {oc5 kV5 dc5 pm5 cd5 ct5 : Value}
    {f6 : Addr} {od6 an6 : Option Addr} {sl6 : Array (Option Value)} {oc6 kV6 dc6 pm6 cd6 ct6 : Value}
    {f7 : Addr} {od7 an7 : Option Addr} {sl7 : Array (Option Value)} {oc7 kV7 dc7 pm7 cd7 ct7 : Value}
    {f8 : Addr} {od8 an8 : Option Addr} {sl8 : Array (Option Value)} {oc8 kV8 dc8 pm8 cd8 ct8 : Value}
    {f9 : Addr} {od9 an9 : Option Addr} {sl9 : Array (Option Value)} {oc9 kV9 dc9 pm9 cd9 ct9 : Value}
    {f10 : Addr} {od10 an10 : Option Addr} {sl10 : Array (Option Value)} {oc10 kV10 dc10 pm10 cd10 ct10 : Value}
    {f11 : Addr} {od11 an11 : Option Addr} {sl11 : Array (Option Value)} {oc11 kV11 dc11 pm11 cd11 ct11 : Value}
    {f12 : Addr} {od12 an12 : Option Addr} {sl12 : Array (Option Value)} {oc12 kV12 dc12 pm12 cd12 ct12 : Value}
    {f13 : Addr} {od13 an13 : Option Addr} {sl13 : Array (Option Value)} {oc13 kV13 dc13 pm13 cd13 ct13 : Value}
    {f14 : Addr} {od14 an14 : Option Addr} {sl14 : Array (Option Value)} {oc14 kV14 dc14 pm14 cd14 ct14 : Value}
    {f15 : Addr} {od15 an15 : Option Addr} {sl15 : Array (Option Value)} {oc15 kV15 dc15 pm15 cd15 ct15 : Value}
    {f16 : Addr} {od16 an16 : Option Addr} {sl16 : Array (Option Value)} {oc16 kV16 dc16 pm16 cd16 ct16 : Value}
    {f17 : Addr} {od17 an17 : Option Addr} {sl17 : Array (Option Value)} {oc17 kV17 dc17 pm17 cd17 ct17 : Value}
    {f18 : Addr} {od18 an18 : Option Addr} {sl18 : Array (Option Value)} {oc18 kV18 dc18 pm18 cd18 ct18 : Value}
    {f19 : Addr} {od19 an19 : Option Addr} {sl19 : Array (Option Value)} {oc19 kV19 dc19 pm19 cd19 ct19 : Value}
    {f20 : Addr} {od20 an20 : Option Addr} {sl20 : Array (Option Value)} {oc20 kV20 dc20 pm20 cd20 ct20 : Value}
    {f21 : Addr} {od21 an21 : Option Addr} {sl21 : Array (Option Value)} {oc21 kV21 dc21 pm21 cd21 ct21 : Value}
    {f22 : Addr} {od22 an22 : Option Addr} {sl22 : Array (Option Value)} {oc22 kV22 dc22 pm22 cd22 ct22 : Value}
    {f23 : Addr} {od23 an23 : Option Addr} {sl23 : Array (Option Value)} {oc23 kV23 dc23 pm23 cd23 ct23 : Value}
    {f24 : Addr} {od24 an24 : Option Addr} {sl24 : Array (Option Value)} {oc24 kV24 dc24 pm24 cd24 ct24 : Value}
    {f25 : Addr} {od25 an25 : Option Addr} {sl25 : Array (Option Value)} {oc25 kV25 dc25 pm25 cd25 ct25 : Value}
    {f26 : Addr} {od26 an26 : Option Addr} {sl26 : Array (Option Value)} {oc26 kV26 dc26 pm26 cd26 ct26 : Value}
    {f27 : Addr} {od27 an27 : Option Addr} {sl27 : Array (Option Value)} {oc27 kV27 dc27 pm27 cd27 ct27 : Value}
    {f28 : Addr} {od28 an28 : Option Addr} {sl28 : Array (Option Value)} {oc28 kV28 dc28 pm28 cd28 ct28 : Value}
    {f29 : Addr} {od29 an29 : Option Addr} {sl29 : Array (Option Value)} {oc29 kV29 dc29 pm29 cd29 ct29 : Value}
    {f30 : Addr} {od30 an30 : Option Addr} {sl30 : Array (Option Value)} {oc30 kV30 dc30 pm30 cd30 ct30 : Value}
    {f31 : Addr} {od31 an31 : Option Addr} {sl31 : Array (Option Value)} {oc31 kV31 dc31 pm31 cd31 ct31 : Value}
    {f32 : Addr} {od32 an32 : Option Addr} {sl32 : Array (Option Value)} {oc32 kV32 dc32 pm32 cd32 ct32 : Value}
    {f33 : Addr} {od33 an33 : Option Addr} {sl33 : Array (Option Value)} {oc33 kV33 dc33 pm33 cd33 ct33 : Value}
    {C0 : Addr}
    {C1 : Addr}
    {C2 : Addr}
    {C3 : Addr}
    {I3 : Addr} {iod3 ian3 : Option Addr} {isl3 : Array (Option Value)} {ioc3 ikV3 idc3 ipm3 icd3 ict3 : Value}
    {nm3 q3 : Str} {N3 : Addr} {bs3 bm3 : List Value} {sn3 : List Str} {sub3 : List Value} {ab3 : Bool} {col3 : Option Bool} {dd3 : Option Addr} {m03 m13 m23 m33 m53 : Option Value}
    (a0 : PySem.W.nsIn K mainGlobals "is_integer" = some (some (.ref f0)))
    (l0 : K.lookup f0 = some ⟨oc0, od0, .func (fdOf "is_integer" s_is_integer kV0 dc0 pm0 an0 cd0 ct0), sl0⟩)
    (c0 : PySem.W.codeIn K cd0 "is_integer" = true)
    (k0 : PySem.W.keepIn K (.ref f0) = true)
    (a1 : PySem.W.nsIn K mainGlobals "is_number" = some (some (.ref f1)))
    (l1 : K.lookup f1 = some ⟨oc1, od1, .func (fdOf "is_number" s_is_number kV1 dc1 pm1 an1 cd1 ct1), sl1⟩)
    (c1 : PySem.W.codeIn K cd1 "is_number" = true)
    (k1 : PySem.W.keepIn K (.ref f1) = true)
    (a2 : PySem.W.nsIn K mainGlobals "is_positive" = some (some (.ref f2)))
    (l2 : K.lookup f2 = some ⟨oc2, od2, .func (fdOf "is_positive" s_is_positive kV2 dc2 pm2 an2 cd2 ct2), sl2⟩)
    (c2 : PySem.W.codeIn K cd2 "is_positive" = true)
    (k2 : PySem.W.keepIn K (.ref f2) = true)
    (a3 : PySem.W.nsIn K mainGlobals "is_tuple_of" = some (some (.ref f3)))
    (l3 : K.lookup f3 = some ⟨oc3, od3, .func (fdOf "is_tuple_of" s_is_tuple_of kV3 dc3 pm3 an3 cd3 ct3), sl3⟩)
    (c3 : PySem.W.codeIn K cd3 "is_tuple_of" = true)
    (k3 : PySem.W.keepIn K (.ref f3) = true)
    (a4 : PySem.W.nsIn K mainGlobals "is_quotient" = some (some (.ref f4)))
    (l4 : K.lookup f4 = some ⟨oc4, od4, .func (fdOf "is_quotient" s_is_quotient kV4 dc4 pm4 an4 cd4 ct4), sl4⟩)
    (c4 : PySem.W.codeIn K cd4 "is_quotient" = true)
    (k4 : PySem.W.keepIn K (.ref f4) = true)
    (a5 : PySem.W.nsIn K mainGlobals "are_below" = some (some (.ref f5)))
    (l5 : K.lookup f5 = some ⟨oc5, od5, .func (fdOf "are_below" s_are_below kV5 dc5 pm5 an5 cd5 ct5), sl5⟩)
    (c5 : PySem.W.codeIn K cd5 "are_below" = true)
    (k5 : PySem.W.keepIn K (.ref f5) = true)
    (a6 : PySem.W.nsIn K mainGlobals "is_lot" = some (some (.ref f6)))
    (l6 : K.lookup f6 = some ⟨oc6, od6, .func (fdOf "is_lot" s_is_lot kV6 dc6 pm6 an6 cd6 ct6), sl6⟩)
    (c6 : PySem.W.codeIn K cd6 "is_lot" = true)
    (k6 : PySem.W.keepIn K (.ref f6) = true)
    (a7 : PySem.W.nsIn K mainGlobals "is_purses" = some (some (.ref f7)))
    (l7 : K.lookup f7 = some ⟨oc7, od7, .func (fdOf "is_purses" s_is_purses kV7 dc7 pm7 an7 cd7 ct7), sl7⟩)
    (c7 : PySem.W.codeIn K cd7 "is_purses" = true)
    (k7 : PySem.W.keepIn K (.ref f7) = true)
    (a8 : PySem.W.nsIn K mainGlobals "is_joining" = some (some (.ref f8)))
    (l8 : K.lookup f8 = some ⟨oc8, od8, .func (fdOf "is_joining" s_is_joining kV8 dc8 pm8 an8 cd8 ct8), sl8⟩)
    (c8 : PySem.W.codeIn K cd8 "is_joining" = true)
    (k8 : PySem.W.keepIn K (.ref f8) = true)
    (a9 : PySem.W.nsIn K mainGlobals "line_fault" = some (some (.ref f9)))
    (l9 : K.lookup f9 = some ⟨oc9, od9, .func (fdOf "line_fault" s_line_fault kV9 dc9 pm9 an9 cd9 ct9), sl9⟩)
    (c9 : PySem.W.codeIn K cd9 "line_fault" = true)
    (k9 : PySem.W.keepIn K (.ref f9) = true)
    (a10 : PySem.W.nsIn K mainGlobals "web_fault" = some (some (.ref f10)))
    (l10 : K.lookup f10 = some ⟨oc10, od10, .func (fdOf "web_fault" s_web_fault kV10 dc10 pm10 an10 cd10 ct10), sl10⟩)
    (c10 : PySem.W.codeIn K cd10 "web_fault" = true)
    (k10 : PySem.W.keepIn K (.ref f10) = true)
    (a11 : PySem.W.nsIn K mainGlobals "is_web" = some (some (.ref f11)))
    (l11 : K.lookup f11 = some ⟨oc11, od11, .func (fdOf "is_web" s_is_web kV11 dc11 pm11 an11 cd11 ct11), sl11⟩)
    (c11 : PySem.W.codeIn K cd11 "is_web" = true)
    (k11 : PySem.W.keepIn K (.ref f11) = true)
    (a12 : PySem.W.nsIn K mainGlobals "is_split" = some (some (.ref f12)))
    (l12 : K.lookup f12 = some ⟨oc12, od12, .func (fdOf "is_split" s_is_split kV12 dc12 pm12 an12 cd12 ct12), sl12⟩)
    (c12 : PySem.W.codeIn K cd12 "is_split" = true)
    (k12 : PySem.W.keepIn K (.ref f12) = true)
    (a13 : PySem.W.nsIn K mainGlobals "lets_web" = some (some (.ref f13)))
    (l13 : K.lookup f13 = some ⟨oc13, od13, .func (fdOf "lets_web" s_lets_web kV13 dc13 pm13 an13 cd13 ct13), sl13⟩)
    (c13 : PySem.W.codeIn K cd13 "lets_web" = true)
    (k13 : PySem.W.keepIn K (.ref f13) = true)
    (a14 : PySem.W.nsIn K mainGlobals "_law_pool" = some (some (.ref f14)))
    (l14 : K.lookup f14 = some ⟨oc14, od14, .func (fdOf "_law_pool" s__law_pool kV14 dc14 pm14 an14 cd14 ct14), sl14⟩)
    (c14 : PySem.W.codeIn K cd14 "_law_pool" = true)
    (k14 : PySem.W.keepIn K (.ref f14) = true)
    (a15 : PySem.W.nsIn K mainGlobals "_law_take" = some (some (.ref f15)))
    (l15 : K.lookup f15 = some ⟨oc15, od15, .func (fdOf "_law_take" s__law_take kV15 dc15 pm15 an15 cd15 ct15), sl15⟩)
    (c15 : PySem.W.codeIn K cd15 "_law_take" = true)
    (k15 : PySem.W.keepIn K (.ref f15) = true)
    (a16 : PySem.W.nsIn K mainGlobals "_law_great" = some (some (.ref f16)))
    (l16 : K.lookup f16 = some ⟨oc16, od16, .func (fdOf "_law_great" s__law_great kV16 dc16 pm16 an16 cd16 ct16), sl16⟩)
    (c16 : PySem.W.codeIn K cd16 "_law_great" = true)
    (k16 : PySem.W.keepIn K (.ref f16) = true)
    (a17 : PySem.W.nsIn K mainGlobals "_law_int" = some (some (.ref f17)))
    (l17 : K.lookup f17 = some ⟨oc17, od17, .func (fdOf "_law_int" s__law_int kV17 dc17 pm17 an17 cd17 ct17), sl17⟩)
    (c17 : PySem.W.codeIn K cd17 "_law_int" = true)
    (k17 : PySem.W.keepIn K (.ref f17) = true)
    (a18 : PySem.W.nsIn K mainGlobals "_law_same" = some (some (.ref f18)))
    (l18 : K.lookup f18 = some ⟨oc18, od18, .func (fdOf "_law_same" s__law_same kV18 dc18 pm18 an18 cd18 ct18), sl18⟩)
    (c18 : PySem.W.codeIn K cd18 "_law_same" = true)
    (k18 : PySem.W.keepIn K (.ref f18) = true)
    (a19 : PySem.W.nsIn K mainGlobals "_law_room" = some (some (.ref f19)))
    (l19 : K.lookup f19 = some ⟨oc19, od19, .func (fdOf "_law_room" s__law_room kV19 dc19 pm19 an19 cd19 ct19), sl19⟩)
    (c19 : PySem.W.codeIn K cd19 "_law_room" = true)
    (k19 : PySem.W.keepIn K (.ref f19) = true)
    (a20 : PySem.W.nsIn K mainGlobals "_law_net" = some (some (.ref f20)))
    (l20 : K.lookup f20 = some ⟨oc20, od20, .func (fdOf "_law_net" s__law_net kV20 dc20 pm20 an20 cd20 ct20), sl20⟩)
    (c20 : PySem.W.codeIn K cd20 "_law_net" = true)
    (k20 : PySem.W.keepIn K (.ref f20) = true)
    (a21 : PySem.W.nsIn K mainGlobals "_law_odd" = some (some (.ref f21)))
    (l21 : K.lookup f21 = some ⟨oc21, od21, .func (fdOf "_law_odd" s__law_odd kV21 dc21 pm21 an21 cd21 ct21), sl21⟩)
    (c21 : PySem.W.codeIn K cd21 "_law_odd" = true)
    (k21 : PySem.W.keepIn K (.ref f21) = true)
    (a22 : PySem.W.nsIn K mainGlobals "_law_spoilt" = some (some (.ref f22)))
    (l22 : K.lookup f22 = some ⟨oc22, od22, .func (fdOf "_law_spoilt" s__law_spoilt kV22 dc22 pm22 an22 cd22 ct22), sl22⟩)
    (c22 : PySem.W.codeIn K cd22 "_law_spoilt" = true)
    (k22 : PySem.W.keepIn K (.ref f22) = true)
    (a23 : PySem.W.nsIn K mainGlobals "_law_bent" = some (some (.ref f23)))
    (l23 : K.lookup f23 = some ⟨oc23, od23, .func (fdOf "_law_bent" s__law_bent kV23 dc23 pm23 an23 cd23 ct23), sl23⟩)
    (c23 : PySem.W.codeIn K cd23 "_law_bent" = true)
    (k23 : PySem.W.keepIn K (.ref f23) = true)
    (a24 : PySem.W.nsIn K mainGlobals "_law_word" = some (some (.ref f24)))
    (l24 : K.lookup f24 = some ⟨oc24, od24, .func (fdOf "_law_word" s__law_word kV24 dc24 pm24 an24 cd24 ct24), sl24⟩)
    (c24 : PySem.W.codeIn K cd24 "_law_word" = true)
    (k24 : PySem.W.keepIn K (.ref f24) = true)
    (a25 : PySem.W.nsIn K mainGlobals "_law_lowest" = some (some (.ref f25)))
    (l25 : K.lookup f25 = some ⟨oc25, od25, .func (fdOf "_law_lowest" s__law_lowest kV25 dc25 pm25 an25 cd25 ct25), sl25⟩)
    (c25 : PySem.W.codeIn K cd25 "_law_lowest" = true)
    (k25 : PySem.W.keepIn K (.ref f25) = true)
    (a26 : PySem.W.nsIn K mainGlobals "_law_numbers" = some (some (.ref f26)))
    (l26 : K.lookup f26 = some ⟨oc26, od26, .func (fdOf "_law_numbers" s__law_numbers kV26 dc26 pm26 an26 cd26 ct26), sl26⟩)
    (c26 : PySem.W.codeIn K cd26 "_law_numbers" = true)
    (k26 : PySem.W.keepIn K (.ref f26) = true)
    (a27 : PySem.W.nsIn K mainGlobals "_law_due" = some (some (.ref f27)))
    (l27 : K.lookup f27 = some ⟨oc27, od27, .func (fdOf "_law_due" s__law_due kV27 dc27 pm27 an27 cd27 ct27), sl27⟩)
    (c27 : PySem.W.codeIn K cd27 "_law_due" = true)
    (k27 : PySem.W.keepIn K (.ref f27) = true)
    (a28 : PySem.W.nsIn K mainGlobals "_law_told" = some (some (.ref f28)))
    (l28 : K.lookup f28 = some ⟨oc28, od28, .func (fdOf "_law_told" s__law_told kV28 dc28 pm28 an28 cd28 ct28), sl28⟩)
    (c28 : PySem.W.codeIn K cd28 "_law_told" = true)
    (k28 : PySem.W.keepIn K (.ref f28) = true)
    (a29 : PySem.W.nsIn K mainGlobals "_law_heard" = some (some (.ref f29)))
    (l29 : K.lookup f29 = some ⟨oc29, od29, .func (fdOf "_law_heard" s__law_heard kV29 dc29 pm29 an29 cd29 ct29), sl29⟩)
    (c29 : PySem.W.codeIn K cd29 "_law_heard" = true)
    (k29 : PySem.W.keepIn K (.ref f29) = true)
    (a30 : PySem.W.nsIn K mainGlobals "_law_checked" = some (some (.ref f30)))
    (l30 : K.lookup f30 = some ⟨oc30, od30, .func (fdOf "_law_checked" s__law_checked kV30 dc30 pm30 an30 cd30 ct30), sl30⟩)
    (c30 : PySem.W.codeIn K cd30 "_law_checked" = true)
    (k30 : PySem.W.keepIn K (.ref f30) = true)
    (a31 : PySem.W.nsIn K mainGlobals "_law_written" = some (some (.ref f31)))
    (l31 : K.lookup f31 = some ⟨oc31, od31, .func (fdOf "_law_written" s__law_written kV31 dc31 pm31 an31 cd31 ct31), sl31⟩)
    (c31 : PySem.W.codeIn K cd31 "_law_written" = true)
    (k31 : PySem.W.keepIn K (.ref f31) = true)
    (a32 : PySem.W.nsIn K mainGlobals "_law_wide" = some (some (.ref f32)))
    (l32 : K.lookup f32 = some ⟨oc32, od32, .func (fdOf "_law_wide" s__law_wide kV32 dc32 pm32 an32 cd32 ct32), sl32⟩)
    (c32 : PySem.W.codeIn K cd32 "_law_wide" = true)
    (k32 : PySem.W.keepIn K (.ref f32) = true)
    (a33 : PySem.W.nsIn K mainGlobals "law" = some (some (.ref f33)))
    (l33 : K.lookup f33 = some ⟨oc33, od33, .func (fdOf "law" s_law kV33 dc33 pm33 an33 cd33 ct33), sl33⟩)
    (c33 : PySem.W.codeIn K cd33 "law" = true)
    (k33 : PySem.W.keepIn K (.ref f33) = true)
    (cg0 : PySem.W.nsIn K mainGlobals "LedError" = some (some (.ref C0)))
    (cg1 : PySem.W.nsIn K mainGlobals "PaperError" = some (some (.ref C1)))
    (cg2 : PySem.W.nsIn K mainGlobals "WebError" = some (some (.ref C2)))
    (cg3 : PySem.W.nsIn K mainGlobals "InvalidPaper" = some (some (.ref C3)))
    (xc3 : K.lookup C3 = some (excClassObj nm3 q3 C3 N3 bs3 bm3 true sn3 sub3 ab3 col3 dd3 m03 m13 m23 m33 m53 "ValueError.__new__"))
    (xm3 : PySem.HandSPX.refsVE bm3 = true)
    (xs3 : PySem.W.findIn K (.ref C3) "__setattr__" = some (some (.builtin "object.__setattr__")))
    (xe3 : PySem.W.subIn K (.ref C3) (.type "BaseException") = some true)
    (xt3 : PySem.W.typeIn K (.ref C3) = some (.type "type"))
    (xk3 : PySem.W.keepIn K (.ref C3) = true)
    (ii3 : PySem.W.findIn K (.ref C3) "__init__" = some (some (.ref I3)))
    (it3 : PySem.W.typeIn K (.ref I3) = some (.type "function"))
    (il3 : K.lookup I3 = some ⟨ioc3, iod3, .func (fdOfI "__init__" "InvalidPaper.__init__" si_InvalidPaper ikV3 idc3 ipm3 ian3 icd3 ict3), isl3⟩)
    (ic3 : PySem.W.codeIn K icd3 "InvalidPaper.__init__" = true)
    (ik3 : PySem.W.keepIn K (.ref I3) = true)
    (xga3 : PySem.W.findIn K (.ref C3) "__getattribute__" = some (some (.builtin "BaseException.__getattribute__")))
    (xgg3 : PySem.W.findIn K (.ref C3) "__getattr__" = some none)
    (xhd3 : PySem.W.hasDictIn K C3 = true)
    (xcl3 : PySem.W.findIn K (.ref C3) "__class__" = some (some (.builtin "object.__class__")))
    (xhn3 : PySem.W.specialIn K (.builtin "object.__class__") "__get__" = some (some (.builtin "getset_descriptor.__get__")))
    (xht3 : PySem.W.takesIn K (.builtin "object.__class__") = some true)
    (xhm3 : PySem.W.mroIn K C3 (.type "object") = some true)
    (xss3 : PySem.W.subIn K (.ref C3) (.ref C3) = some true)
    (no3_at : PySem.W.findIn K (.ref C3) "at" = some none)
    (no3_word : PySem.W.findIn K (.ref C3) "word" = some none)
    (kt3_LedError : PySem.W.kitOne K (.ref C3) (.ref C0) = some true)
    (kt3_PaperError : PySem.W.kitOne K (.ref C3) (.ref C1) = some true)
    (kt3_ValueError : PySem.W.kitOne K (.ref C3) (.type "ValueError") = some true)
    (kt3_WebError : PySem.W.kitOne K (.ref C3) (.ref C2) = some false)
    (n_ValueError : PySem.W.nsIn K mainGlobals "ValueError" = some none)
    (n_abs : PySem.W.nsIn K mainGlobals "abs" = some none)
    (n_all : PySem.W.nsIn K mainGlobals "all" = some none)
    (n_bool : PySem.W.nsIn K mainGlobals "bool" = some none)
    (n_enumerate : PySem.W.nsIn K mainGlobals "enumerate" = some none)
    (n_int : PySem.W.nsIn K mainGlobals "int" = some none)
    (n_isinstance : PySem.W.nsIn K mainGlobals "isinstance" = some none)
    (n_len : PySem.W.nsIn K mainGlobals "len" = some none)
    (n_list : PySem.W.nsIn K mainGlobals "list" = some none)
    (n_min : PySem.W.nsIn K mainGlobals "min" = some none)
    (n_range : PySem.W.nsIn K mainGlobals "range" = some none)
    (n_str : PySem.W.nsIn K mainGlobals "str" = some none)
    (n_tuple : PySem.W.nsIn K mainGlobals "tuple" = some none)
    (n_zip : PySem.W.nsIn K mainGlobals "zip" = some none)
    (i_gcd : PySem.W.nsIn K mainGlobals "gcd" = some (some (.builtin "math.gcd")))
    : ∃ fd : FuncData, (∀ (s : Shared) (v : Value), BindsTo s fd ⟨[v], []⟩ [("_law_script", v)]) ∧ ∀ base : Heap, K.In base → base.Ns mainGlobals mg → FnOk l.prog w K mg base (L2.CX l.prog w) 12 fa fd ["_law_script"] (spL K) := by
  cases hfa.symm.trans (PySem.W.mg_of X G a33)
  have F0 := fun_mk (st := s_is_integer) l0 c0 k0
  have F1 := fun_mk (st := s_is_number) l1 c1 k1
  have F2 := fun_mk (st := s_is_positive) l2 c2 k2
  have F3 := fun_mk (st := s_is_tuple_of) l3 c3 k3
  have F4 := fun_mk (st := s_is_quotient) l4 c4 k4
  have F5 := fun_mk (st := s_are_below) l5 c5 k5
  have F6 := fun_mk (st := s_is_lot) l6 c6 k6
  have F7 := fun_mk (st := s_is_purses) l7 c7 k7
  have F8 := fun_mk (st := s_is_joining) l8 c8 k8
  have F9 := fun_mk (st := s_line_fault) l9 c9 k9
  have F10 := fun_mk (st := s_web_fault) l10 c10 k10
  have F11 := fun_mk (st := s_is_web) l11 c11 k11
  have F12 := fun_mk (st := s_is_split) l12 c12 k12
  have F13 := fun_mk (st := s_lets_web) l13 c13 k13
  have F14 := fun_mk (st := s__law_pool) l14 c14 k14
  have F15 := fun_mk (st := s__law_take) l15 c15 k15
  have F16 := fun_mk (st := s__law_great) l16 c16 k16
  have F17 := fun_mk (st := s__law_int) l17 c17 k17
  have F18 := fun_mk (st := s__law_same) l18 c18 k18
  have F19 := fun_mk (st := s__law_room) l19 c19 k19
  have F20 := fun_mk (st := s__law_net) l20 c20 k20
  have F21 := fun_mk (st := s__law_odd) l21 c21 k21
  have F22 := fun_mk (st := s__law_spoilt) l22 c22 k22
  have F23 := fun_mk (st := s__law_bent) l23 c23 k23
  have F24 := fun_mk (st := s__law_word) l24 c24 k24
  have F25 := fun_mk (st := s__law_lowest) l25 c25 k25
  have F26 := fun_mk (st := s__law_numbers) l26 c26 k26
  have F27 := fun_mk (st := s__law_due) l27 c27 k27
  have F28 := fun_mk (st := s__law_told) l28 c28 k28
  have F29 := fun_mk (st := s__law_heard) l29 c29 k29
  have F30 := fun_mk (st := s__law_checked) l30 c30 k30
  have F31 := fun_mk (st := s__law_written) l31 c31 k31
  have F32 := fun_mk (st := s__law_wide) l32 c32 k32
  have F33 := fun_mk (st := s_law) l33 c33 k33
  have FI3 := fun_mk (st := si_InvalidPaper) il3 ic3 ik3
  have bI3 : Binds K _ ["self", "word", "at"] [] := FI3.binds fun _ _ _ _ _ _ us hl => match us, hl with | [_, _, _], _ => rfl
  have xf3 : L2.XfC K C3 := ⟨xga3, xgg3, xe3, xhd3⟩
  have ox3 : L2.OexC K C3 := ⟨⟨_, _, _, _, _, _, _, _, _, _, _, _, _, _, _, xc3, xm3⟩, xs3, xe3, xt3, xk3⟩
  have T : Txt K mg (fun i => [f0, f1, f2, f3, f4, f5, f6, f7, f8, f9, f10, f11, f12, f13, f14, f15, f16, f17, f18, f19, f20, f21, f22, f23, f24, f25, f26, f27, f28, f29, f30, f31, f32, fa].getD i 0) (fun i => [fdOf "is_integer" s_is_integer kV0 dc0 pm0 an0 cd0 ct0, fdOf "is_number" s_is_number kV1 dc1 pm1 an1 cd1 ct1, fdOf "is_positive" s_is_positive kV2 dc2 pm2 an2 cd2 ct2, fdOf "is_tuple_of" s_is_tuple_of kV3 dc3 pm3 an3 cd3 ct3, fdOf "is_quotient" s_is_quotient kV4 dc4 pm4 an4 cd4 ct4, fdOf "are_below" s_are_below kV5 dc5 pm5 an5 cd5 ct5, fdOf "is_lot" s_is_lot kV6 dc6 pm6 an6 cd6 ct6, fdOf "is_purses" s_is_purses kV7 dc7 pm7 an7 cd7 ct7, fdOf "is_joining" s_is_joining kV8 dc8 pm8 an8 cd8 ct8, fdOf "line_fault" s_line_fault kV9 dc9 pm9 an9 cd9 ct9, fdOf "web_fault" s_web_fault kV10 dc10 pm10 an10 cd10 ct10, fdOf "is_web" s_is_web kV11 dc11 pm11 an11 cd11 ct11, fdOf "is_split" s_is_split kV12 dc12 pm12 an12 cd12 ct12, fdOf "lets_web" s_lets_web kV13 dc13 pm13 an13 cd13 ct13, fdOf "_law_pool" s__law_pool kV14 dc14 pm14 an14 cd14 ct14, fdOf "_law_take" s__law_take kV15 dc15 pm15 an15 cd15 ct15, fdOf "_law_great" s__law_great kV16 dc16 pm16 an16 cd16 ct16, fdOf "_law_int" s__law_int kV17 dc17 pm17 an17 cd17 ct17, fdOf "_law_same" s__law_same kV18 dc18 pm18 an18 cd18 ct18, fdOf "_law_room" s__law_room kV19 dc19 pm19 an19 cd19 ct19, fdOf "_law_net" s__law_net kV20 dc20 pm20 an20 cd20 ct20, fdOf "_law_odd" s__law_odd kV21 dc21 pm21 an21 cd21 ct21, fdOf "_law_spoilt" s__law_spoilt kV22 dc22 pm22 an22 cd22 ct22, fdOf "_law_bent" s__law_bent kV23 dc23 pm23 an23 cd23 ct23, fdOf "_law_word" s__law_word kV24 dc24 pm24 an24 cd24 ct24, fdOf "_law_lowest" s__law_lowest kV25 dc25 pm25 an25 cd25 ct25, fdOf "_law_numbers" s__law_numbers kV26 dc26 pm26 an26 cd26 ct26, fdOf "_law_due" s__law_due kV27 dc27 pm27 an27 cd27 ct27, fdOf "_law_told" s__law_told kV28 dc28 pm28 an28 cd28 ct28, fdOf "_law_heard" s__law_heard kV29 dc29 pm29 an29 cd29 ct29, fdOf "_law_checked" s__law_checked kV30 dc30 pm30 an30 cd30 ct30, fdOf "_law_written" s__law_written kV31 dc31 pm31 an31 cd31 ct31, fdOf "_law_wide" s__law_wide kV32 dc32 pm32 an32 cd32 ct32, fdOf "law" s_law kV33 dc33 pm33 an33 cd33 ct33].getD i fd0) (fun i => [C0, C1, C2, C3].getD i 0) (fun i => [0, 0, 0, I3].getD i 0) (fun i => [fd0, fd0, fd0, fdOfI "__init__" "InvalidPaper.__init__" si_InvalidPaper ikV3 idc3 ipm3 ian3 icd3 ict3].getD i fd0) := {
    g_is_integer := PySem.W.mg_of X G a0,
    F_is_integer := F0,
    g_is_number := PySem.W.mg_of X G a1,
    F_is_number := F1,
    g_is_positive := PySem.W.mg_of X G a2,
    F_is_positive := F2,
    g_is_tuple_of := PySem.W.mg_of X G a3,
    F_is_tuple_of := F3,
    g_is_quotient := PySem.W.mg_of X G a4,
    F_is_quotient := F4,
    g_are_below := PySem.W.mg_of X G a5,
    F_are_below := F5,
    g_is_lot := PySem.W.mg_of X G a6,
    F_is_lot := F6,
    g_is_purses := PySem.W.mg_of X G a7,
    F_is_purses := F7,
    g_is_joining := PySem.W.mg_of X G a8,
    F_is_joining := F8,
    g_line_fault := PySem.W.mg_of X G a9,
    F_line_fault := F9,
    g_web_fault := PySem.W.mg_of X G a10,
    F_web_fault := F10,
    g_is_web := PySem.W.mg_of X G a11,
    F_is_web := F11,
    g_is_split := PySem.W.mg_of X G a12,
    F_is_split := F12,
    g_lets_web := PySem.W.mg_of X G a13,
    F_lets_web := F13,
    g__law_pool := PySem.W.mg_of X G a14,
    F__law_pool := F14,
    g__law_take := PySem.W.mg_of X G a15,
    F__law_take := F15,
    g__law_great := PySem.W.mg_of X G a16,
    F__law_great := F16,
    g__law_int := PySem.W.mg_of X G a17,
    F__law_int := F17,
    g__law_same := PySem.W.mg_of X G a18,
    F__law_same := F18,
    g__law_room := PySem.W.mg_of X G a19,
    F__law_room := F19,
    g__law_net := PySem.W.mg_of X G a20,
    F__law_net := F20,
    g__law_odd := PySem.W.mg_of X G a21,
    F__law_odd := F21,
    g__law_spoilt := PySem.W.mg_of X G a22,
    F__law_spoilt := F22,
    g__law_bent := PySem.W.mg_of X G a23,
    F__law_bent := F23,
    g__law_word := PySem.W.mg_of X G a24,
    F__law_word := F24,
    g__law_lowest := PySem.W.mg_of X G a25,
    F__law_lowest := F25,
    g__law_numbers := PySem.W.mg_of X G a26,
    F__law_numbers := F26,
    g__law_due := PySem.W.mg_of X G a27,
    F__law_due := F27,
    g__law_told := PySem.W.mg_of X G a28,
    F__law_told := F28,
    g__law_heard := PySem.W.mg_of X G a29,
    F__law_heard := F29,
    g__law_checked := PySem.W.mg_of X G a30,
    F__law_checked := F30,
    g__law_written := PySem.W.mg_of X G a31,
    F__law_written := F31,
    g__law_wide := PySem.W.mg_of X G a32,
    F__law_wide := F32,
    g_law := PySem.W.mg_of X G a33,
    F_law := F33,
    n_ValueError := PySem.W.mg_none_of X G n_ValueError,
    n_abs := PySem.W.mg_none_of X G n_abs,
    n_all := PySem.W.mg_none_of X G n_all,
    n_bool := PySem.W.mg_none_of X G n_bool,
    n_enumerate := PySem.W.mg_none_of X G n_enumerate,
    n_int := PySem.W.mg_none_of X G n_int,
    n_isinstance := PySem.W.mg_none_of X G n_isinstance,
    n_len := PySem.W.mg_none_of X G n_len,
    n_list := PySem.W.mg_none_of X G n_list,
    n_min := PySem.W.mg_none_of X G n_min,
    n_range := PySem.W.mg_none_of X G n_range,
    n_str := PySem.W.mg_none_of X G n_str,
    n_tuple := PySem.W.mg_none_of X G n_tuple,
    n_zip := PySem.W.mg_none_of X G n_zip,
    i_gcd := PySem.W.mg_of X G i_gcd,
    x_InvalidPaper := ⟨PySem.W.mg_of X G cg3, ox3, ii3, it3, bI3, xf3, PySem.W.exm_ref xe3 xhd3 xt3 xss3⟩,
    FI_InvalidPaper := FI3,
    xi_InvalidPaper := ⟨xga3, xgg3, xe3, xhd3, xcl3, xhn3, xht3, xhm3⟩,
    no_InvalidPaper_at := no3_at,
    no_InvalidPaper_word := no3_word,
    gc_LedError := PySem.W.mg_of X G cg0,
    gc_PaperError := PySem.W.mg_of X G cg1,
    gc_WebError := PySem.W.mg_of X G cg2,
    kit_InvalidPaper_LedError := kt3_LedError,
    kit_InvalidPaper_PaperError := kt3_PaperError,
    kit_InvalidPaper_ValueError := kt3_ValueError,
    kit_InvalidPaper_WebError := kt3_WebError }
  exact ⟨fdOf "law" s_law kV33 dc33 pm33 an33 cd33 ct33, fun s v => .of_eq rfl, fun base _ _ => law_fin M (ok_law T)⟩
end G
open PySem PySem.W PyProof.Rows
theorem G.maths : G.Maths := fun ns hn => G.maths_k00 ns hn
theorem PySem.Challenge.cw_howeverled_k00_kinds_and_the_web_checker_holds : PySem.Challenge.rw_howeverled_k00_kinds_and_the_web_checker.Holds := by
  w_on; o_law; k_head; (case hw => w_witness2)
  k_fill
  refine L2.walk_of (l := PySem.Challenge.rw_howeverled_k00_kinds_and_the_web_checker) (n := 63) (k := 12) (x := "_law_script") (CX := fun w => L2.CX (PySem.Challenge.rw_howeverled_k00_kinds_and_the_web_checker).prog w) (sp := fun w => G.spL _) rfl (by decide) rfl ⟨rfl, by decide, by decide⟩ (fun w h Y => PySem.W.kIn_of Y) ?F (fun _ _ a ns hl _ hS => ⟨a, ns, rfl, hl, hS, fun _ => rfl⟩) ?CX
  case CX =>
    intro w H s e s' h
    obtain ⟨_, _, _, _, _, _, _, _, _, _, _, _, z⟩ := h
    exact z
  case F =>
    intro w mg fa h KX G hmg
    refine' _root_.G.all_mk _root_.G.maths KX G hmg ?a0 ?l0 ?c0 ?k0 ?a1 ?l1 ?c1 ?k1 ?a2 ?l2 ?c2 ?k2 ?a3 ?l3 ?c3 ?k3 ?a4 ?l4 ?c4 ?k4 ?a5 ?l5 ?c5 ?k5 ?a6 ?l6 ?c6 ?k6 ?a7 ?l7 ?c7 ?k7 ?a8 ?l8 ?c8 ?k8 ?a9 ?l9 ?c9 ?k9 ?a10 ?l10 ?c10 ?k10 ?a11 ?l11 ?c11 ?k11 ?a12 ?l12 ?c12 ?k12 ?a13 ?l13 ?c13 ?k13 ?a14 ?l14 ?c14 ?k14 ?a15 ?l15 ?c15 ?k15 ?a16 ?l16 ?c16 ?k16 ?a17 ?l17 ?c17 ?k17 ?a18 ?l18 ?c18 ?k18 ?a19 ?l19 ?c19 ?k19 ?a20 ?l20 ?c20 ?k20 ?a21 ?l21 ?c21 ?k21 ?a22 ?l22 ?c22 ?k22 ?a23 ?l23 ?c23 ?k23 ?a24 ?l24 ?c24 ?k24 ?a25 ?l25 ?c25 ?k25 ?a26 ?l26 ?c26 ?k26 ?a27 ?l27 ?c27 ?k27 ?a28 ?l28 ?c28 ?k28 ?a29 ?l29 ?c29 ?k29 ?a30 ?l30 ?c30 ?k30 ?a31 ?l31 ?c31 ?k31 ?a32 ?l32 ?c32 ?k32 ?a33 ?l33 ?c33 ?k33 ?cg0 ?cg1 ?cg2 ?cg3 ?xc3 ?xm3 ?xs3 ?xe3 ?xt3 ?xk3 ?ii3 ?it3 ?il3 ?ic3 ?ik3 ?xga3 ?xgg3 ?xhd3 ?xcl3 ?xhn3 ?xht3 ?xhm3 ?xss3 ?no3_at ?no3_word ?kt3_LedError ?kt3_PaperError ?kt3_ValueError ?kt3_WebError ?n_ValueError ?n_abs ?n_all ?n_bool ?n_enumerate ?n_int ?n_isinstance ?n_len ?n_list ?n_min ?n_range ?n_str ?n_tuple ?n_zip ?i_gcd
    (case a0 => k_is)
    (case l0 => k_is)
    (case c0 => k_is)
    (case k0 => k_is)
    (case a1 => k_is)
    (case l1 => k_is)
    (case c1 => k_is)
    (case k1 => k_is)
    (case a2 => k_is)
    (case l2 => k_is)
    (case c2 => k_is)
    (case k2 => k_is)
    (case a3 => k_is)
    (case l3 => k_is)
    (case c3 => k_is)
    (case k3 => k_is)
    (case a4 => k_is)
    (case l4 => k_is)
    (case c4 => k_is)
    (case k4 => k_is)
    (case a5 => k_is)
    (case l5 => k_is)
    (case c5 => k_is)
    (case k5 => k_is)
    (case a6 => k_is)
    (case l6 => k_is)
    (case c6 => k_is)
    (case k6 => k_is)
    (case a7 => k_is)
    (case l7 => k_is)
    (case c7 => k_is)
    (case k7 => k_is)
    (case a8 => k_is)
    (case l8 => k_is)
    (case c8 => k_is)
    (case k8 => k_is)
    (case a9 => k_is)
    (case l9 => k_is)
    (case c9 => k_is)
    (case k9 => k_is)
    (case a10 => k_is)
    (case l10 => k_is)
    (case c10 => k_is)
    (case k10 => k_is)
    (case a11 => k_is)
    (case l11 => k_is)
    (case c11 => k_is)
    (case k11 => k_is)
    (case a12 => k_is)
    (case l12 => k_is)
    (case c12 => k_is)
    (case k12 => k_is)
    (case a13 => k_is)
    (case l13 => k_is)
    (case c13 => k_is)
    (case k13 => k_is)
    (case a14 => k_is)
    (case l14 => k_is)
    (case c14 => k_is)
    (case k14 => k_is)
    (case a15 => k_is)
    (case l15 => k_is)
    (case c15 => k_is)
    (case k15 => k_is)
    (case a16 => k_is)
    (case l16 => k_is)
    (case c16 => k_is)
    (case k16 => k_is)
    (case a17 => k_is)
    (case l17 => k_is)
    (case c17 => k_is)
    (case k17 => k_is)
    (case a18 => k_is)
    (case l18 => k_is)
    (case c18 => k_is)
    (case k18 => k_is)
    (case a19 => k_is)
    (case l19 => k_is)
    (case c19 => k_is)
    (case k19 => k_is)
    (case a20 => k_is)
    (case l20 => k_is)
    (case c20 => k_is)
    (case k20 => k_is)
    (case a21 => k_is)
    (case l21 => k_is)
    (case c21 => k_is)
    (case k21 => k_is)
    (case a22 => k_is)
    (case l22 => k_is)
    (case c22 => k_is)
    (case k22 => k_is)
    (case a23 => k_is)
    (case l23 => k_is)
    (case c23 => k_is)
    (case k23 => k_is)
    (case a24 => k_is)
    (case l24 => k_is)
    (case c24 => k_is)
    (case k24 => k_is)
    (case a25 => k_is)
    (case l25 => k_is)
    (case c25 => k_is)
    (case k25 => k_is)
    (case a26 => k_is)
    (case l26 => k_is)
    (case c26 => k_is)
    (case k26 => k_is)
    (case a27 => k_is)
    (case l27 => k_is)
    (case c27 => k_is)
    (case k27 => k_is)
    (case a28 => k_is)
    (case l28 => k_is)
    (case c28 => k_is)
    (case k28 => k_is)
    (case a29 => k_is)
    (case l29 => k_is)
    (case c29 => k_is)
    (case k29 => k_is)
    (case a30 => k_is)
    (case l30 => k_is)
    (case c30 => k_is)
    (case k30 => k_is)
    (case a31 => k_is)
    (case l31 => k_is)
    (case c31 => k_is)
    (case k31 => k_is)
    (case a32 => k_is)
    (case l32 => k_is)
    (case c32 => k_is)
    (case k32 => k_is)
    (case a33 => k_is)
    (case l33 => k_is)
    (case c33 => k_is)
    (case k33 => k_is)
    (case cg0 => k_is)
    (case cg1 => k_is)
    (case cg2 => k_is)
    (case cg3 => k_is)
    (case xc3 => k_is)
    (case xm3 => decide +kernel)
    (case xs3 => k_is)
    (case xe3 => k_is)
    (case xt3 => k_is)
    (case xk3 => k_is)
    (case ii3 => k_is)
    (case it3 => k_is)
    (case il3 => k_is)
    (case ic3 => k_is)
    (case ik3 => k_is)
    (case xga3 => k_is)
    (case xgg3 => k_is)
    (case xhd3 => k_is)
    (case xcl3 => k_is)
    (case xhn3 => k_is)
    (case xht3 => k_is)
    (case xhm3 => k_is)
    (case xss3 => first | rfl | k_is)
    (case no3_at => k_is)
    (case no3_word => k_is)
    (case kt3_LedError => first | kit_is | k_is | rfl)
    (case kt3_PaperError => first | kit_is | k_is | rfl)
    (case kt3_ValueError => first | kit_is | k_is | rfl)
    (case kt3_WebError => first | kit_is | k_is | rfl)
    (case n_ValueError => k_is)
    (case n_abs => k_is)
    (case n_all => k_is)
    (case n_bool => k_is)
    (case n_enumerate => k_is)
    (case n_int => k_is)
    (case n_isinstance => k_is)
    (case n_len => k_is)
    (case n_list => k_is)
    (case n_min => k_is)
    (case n_range => k_is)
    (case n_str => k_is)
    (case n_tuple => k_is)
    (case n_zip => k_is)
    (case i_gcd => k_is)
