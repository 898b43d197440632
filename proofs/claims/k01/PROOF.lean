import PyProof.Rows.All
import HandS.ForMost
import HandS.ForExc
import HandS.Zip
import HandS.Walk
import HandS.IsInst
import HandS.Gcd
import HandS.Wide
import HandS.TupAny
import HandS.Style
import HandS.ExcInit
import HandS.ExcField
import HandS.ExcIs
import HandS.ExcCtx
import HandS.HotCalls
import HandS.ExcInitHot
import KE.GoesMore
import KE.GoesEnum
import HandS.Strs
import KE.KExcIs
import HandS.DictComp
import HandS.Star
import HandS.SetFor
import HandS.SortInts
import HandS.Flt
import HandS.Conv
import HandS.SetKeys
import PySem.Challenge.RW_howeverled_k01_whole_quotients_and_joini
section
set_option Elab.async false
set_option linter.all false
set_option autoImplicit false
set_option maxRecDepth 100000
/-! TL: expressions and statements over plain data: lists that one name owns are changed, all else is a value. -/
namespace TL
open PySem PySem.Spec PyProof.Rows L2

abbrev T := PyData
/-- a result: a value, or a new list that nobody else holds -/
inductive RV where
  | val (t : T) | own (ts : List T)
def RV.tree : RV → T
  | .val t => t
  | .own ts => .list ts
abbrev En := List (Option RV)
structure Exn where
  cls : Str
  fs : List (Str × T)
inductive Res (α : Type) where
  | ok (a : α) (e : En) | exc (x : Exn) (e : En) | bad

def Ex (H H' : Hp) : Prop := ∀ a o, H a = some o → H' a = some o
theorem Ex.refl (H : Hp) : Ex H H := fun _ _ h => h
theorem Ex.trans {H H1 H2 : Hp} (a : Ex H H1) (b : Ex H1 H2) : Ex H H2 := fun x o h => b x o (a x o h)
theorem Ex.new {H : Hp} {p : Addr} {o : HO} (h : H p = none) : Ex H (upd H p o) := fun a u e => by
  rw [upd_ne (ne_of_none e h)]
  exact e
theorem Ex.mut {H H' : Hp} {p : Addr} {o : HO} (e : Ex H H') (h : H p = none) : Ex H (upd H' p o) := fun a u ha => by
  rw [upd_ne (ne_of_none ha h)]
  exact e a u ha
theorem Ex.both {H H' : Hp} {p : Addr} {o : HO} (e : Ex H H') : Ex (upd H p o) (upd H' p o) := fun a u ha => by
  by_cases h : a = p
  · subst h
    rw [upd_same] at ha ⊢
    exact ha
  · rw [upd_ne h] at ha ⊢
    exact e a u ha
theorem Ex.back {H H' : Hp} {p : Addr} (e : Ex H H') (h : H' p = none) : H p = none := by
  cases h1 : H p with
  | none => rfl
  | some o => rw [e p o h1] at h; cases h
theorem ex_rd {H H' : Hp} {a : Addr} {u : HO} (e : Ex H H') (h : Rd H a u) : Rd H' a u := by
  rcases h with h | ⟨o, h⟩
  · exact Or.inl (e a _ h)
  · exact Or.inr ⟨o, e a _ h⟩
theorem ex_l {K : PySem.W.Frag} {H H' : Hp} {a : Addr} {xs : List V} (e : Ex H H') (h : SqL K H a xs) : SqL K H' a xs := by
  rcases h with h | h
  · exact Or.inl (ex_rd e h)
  · exact Or.inr h
theorem ex_t {K : PySem.W.Frag} {H H' : Hp} {a : Addr} {xs : List V} (e : Ex H H') (h : SqT K H a xs) : SqT K H' a xs := by
  rcases h with h | h
  · exact Or.inl (ex_rd e h)
  · exact Or.inr h
/-- a tuple that is known to its object, which bears no dict of its own -/
def Bare1 (o : Obj) : Prop := o.cls = .type "tuple" ∧ o.dict = none
def SqX (K : PySem.W.Frag) (H : Hp) (a : Addr) (xs : List V) : Prop := (∃ o, H a = some (.frz o (.tup xs)) ∧ Bare1 o) ∨
  ∃ (o : Obj) (its : Array Value) (n : Nat), K.lookup a = some o ∧ Bare1 o ∧ o.data = .seq its n ∧ its.size ≤ sizeLine ∧ Vals xs its.toList
theorem SqX.t {K : PySem.W.Frag} {H : Hp} {a : Addr} {xs : List V} (h : SqX K H a xs) : SqT K H a xs := by
  rcases h with ⟨o, h, _⟩ | ⟨o, its, n, h1, h2, h3, h4, h5⟩
  · exact .inl (.inr ⟨o, h⟩)
  · exact .inr ⟨o, its, n, h1, h2.1, h3, h4, h5⟩
theorem ex_x {K : PySem.W.Frag} {H H' : Hp} {a : Addr} {xs : List V} (e : Ex H H') (h : SqX K H a xs) : SqX K H' a xs := by
  rcases h with ⟨o, h, b⟩ | h
  · exact .inl ⟨o, e a _ h, b⟩
  · exact .inr h
/-! ### what stands for which data: a list that is tracked, a tuple, the script and a loop's pair (as a dict's items) -/
mutual
inductive Dq (K : PySem.W.Frag) (H : Hp) : V → PyData → Prop
  | non : Dq K H .non .none
  | bl (b : Bool) : Dq K H (.bl b) (.bool b)
  | int (i : Int) : Dq K H (.int i) (.int i)
  | str (x : Str) : Dq K H (.str x) (.str x)
  | lst {a : Addr} {xs : List V} {ds : List PyData} : Rd H a (.lst xs) → DqAll K H xs ds → Dq K H (.ref a) (.list ds)
  | tup {a : Addr} {xs : List V} {ds : List PyData} : SqX K H a xs → DqAll K H xs ds → Dq K H (.ref a) (.tuple ds)
  | prs {a : Addr} {x y : V} {d e : PyData} : SqT K H a [x, y] → Dq K H x d → Dq K H y e → Dq K H (.ref a) (.dict [(d, e), (.bool true, .none)])
  | scr {a : Addr} {ns : List Int} : SqL K H a (ns.map V.int) → Dq K H (.ref a) (.dict (ns.map fun n => (.int n, .none)))
  | exn {a dx : Addr} {gs : List (Str × V)} {fs : List (Str × PyData)} : H dx = some (.xd gs) → gs.map (·.1) = fs.map (·.1) → DqAll K H (gs.map (·.2)) (fs.map (·.2)) → Dq K H (.ref a) (.dict ((.str "exn", .int (a : Nat)) :: (.int (dx : Nat), .none) :: fs.map fun p => (.str p.1, p.2)))
inductive DqAll (K : PySem.W.Frag) (H : Hp) : List V → List PyData → Prop
  | nil : DqAll K H [] []
  | cons {v : V} {vs : List V} {d : PyData} {ds : List PyData} : Dq K H v d → DqAll K H vs ds → DqAll K H (v :: vs) (d :: ds)
end
mutual
def noDict : PyData → Bool
  | .dict _ => false
  | .list xs => noDicts xs
  | .tuple xs => noDicts xs
  | _ => true
def noDicts : List PyData → Bool
  | [] => true
  | x :: xs => noDict x && noDicts xs
end
mutual
theorem dq_dp {K : PySem.W.Frag} {H : Hp} : ∀ (d : T) (v : V), noDict d = true → Dq K H v d → Dp K H v d
  | .none, _, _, h => by cases h; exact .non
  | .bool _, _, _, h => by cases h; exact .bl _
  | .int _, _, _, h => by cases h; exact .int _
  | .str _, _, _, h => by cases h; exact .str _
  | .list ds, _, n, h => by
    cases h with
    | lst hs ha => exact .lst (Or.inl hs) (dqs_dp ds _ n ha)
  | .tuple ds, _, n, h => by
    cases h with
    | tup hs ha => exact .tup hs.t (dqs_dp ds _ n ha)
  | .dict _, _, n, h => by cases n
theorem dqs_dp {K : PySem.W.Frag} {H : Hp} : ∀ (ds : List T) (vs : List V), noDicts ds = true → DqAll K H vs ds → DpAll K H vs ds
  | [], _, _, h => by cases h; exact .nil
  | d :: ds, _, n, h => by
    have n' : (noDict d && noDicts ds) = true := n
    rw [Bool.and_eq_true] at n'
    cases h with
    | cons h1 h2 => exact .cons (dq_dp d _ n'.1 h1) (dqs_dp ds _ n'.2 h2)
end
mutual
theorem Dq.ex {K : PySem.W.Frag} {H H' : Hp} (e : Ex H H') : ∀ {d : T} {v : V}, Dq K H v d → Dq K H' v d
  | _, _, .non => .non
  | _, _, .bl b => .bl b
  | _, _, .int i => .int i
  | _, _, .str x => .str x
  | _, _, .lst hs ha => .lst (ex_rd e hs) (DqAll.ex e ha)
  | _, _, .tup hs ha => .tup (ex_x e hs) (DqAll.ex e ha)
  | _, _, .prs hs h1 h2 => .prs (ex_t e hs) (Dq.ex e h1) (Dq.ex e h2)
  | _, _, .scr hs => .scr (ex_l e hs)
  | _, _, .exn h1 h2 h3 => .exn (e _ _ h1) h2 (DqAll.ex e h3)
theorem DqAll.ex {K : PySem.W.Frag} {H H' : Hp} (e : Ex H H') : ∀ {ds : List T} {vs : List V}, DqAll K H vs ds → DqAll K H' vs ds
  | _, _, .nil => .nil
  | _, _, .cons h1 h2 => .cons (Dq.ex e h1) (DqAll.ex e h2)
end
theorem dq_ex {K : PySem.W.Frag} {H H' : Hp} (e : Ex H H') (d : T) (v : V) (h : Dq K H v d) : Dq K H' v d := h.ex e
theorem dqs_ex {K : PySem.W.Frag} {H H' : Hp} (e : Ex H H') (ds : List T) (vs : List V) (h : DqAll K H vs ds) : DqAll K H' vs ds := h.ex e
theorem DqAll.len {K : PySem.W.Frag} {H : Hp} : ∀ {vs : List V} {ds : List T}, DqAll K H vs ds → vs.length = ds.length
  | _, [], h => by cases h; rfl
  | _, d :: ds, h => by
    cases h with
    | cons h1 h2 => rw [List.length_cons, List.length_cons, DqAll.len h2]
theorem DqAll.get {K : PySem.W.Frag} {H : Hp} : ∀ {vs : List V} {ds : List T} {i : Nat} {d : T}, DqAll K H vs ds → ds[i]? = some d → ∃ v, vs[i]? = some v ∧ Dq K H v d
  | _, [], _, _, _, e => by simp at e
  | _, d :: ds, 0, _, h, e => by
    cases h with
    | cons h1 h2 =>
      simp at e
      subst e
      exact ⟨_, rfl, h1⟩
  | _, d :: ds, i + 1, _, h, e => by
    cases h with
    | cons h1 h2 =>
      obtain ⟨v, e1, e2⟩ := DqAll.get (i := i) h2 (by simpa using e)
      exact ⟨v, by simpa using e1, e2⟩
theorem DqAll.getV {K : PySem.W.Frag} {H : Hp} {vs : List V} {ds : List T} {i : Nat} {v : V} (h : DqAll K H vs ds) (e : vs[i]? = some v) : ∃ d, ds[i]? = some d ∧ Dq K H v d := by
  have hi := (List.getElem?_eq_some_iff.mp e).1
  have hl := h.len
  have hd : ds[i]? = some (ds[i]'(by omega)) := List.getElem?_eq_getElem (by omega)
  obtain ⟨w, e1, e2⟩ := h.get hd
  rw [e] at e1
  cases e1
  exact ⟨_, hd, e2⟩
theorem DqAll.app {K : PySem.W.Frag} {H : Hp} : ∀ {vs ws : List V} {ds es : List T}, DqAll K H vs ds → DqAll K H ws es → DqAll K H (vs ++ ws) (ds ++ es)
  | _, _, [], _, h, h' => by cases h; exact h'
  | _, _, d :: ds, _, h, h' => by
    cases h with
    | cons h1 h2 => exact .cons h1 (DqAll.app h2 h')
theorem DqAll.one {K : PySem.W.Frag} {H : Hp} {v : V} {d : T} (h : Dq K H v d) : DqAll K H [v] [d] := .cons h .nil
theorem DqAll.of {K : PySem.W.Frag} {H : Hp} : ∀ {vs : List V} {ds : List T}, vs.length = ds.length → (∀ (i : Nat) v d, vs[i]? = some v → ds[i]? = some d → Dq K H v d) → DqAll K H vs ds
  | [], [], _, _ => .nil
  | [], _ :: _, h, _ => by simp at h
  | _ :: _, [], h, _ => by simp at h
  | v :: vs, d :: ds, h, f => .cons (f 0 v d rfl rfl) (DqAll.of (by simpa using h) fun i v' d' e1 e2 => f (i + 1) v' d' (by simpa using e1) (by simpa using e2))
theorem DqAll.take {K : PySem.W.Frag} {H : Hp} {vs : List V} {ds : List T} (n : Nat) (h : DqAll K H vs ds) : DqAll K H (vs.take n) (ds.take n) :=
  DqAll.of (by rw [List.length_take, List.length_take, h.len]) fun (i : Nat) v d e1 e2 => by
    rw [List.getElem?_take] at e1 e2
    split at e1
    · obtain ⟨d', e3, e4⟩ := h.getV e1
      rw [if_pos (by assumption), e3] at e2
      cases e2
      exact e4
    · cases e1
theorem DqAll.drop {K : PySem.W.Frag} {H : Hp} {vs : List V} {ds : List T} (n : Nat) (h : DqAll K H vs ds) : DqAll K H (vs.drop n) (ds.drop n) :=
  DqAll.of (by rw [List.length_drop, List.length_drop, h.len]) fun (i : Nat) v d e1 e2 => by
    rw [List.getElem?_drop] at e1 e2
    obtain ⟨d', e3, e4⟩ := h.getV e1
    rw [e3] at e2
    cases e2
    exact e4
theorem DqAll.rev {K : PySem.W.Frag} {H : Hp} : ∀ {vs : List V} {ds : List T}, DqAll K H vs ds → DqAll K H vs.reverse ds.reverse
  | _, [], h => by cases h; exact .nil
  | _, d :: ds, h => by
    cases h with
    | cons h1 h2 =>
      rw [List.reverse_cons, List.reverse_cons]
      exact (DqAll.rev h2).app (.one h1)
theorem DqAll.set {K : PySem.W.Frag} {H : Hp} {v : V} {d : T} (r : Dq K H v d) : ∀ {vs : List V} {ds : List T} (i : Nat), DqAll K H vs ds → DqAll K H (vs.set i v) (ds.set i d)
  | _, [], _, h => by cases h; exact .nil
  | _, _ :: _, 0, h => by
    cases h with
    | cons h1 h2 => exact .cons r h2
  | _, _ :: ds, i + 1, h => by
    cases h with
    | cons h1 h2 => exact .cons h1 (DqAll.set r i h2)

/-! ### the state -/
/-- F: what must stay; B: what is laid down for good; H: the heap -/
def EntOk (K : PySem.W.Frag) (F B H : Hp) (v : V) : RV → Prop
  | .val t => Dq K B v t
  | .own ts => ∃ a xs, v = .ref a ∧ F a = none ∧ B a = none ∧ H a = some (.lst xs) ∧ DqAll K B xs ts
structure Sta (K : PySem.W.Frag) (F B H : Hp) (σ : L2.St) (e : En) : Prop where
  fh : Ex F H
  bh : Ex B H
  ent : ∀ (i : Nat) (r : RV), e[i]? = some (some r) → ∃ v, σ[i]? = some (some v) ∧ EntOk K F B H v r
  ln : e.length ≤ σ.length
  dj : ∀ (i j : Nat) (v : V) (ts us : List T), e[i]? = some (some (.own ts)) → e[j]? = some (some (.own us)) → σ[i]? = some (some v) → σ[j]? = some (some v) → i = j
/-- more is laid down, nothing that must stay -/
structure Grow (F B B' : Hp) : Prop where
  ex : Ex B B'
  new : ∀ a, B a = none → B' a ≠ none → F a = none
theorem Grow.refl {F B : Hp} : Grow F B B := ⟨Ex.refl B, fun a h h' => absurd h h'⟩
theorem Grow.trans {F B B1 B2 : Hp} (a : Grow F B B1) (b : Grow F B1 B2) : Grow F B B2 :=
  ⟨a.ex.trans b.ex, fun x h h' => by
    cases h1 : B1 x with
    | none => exact b.new x h1 h'
    | some o => exact a.new x h (by rw [h1]; exact fun z => nomatch z)⟩
theorem Grow.none {F B B' : Hp} (g : Grow F B B') {a : Addr} {o : HO} (hb : B a = none) (hf : F a = some o) : B' a = none := by
  cases h : B' a with
  | none => rfl
  | some u =>
    have := g.new a hb (by rw [h]; exact fun z => nomatch z)
    rw [hf] at this
    cases this
def RvOk (K : PySem.W.Frag) (F B H : Hp) (σ : L2.St) (e : En) (v : V) (r : RV) : Prop :=
  EntOk K F B H v r ∧ ∀ ts, r = .own ts → ∀ (i : Nat) us, e[i]? = some (some (.own us)) → σ[i]? ≠ some (some v)
/-- only new objects came -/
structure News (B H B' H' : Hp) : Prop where
  ex : Ex B B'
  bh : Ex B' H'
  hh : Ex H H'
  new : ∀ a, B a = none → B' a ≠ none → H a = none
theorem News.refl {B H : Hp} (h : Ex B H) : News B H B H := ⟨Ex.refl B, h, Ex.refl H, fun a h h' => absurd h h'⟩
theorem News.trans {B H B1 H1 B2 H2 : Hp} (a : News B H B1 H1) (b : News B1 H1 B2 H2) : News B H B2 H2 :=
  ⟨a.ex.trans b.ex, b.bh, a.hh.trans b.hh, fun x h h' => by
    cases h1 : B1 x with
    | none => exact a.hh.back (b.new x h1 h')
    | some o => exact a.new x h (by rw [h1]; exact fun z => nomatch z)⟩
/-- a new object that is laid down -/
theorem News.lay {B H : Hp} {p : Addr} {o : HO} (h : Ex B H) (hp : H p = none) : News B H (upd B p o) (upd H p o) :=
  ⟨Ex.new (h.back hp), h.both, Ex.new hp, fun a h1 h2 => by
    by_cases e : a = p
    · rw [e]; exact hp
    · rw [upd_ne e] at h2; exact absurd h1 h2⟩
/-- a new object that is not laid down -/
theorem News.lone {B H : Hp} {p : Addr} {o : HO} (h : Ex B H) (hp : H p = none) : News B H B (upd H p o) :=
  ⟨Ex.refl B, h.trans (Ex.new hp), Ex.new hp, fun a h1 h2 => absurd h1 h2⟩
theorem News.grow {F B H B' H' : Hp} (n : News B H B' H') (f : Ex F H) : Grow F B B' := ⟨n.ex, fun a h h' => f.back (n.new a h h')⟩
theorem EntOk.news {K : PySem.W.Frag} {F B H B' H' : Hp} {v : V} {r : RV} (n : News B H B' H') (h : EntOk K F B H v r) : EntOk K F B' H' v r := by
  cases r with
  | val t => exact dq_ex n.ex _ _ h
  | own ts =>
    obtain ⟨a, xs, e, hf, hb, hh, hd⟩ := h
    refine ⟨a, xs, e, hf, ?_, n.hh a _ hh, dqs_ex n.ex _ _ hd⟩
    cases h1 : B' a with
    | none => rfl
    | some o =>
      have := n.new a hb (by rw [h1]; exact fun z => nomatch z)
      rw [hh] at this
      cases this
theorem Sta.news {K : PySem.W.Frag} {F B H B' H' : Hp} {σ : L2.St} {e : En} (s : Sta K F B H σ e) (n : News B H B' H') : Sta K F B' H' σ e :=
  ⟨s.fh.trans n.hh, n.bh, fun i r h => let ⟨v, h1, h2⟩ := s.ent i r h; ⟨v, h1, h2.news n⟩, s.ln, s.dj⟩
/-- an own list is laid down -/
theorem Sta.freeze {K : PySem.W.Frag} {F B H : Hp} {σ : L2.St} {e : En} {a : Addr} {xs : List V} {ts : List T} (s : Sta K F B H σ e) (r : RvOk K F B H σ e (.ref a) (.own ts)) (hh : H a = some (.lst xs)) :
    Sta K F (upd B a (.lst xs)) H σ e ∧ Grow F B (upd B a (.lst xs)) ∧ Dq K (upd B a (.lst xs)) (.ref a) (.list ts) := by
  obtain ⟨⟨a', xs', e', hf, hb, hh', hd⟩, hn⟩ := r
  cases e'
  rw [hh] at hh'
  cases hh'
  have ex : Ex B (upd B a (.lst xs)) := Ex.new hb
  refine ⟨⟨s.fh, fun b o q => ?_, fun i r h => ?_, s.ln, s.dj⟩, ⟨ex, fun b h1 h2 => ?_⟩, .lst (Or.inl upd_same) (dqs_ex ex _ _ hd)⟩
  · by_cases hba : b = a
    · subst hba
      rw [upd_same] at q
      cases q
      exact hh
    · rw [upd_ne hba] at q
      exact s.bh b o q
  · obtain ⟨v, h1, h2⟩ := s.ent i r h
    refine ⟨v, h1, ?_⟩
    cases r with
    | val t => exact dq_ex ex _ _ h2
    | own us =>
      obtain ⟨b, ys, ev, gf, gb, gh, gd⟩ := h2
      subst ev
      refine ⟨b, ys, rfl, gf, ?_, gh, dqs_ex ex _ _ gd⟩
      have hne : b ≠ a := fun z => by
        subst z
        exact hn ts rfl i us h h1
      rw [upd_ne hne]
      exact gb
  · by_cases hba : b = a
    · subst hba
      exact hf
    · rw [upd_ne hba] at h2
      exact absurd h1 h2
end TL
end
section
set_option Elab.async false
set_option linter.all false
set_option autoImplicit false
set_option maxRecDepth 100000
namespace TL
open PySem PySem.Spec PyProof.Rows L2

def Res.bind {α β : Type} (r : Res α) (f : α → En → Res β) : Res β := match r with
  | .ok a e => f a e
  | .exc x e => .exc x e
  | .bad => .bad
/-- what is known of an exception: its class by name, its fields -/
def XOk (K : PySem.W.Frag) (mg : Str → Option Value) (B _H : Hp) (x : Exn) (c : Value) (d : Option Addr) : Prop :=
  ∃ (C dx : Addr) (gs : List (Str × V)), mg x.cls = some (.ref C) ∧ c = .ref C ∧ d = some dx ∧ B dx = some (.xd gs) ∧ gs.map (·.1) = x.fs.map (·.1) ∧ DqAll K B (gs.map (·.2)) (x.fs.map (·.2))
def Post (K : PySem.W.Frag) (mg : Str → Option Value) (W : WX) (F B : Hp) (σ : L2.St) {α : Type} (R : Hp → Hp → En → α → Prop) : Res α → Prop
  | .ok a e' => ∀ B' H', Sta K F B' H' σ e' → Grow F B B' → R B' H' e' a
  | .exc x e' => ∀ c d B' H', Sta K F B' H' σ e' → Grow F B B' → XOk K mg B' H' x c d → W c d σ H'
  | .bad => False
section
variable {K : PySem.W.Frag} {mg : Str → Option Value} {W : WX} {F B B1 H : Hp} {σ : L2.St} {α β : Type} {e : En}
theorem Post.up {R : Hp → Hp → En → α → Prop} {r : Res α} (h : Post K mg W F B σ R r) (g : Grow F B B1) : Post K mg W F B1 σ R r := by
  cases r with
  | ok a e' => exact fun B' H' s g' => h B' H' s (g.trans g')
  | exc x e' => exact fun c d B' H' s g' x => h c d B' H' s (g.trans g') x
  | bad => exact h
theorem Post.mono {R R' : Hp → Hp → En → α → Prop} {r : Res α} (h : Post K mg W F B σ R r) (f : ∀ B' H' e' a, Sta K F B' H' σ e' → Grow F B B' → R B' H' e' a → R' B' H' e' a) : Post K mg W F B σ R' r := by
  cases r with
  | ok a e' => exact fun B' H' s g' => f B' H' e' a s g' (h B' H' s g')
  | exc x e' => exact h
  | bad => exact h
theorem Post.unbind {R : Hp → Hp → En → β → Prop} {r : Res α} {f : α → En → Res β} (h : Post K mg W F B σ R (r.bind f)) : Post K mg W F B σ (fun B1 _ e1 a => Post K mg W F B1 σ R (f a e1)) r := by
  cases r with
  | ok a e' => exact fun B' H' s g' => Post.up (R := R) (r := f a e') h g'
  | exc x e' => exact h
  | bad => exact h
end

abbrev Mv := En → Res RV
abbrev Mt := En → Res T
abbrev Ml := En → Res (List T)
abbrev Mb := En → Res Bool
section
variable (K : PySem.W.Frag) (mg : Str → Option Value) (W : WX)
/-- an expression does as m says | the same, a new list laid down | arguments | a test -/
def tV (m : Mv) : TE := fun σ H Q => ∃ F B e, Sta K F B H σ e ∧ Post K mg W F B σ (fun B' H' e' r => ∀ v, RvOk K F B' H' σ e' v r → Q v H') (m e)
def tT (m : Mt) : TE := fun σ H Q => ∃ F B e, Sta K F B H σ e ∧ Post K mg W F B σ (fun B' H' e' t => ∀ v, Dq K B' v t → Q v H') (m e)
def tL (m : Ml) : TA := fun σ H Q => ∃ F B e, Sta K F B H σ e ∧ Post K mg W F B σ (fun B' H' e' ts => ∀ vs, DqAll K B' vs ts → Q vs H') (m e)
def tO (m : Mb) : TT := fun σ H Q => ∃ F B e, Sta K F B H σ e ∧ Post K mg W F B σ (fun B' H' e' b => Q b H') (m e)
end
theorem PE.imp {X : Cx} {e : Expr} {t t' : TE} (h : PE X e t) (f : ∀ σ H Q, t' σ H Q → t σ H Q) : PE X e t' := ⟨fun pins s σ H Q I q => h.run pins s σ H Q I (f σ H Q q)⟩
theorem PT.imp {X : Cx} {e : Expr} {t t' : TT} (h : PT X e t) (f : ∀ σ H Q, t' σ H Q → t σ H Q) : PT X e t' := ⟨fun pins s σ H Q I q => h.run pins s σ H Q I (f σ H Q q)⟩
theorem PA.imp {X : Cx} {es : List Expr} {t t' : TA} (h : PA X es t) (f : ∀ σ H Q, t' σ H Q → t σ H Q) : PA X es t' := ⟨fun pos pins s σ H Q I q => h.run pos pins s σ H Q I (f σ H Q q)⟩
theorem PS.imp {X : Cx} {st : Stmt} {t t' : TS} (h : PS X st t) (f : ∀ D σ H, t' D σ H → t D σ H) : PS X st t' := ⟨fun pins s σ H D I q => h.run pins s σ H D I (f D σ H q)⟩
theorem PSs.imp {X : Cx} {st : List Stmt} {t t' : TS} (h : PSs X st t) (f : ∀ D σ H, t' D σ H → t D σ H) : PSs X st t' := ⟨fun pins s σ H D I q => h.run pins s σ H D I (f D σ H q)⟩

/-! ### laying down -/
def mTree (m : Mv) : Mt := fun e => (m e).bind fun r e1 => .ok r.tree e1
theorem Sta.lay {K : PySem.W.Frag} {F B H : Hp} {σ : L2.St} {e : En} {v : V} {r : RV} (s : Sta K F B H σ e) (o : RvOk K F B H σ e v r) : ∃ B', Sta K F B' H σ e ∧ Grow F B B' ∧ Dq K B' v r.tree := by
  cases r with
  | val t => exact ⟨B, s, .refl, o.1⟩
  | own ts =>
    obtain ⟨a, xs, rfl, hf, hb, hh, hd⟩ := id o.1
    obtain ⟨s', g, d⟩ := s.freeze o hh
    exact ⟨_, s', g, d⟩
section
variable {X : Cx} {W : WX} {a b c : Expr} {pos : Pos}
theorem x_tree {m : Mv} (h : PE X a (tV X.K X.mg W m)) : PE X a (tT X.K X.mg W (mTree m)) := PE.imp h fun σ H Q q => by
  obtain ⟨F, B, e, s, p⟩ := q
  refine ⟨F, B, e, s, (Post.unbind p).mono fun B' H' e' r s' g p' v o => ?_⟩
  obtain ⟨B2, s2, g2, d⟩ := s'.lay o
  exact p' B2 H' s2 g2 v d
def mVal (m : Mt) : Mv := fun e => (m e).bind fun t e1 => .ok (.val t) e1
theorem x_val {m : Mt} (h : PE X a (tT X.K X.mg W m)) : PE X a (tV X.K X.mg W (mVal m)) := PE.imp h fun σ H Q q => by
  obtain ⟨F, B, e, s, p⟩ := q
  refine ⟨F, B, e, s, (Post.unbind p).mono fun B' H' e' t s' g p' v o => ?_⟩
  exact p' B' H' s' .refl v ⟨o, fun ts z => nomatch z⟩

/-! ### names and constants -/
def mVar (i : Nat) : Mt := fun e => match e[i]? with
  | some (some (.val t)) => .ok t e
  | some (some (.own ts)) => .ok (.list ts) (e.set i (some (.val (.list ts))))
  | _ => .bad
theorem Sta.set {K : PySem.W.Frag} {F B H : Hp} {σ : L2.St} {e : En} {i : Nat} {v : V} {t : T} (s : Sta K F B H σ e) (hv : σ[i]? = some (some v)) (d : Dq K B v t) : Sta K F B H σ (e.set i (some (.val t))) :=
  ⟨s.fh, s.bh, fun j r h => by
    by_cases hj : i = j
    · subst hj
      by_cases hl : i < e.length
      · rw [List.getElem?_set_self hl] at h
        cases h
        exact ⟨v, hv, d⟩
      · rw [List.getElem?_eq_none (by simpa using hl)] at h
        cases h
    · rw [List.getElem?_set_ne hj] at h
      exact s.ent j r h, by rw [List.length_set]; exact s.ln, fun j k v ts us h1 h2 => by
    by_cases hj : i = j
    · subst hj
      by_cases hl : i < e.length
      · rw [List.getElem?_set_self hl] at h1
        cases h1
      · rw [List.getElem?_eq_none (by simpa using hl)] at h1
        cases h1
    · by_cases hk : i = k
      · subst hk
        by_cases hl : i < e.length
        · rw [List.getElem?_set_self hl] at h2
          cases h2
        · rw [List.getElem?_eq_none (by simpa using hl)] at h2
          cases h2
      · rw [List.getElem?_set_ne hj] at h1
        rw [List.getElem?_set_ne hk] at h2
        exact s.dj j k v ts us h1 h2⟩
theorem x_var {i : Nat} {x : Str} (hN : X.N[i]? = some x) (hv : Vis X.env.scope x) (hd : (x == ("__debug__" : Str)) = false := by decide) (hcd : (x == ("__classdict__" : Str)) = false := by decide) :
    PE X (.Name x pos) (tT X.K X.mg W (mVar i)) := PE.imp (pe_var hN hv hd hcd) fun σ H Q q => by
  obtain ⟨F, B, e, s, p⟩ := q
  unfold mVar at p
  cases he : e[i]? with
  | none => rw [he] at p; exact p.elim
  | some o =>
    cases o with
    | none => rw [he] at p; exact p.elim
    | some r =>
      obtain ⟨v, h1, h2⟩ := s.ent i r he
      cases r with
      | val t =>
        rw [he] at p
        exact ⟨v, h1, p B H s .refl v h2⟩
      | own ts =>
        rw [he] at p
        obtain ⟨a, xs, rfl, hf, hb, hh, hd⟩ := h2
        have hi := (List.getElem?_eq_some_iff.mp he).1
        have ex : Ex B (upd B a (.lst xs)) := Ex.new hb
        have dl : Dq X.K (upd B a (.lst xs)) (.ref a) (.list ts) := .lst (.inl upd_same) (dqs_ex ex _ _ hd)
        have s2 : Sta X.K F (upd B a (.lst xs)) H σ (e.set i (some (.val (.list ts)))) := by
          refine ⟨s.fh, fun b o q => ?_, fun j r h => ?_, by rw [List.length_set]; exact s.ln, fun j k v ts us h3 h4 => ?_⟩
          · by_cases hba : b = a
            · subst hba
              rw [upd_same] at q
              cases q
              exact hh
            · rw [upd_ne hba] at q
              exact s.bh b o q
          · by_cases hj : i = j
            · subst hj
              rw [List.getElem?_set_self hi] at h
              cases h
              exact ⟨_, h1, dl⟩
            · rw [List.getElem?_set_ne hj] at h
              obtain ⟨v, h3, h4⟩ := s.ent j r h
              refine ⟨v, h3, ?_⟩
              cases r with
              | val t => exact dq_ex ex _ _ h4
              | own us =>
                obtain ⟨b, ys, rfl, gf, gb, gh, gd⟩ := h4
                refine ⟨b, ys, rfl, gf, ?_, gh, dqs_ex ex _ _ gd⟩
                have hne : b ≠ a := fun z => by
                  subst z
                  exact hj (s.dj i j _ _ _ he h h1 h3)
                rw [upd_ne hne]
                exact gb
          · by_cases hj : i = j
            · subst hj
              rw [List.getElem?_set_self hi] at h3
              cases h3
            · by_cases hk : i = k
              · subst hk
                rw [List.getElem?_set_self hi] at h4
                cases h4
              · rw [List.getElem?_set_ne hj] at h3
                rw [List.getElem?_set_ne hk] at h4
                exact s.dj j k v ts us h3 h4
        refine ⟨_, h1, p _ _ s2 ⟨ex, fun b h3 h4 => ?_⟩ _ dl⟩
        by_cases hba : b = a
        · subst hba
          exact hf
        · rw [upd_ne hba] at h4
          exact absurd h3 h4
def mC (t : T) : Mt := fun e => .ok t e
theorem tT_c {K : PySem.W.Frag} {mg : Str → Option Value} {v : V} {t : T} (d : ∀ B, Dq K B v t) {σ : L2.St} {H : Hp} {Q : VK} (q : tT K mg W (mC t) σ H Q) : tC v σ H Q := by
  obtain ⟨F, B, e, s, p⟩ := q
  exact p B H s .refl v (d B)
theorem x_int {i j pos} : PE X (.Constant (.int i) j pos) (tT X.K X.mg W (mC (.int i))) := PE.imp pe_int fun _ _ _ => tT_c fun _ => .int i
theorem x_bl {i j pos} : PE X (.Constant (.bool i) j pos) (tT X.K X.mg W (mC (.bool i))) := PE.imp pe_bl fun _ _ _ => tT_c fun _ => .bl i
theorem x_non {j pos} : PE X (.Constant .none j pos) (tT X.K X.mg W (mC .none)) := PE.imp pe_non fun _ _ _ => tT_c fun _ => .non
theorem x_str {x j pos} : PE X (.Constant (.str x) j pos) (tT X.K X.mg W (mC (.str x))) := PE.imp pe_str fun _ _ _ => tT_c fun _ => .str x

/-! ### argument lists -/
def mNil : Ml := fun e => .ok [] e
def mCons (m : Mt) (ms : Ml) : Ml := fun e => (m e).bind fun t e1 => (ms e1).bind fun ts e2 => .ok (t :: ts) e2
theorem x_nil : PA X [] (tL X.K X.mg W mNil) := PA.imp pa_nil fun σ H Q q => by
  obtain ⟨F, B, e, s, p⟩ := q
  exact p B H s .refl [] .nil
theorem x_cons {es : List Expr} {m : Mt} {ms : Ml} (ha : PE X a (tT X.K X.mg W m)) (hr : PA X es (tL X.K X.mg W ms)) (hs : starEach (a :: es) X.env = (false, eval a X.env) :: starEach es X.env := by rfl) :
    PA X (a :: es) (tL X.K X.mg W (mCons m ms)) := PA.imp (pa_cons ha hr hs) fun σ H Q q => by
  obtain ⟨F, B, e, s, p⟩ := q
  refine ⟨F, B, e, s, (Post.unbind p).mono fun B1 H1 e1 t s1 g1 p1 v d => ?_⟩
  refine ⟨F, B1, e1, s1, (Post.unbind p1).mono fun B2 H2 e2 ts s2 g2 p2 vs ds => ?_⟩
  exact p2 B2 H2 s2 .refl (v :: vs) (.cons (dq_ex g2.ex _ _ d) ds)

/-! ### operations on values -/
/-- what an operation makes: a value, a new list -/
def NewOk (K : PySem.W.Frag) (B H B' H' : Hp) (v : V) (z : RV) : Prop := News B H B' H' ∧ match z with
  | .val t => Dq K B' v t
  | .own ts => ∃ a xs, v = .ref a ∧ H a = none ∧ B' a = none ∧ H' a = some (.lst xs) ∧ DqAll K B' xs ts
theorem NewOk.rv {K : PySem.W.Frag} {F B H B' H' : Hp} {σ : L2.St} {e : En} {v : V} {z : RV} (s : Sta K F B H σ e) (n : NewOk K B H B' H' v z) : Sta K F B' H' σ e ∧ Grow F B B' ∧ RvOk K F B' H' σ e v z := by
  obtain ⟨n, h⟩ := n
  refine ⟨s.news n, n.grow s.fh, ?_⟩
  cases z with
  | val t => exact ⟨h, fun ts z => nomatch z⟩
  | own ts =>
    obtain ⟨a, xs, rfl, h1, h2, h3, h4⟩ := h
    refine ⟨⟨a, xs, rfl, s.fh.back h1, h2, h3, h4⟩, fun ts' _ i us he hs => ?_⟩
    obtain ⟨w, g1, b, ys, g2, _, _, g3, _⟩ := s.ent i _ he
    rw [hs] at g1
    cases g1
    cases g2
    rw [h1] at g3
    cases g3
theorem NewOk.val {K : PySem.W.Frag} {B H : Hp} {v : V} {t : T} (h : Ex B H) (d : Dq K B v t) : NewOk K B H B H v (.val t) := ⟨.refl h, d⟩
theorem NewOk.tup {K : PySem.W.Frag} {B H : Hp} {p : Addr} {o : Obj} {xs : List V} {ts : List T} (h : Ex B H) (hp : H p = none) (hb : Bare1 o) (d : DqAll K B xs ts) : NewOk K B H (upd B p (.frz o (.tup xs))) (upd H p (.frz o (.tup xs))) (.ref p) (.val (.tuple ts)) :=
  ⟨.lay h hp, .tup (.inl ⟨o, upd_same, hb⟩) (dqs_ex (Ex.new (h.back hp)) _ _ d)⟩
theorem NewOk.lst {K : PySem.W.Frag} {B H : Hp} {p : Addr} {xs : List V} {ts : List T} (h : Ex B H) (hp : H p = none) (d : DqAll K B xs ts) : NewOk K B H B (upd H p (.lst xs)) (.ref p) (.own ts) :=
  ⟨.lone h hp, p, xs, rfl, hp, h.back hp, upd_same, d⟩
/-- the answer of an operation -/
def give (z : Option RV) (e : En) : Res RV := match z with
  | some r => .ok r e
  | none => .bad
theorem give_ok {K : PySem.W.Frag} {mg : Str → Option Value} {F B H : Hp} {σ : L2.St} {e : En} {z : Option RV} {Q : VK} {P : Prop} (s : Sta K F B H σ e)
    (p : Post K mg W F B σ (fun B' H' e' r => ∀ v, RvOk K F B' H' σ e' v r → Q v H') (give z e))
    (h : ∀ r, z = some r → (∀ v B' H', NewOk K B H B' H' v r → Q v H') → P) : P := by
  cases z with
  | none => exact p.elim
  | some r =>
    refine h r rfl fun v B' H' n => ?_
    obtain ⟨s', g, o⟩ := n.rv s
    exact p B' H' s' g v o
def Op2 (K : PySem.W.Frag) (f : T → T → Option RV) (r : R2) : Prop := ∀ x y t u z B H (Q : VK), Ex B H → Dq K B x t → Dq K B y u → f t u = some z → (∀ v B' H', NewOk K B H B' H' v z → Q v H') → r x y H Q
def Op1 (K : PySem.W.Frag) (f : T → Option RV) (r : V → Hp → VK → Prop) : Prop := ∀ x t z B H (Q : VK), Ex B H → Dq K B x t → f t = some z → (∀ v B' H', NewOk K B H B' H' v z → Q v H') → r x H Q
def OpN (K : PySem.W.Frag) (f : List T → Option RV) (r : List V → Hp → VK → Prop) : Prop := ∀ xs ts z B H (Q : VK), Ex B H → DqAll K B xs ts → f ts = some z → (∀ v B' H', NewOk K B H B' H' v z → Q v H') → r xs H Q
def m2 (f : T → T → Option RV) (ma mb : Mt) : Mv := fun e => (ma e).bind fun t e1 => (mb e1).bind fun u e2 => give (f t u) e2
def m1 (f : T → Option RV) (ma : Mt) : Mv := fun e => (ma e).bind fun t e1 => give (f t) e1
def mN (f : List T → Option RV) (ms : Ml) : Mv := fun e => (ms e).bind fun t e1 => give (f t) e1
theorem to2 {K : PySem.W.Frag} {mg : Str → Option Value} {f : T → T → Option RV} {r : R2} {ma mb : Mt} (ho : Op2 K f r) {σ : L2.St} {H : Hp} {Q : VK} (q : tV K mg W (m2 f ma mb) σ H Q) : tOp r (tT K mg W ma) (tT K mg W mb) σ H Q := by
  obtain ⟨F, B, e, s, p⟩ := q
  refine ⟨F, B, e, s, (Post.unbind p).mono fun B1 H1 e1 t s1 g1 p1 v d => ?_⟩
  refine ⟨F, B1, e1, s1, (Post.unbind p1).mono fun B2 H2 e2 u s2 g2 p2 w d2 => ?_⟩
  exact give_ok s2 p2 fun z hz k => ho v w t u z B2 H2 Q s2.bh (dq_ex g2.ex _ _ d) d2 hz k
theorem to1 {K : PySem.W.Frag} {mg : Str → Option Value} {f : T → Option RV} {r : V → Hp → VK → Prop} {ma : Mt} (ho : Op1 K f r) {σ : L2.St} {H : Hp} {Q : VK} (q : tV K mg W (m1 f ma) σ H Q) : tUn r (tT K mg W ma) σ H Q := by
  obtain ⟨F, B, e, s, p⟩ := q
  refine ⟨F, B, e, s, (Post.unbind p).mono fun B1 H1 e1 t s1 g1 p1 v d => ?_⟩
  exact give_ok s1 p1 fun z hz k => ho v t z B1 H1 Q s1.bh d hz k
theorem toN {K : PySem.W.Frag} {mg : Str → Option Value} {f : List T → Option RV} {r : List V → Hp → VK → Prop} {ms : Ml} (ho : OpN K f r) {σ : L2.St} {H : Hp} {Q : VK} (q : tV K mg W (mN f ms) σ H Q) : tCB r (tL K mg W ms) σ H Q := by
  obtain ⟨F, B, e, s, p⟩ := q
  refine ⟨F, B, e, s, (Post.unbind p).mono fun B1 H1 e1 t s1 g1 p1 v d => ?_⟩
  exact give_ok s1 p1 fun z hz k => ho v t z B1 H1 Q s1.bh d hz k
theorem x_op {op : Operator} {f : T → T → Option RV} {r : R2} {ma mb : Mt} (hr : OpR X (binaryOp op) r) (ho : Op2 X.K f r) (ha : PE X a (tT X.K X.mg W ma)) (hb : PE X b (tT X.K X.mg W mb)) :
    PE X (.BinOp a op b pos) (tV X.K X.mg W (m2 f ma mb)) := PE.imp (pe_op hr ha hb) fun _ _ _ => to2 ho
theorem x_cmp {op : CmpOp} {f : T → T → Option RV} {r : R2} {ma mb : Mt} (hr : OpR X (compareOp op) r) (ho : Op2 X.K f r) (ha : PE X a (tT X.K X.mg W ma)) (hb : PE X b (tT X.K X.mg W mb)) (hm : behindInMarks op b = false) :
    PE X (.Compare a [op] [b] pos) (tV X.K X.mg W (m2 f ma mb)) := PE.imp (pe_cmpR hr ha hb hm) fun _ _ _ => to2 ho
theorem x_ix {f : T → T → Option RV} {r : R2} {ma mb : Mt} (hr : IxR X r) (ho : Op2 X.K f r) (ha : PE X a (tT X.K X.mg W ma)) (hb : PE X b (tT X.K X.mg W mb)) (hs : PlainIx b) :
    PE X (.Subscript a b pos) (tV X.K X.mg W (m2 f ma mb)) := PE.imp (pe_ix hr ha hb hs) fun _ _ _ => to2 ho
theorem x_un {op : UnaryOp} {f : T → Option RV} {r : V → Hp → VK → Prop} {ma : Mt} (hr : UnR X (unaryOp op) r) (ho : Op1 X.K f r) (ha : PE X a (tT X.K X.mg W ma)) : PE X (.UnaryOp op a pos) (tV X.K X.mg W (m1 f ma)) :=
  PE.imp (pe_un hr ha) fun _ _ _ => to1 ho

/-! ### displays -/
def mTup (ms : Ml) : Mt := fun e => (ms e).bind fun ts e1 => if ts.length ≤ 100000 then .ok (.tuple ts) e1 else .bad
def mLst (ms : Ml) : Mv := fun e => (ms e).bind fun ts e1 => if ts.length ≤ 100000 then .ok (.own ts) e1 else .bad
theorem big {n : Nat} (h : n ≤ 100000) : n ≤ sizeLine := Nat.le_trans h (by decide)
theorem bigL {n : Nat} (h : n < 100000) : n < sizeLine := Nat.lt_of_lt_of_le h (by decide)
/-- a new tuple is laid, known to its object -/
theorem Inv.layX {pins : List (Addr × Obj)} {σ : L2.St} {H : Hp} {s : Shared} {us : List Value} {xs : List V} (I : Inv X pins σ H s) (r : Vals xs us) (hz : xs.length ≤ sizeLine) :
    Inv X pins σ (upd H s.heap.objs.size (.frz { cls := .type "tuple", data := .seq us.toArray } (.tup xs))) { s with heap := s.heap.push { cls := .type "tuple", data := .seq us.toArray } } :=
  I.laid (t' := s.toks) (fun b u e => Heap.get?_push_of_some _ e) (Nat.le_refl _) ⟨Heap.get?_push_size _ rfl, hz, us, r, ⟨_, Heap.get?_push_size _ rfl, rfl, _, rfl⟩⟩
def tTupX (t : TA) : TE := fun σ H Q => t σ H fun xs H1 => xs.length ≤ sizeLine ∧ ∀ p o, H1 p = none → Bare1 o → Q (.ref p) (upd H1 p (.frz o (.tup xs)))
theorem pe_tupX {es : List Expr} {x1} {t : TA} (h : PA X es t) : PE X (.Tuple es x1 pos) (tTupX t) := ⟨fun pins s σ H Q I hq =>
  wpAny_Tuple_spliced (thn (h.run pos pins s σ H _ I hq) fun us s1 ⟨xs, H1, I1, r, z, q⟩ =>
    ⟨by rw [← r.length]; exact z, .ref s1.heap.objs.size, _, Inv.layX I1 r z, rfl, q _ _ (I1.hok.fresh (Nat.le_refl _)) ⟨rfl, rfl⟩⟩)⟩
theorem x_tup {es : List Expr} {x1} {ms : Ml} (h : PA X es (tL X.K X.mg W ms)) : PE X (.Tuple es x1 pos) (tT X.K X.mg W (mTup ms)) := PE.imp (pe_tupX h) fun σ H Q q => by
  obtain ⟨F, B, e, s, p⟩ := q
  refine ⟨F, B, e, s, (Post.unbind p).mono fun B1 H1 e1 ts s1 g1 p1 vs d => ?_⟩
  by_cases hz : ts.length ≤ 100000
  · rw [if_pos hz] at p1
    refine ⟨big (by rw [d.len]; exact hz), fun p o hp hb => ?_⟩
    obtain ⟨s', g, o⟩ := (NewOk.tup s1.bh hp hb d).rv s1
    exact p1 _ _ s' g _ o.1
  · rw [if_neg hz] at p1
    exact p1.elim
theorem x_lst {es : List Expr} {ms : Ml} (h : PA X es (tL X.K X.mg W ms)) : PE X (.List es pos) (tV X.K X.mg W (mLst ms)) := PE.imp (pe_lst h) fun σ H Q q => by
  obtain ⟨F, B, e, s, p⟩ := q
  refine ⟨F, B, e, s, (Post.unbind p).mono fun B1 H1 e1 ts s1 g1 p1 vs d => ?_⟩
  by_cases hz : ts.length ≤ 100000
  · rw [if_pos hz] at p1
    refine ⟨big (by rw [d.len]; exact hz), fun p hp => ?_⟩
    obtain ⟨s', g, o⟩ := (NewOk.lst s1.bh hp d).rv s1
    exact p1 _ _ s' g _ o
  · rw [if_neg hz] at p1
    exact p1.elim

/-! ### tests -/
def asB (t : T) : Option Bool := match t with
  | .bool b => some b
  | _ => none
def mTst (m : Mt) : Mb := fun e => (m e).bind fun t e1 => match t with
  | .bool b => .ok b e1
  | _ => .bad
theorem tst_ok {K : PySem.W.Frag} {mg : Str → Option Value} {m : Mt} {σ : L2.St} {H : Hp} {Q : Bool → Hp → Prop} (q : tO K mg W (mTst m) σ H Q) : tT K mg W m σ H fun x H1 => ∃ k, x = .bl k ∧ Q k H1 := by
  obtain ⟨F, B, e, s, p⟩ := q
  refine ⟨F, B, e, s, (Post.unbind p).mono fun B1 H1 e1 t s1 g1 p1 v d => ?_⟩
  cases t with
  | bool b =>
    cases d
    exact ⟨b, rfl, p1 B1 H1 s1 .refl⟩
  | _ => exact p1.elim
theorem o_val {m : Mt} (h : PE X a (tT X.K X.mg W m)) (he : ∀ whole, isTrue a X.env whole = (do let v ← whole; standAt a.pos; holding [v] (truthy v)) := by intro _; rfl) : PT X a (tO X.K X.mg W (mTst m)) :=
  PT.imp (pt_val h he) fun _ _ _ => tst_ok
theorem o_cmp {op : CmpOp} {f : T → T → Option RV} {r : R2} {ma mb : Mt} (hr : OpR X (compareOp op) r) (ho : Op2 X.K f r) (ha : PE X a (tT X.K X.mg W ma)) (hb : PE X b (tT X.K X.mg W mb)) (hm : behindInMarks op b = false) :
    PT X (.Compare a [op] [b] pos) (tO X.K X.mg W (mTst (mTree (m2 f ma mb)))) := PT.imp (pt_cmpR hr ha hb hm) fun σ H Q q => by
  refine to2 ho ?_
  obtain ⟨F, B, e, s, p⟩ := tst_ok q
  refine ⟨F, B, e, s, (Post.unbind p).mono fun B' H' e' r s' g p' v o => ?_⟩
  obtain ⟨B2, s2, g2, d⟩ := s'.lay o
  exact p' B2 H' s2 g2 v d
def mAndT (m n : Mb) : Mb := fun e => (m e).bind fun b e1 => if b = true then n e1 else .ok false e1
def mOrT (m n : Mb) : Mb := fun e => (m e).bind fun b e1 => if b = true then .ok true e1 else n e1
def mNotT (m : Mb) : Mb := fun e => (m e).bind fun b e1 => .ok (!b) e1
theorem o_and1 {m : Mb} (ha : PT X a (tO X.K X.mg W m)) : PW X (.BoolOp .And [a] pos) (tO X.K X.mg W m) := pw_and1 ha
theorem o_or1 {m : Mb} (ha : PT X a (tO X.K X.mg W m)) : PW X (.BoolOp .Or [a] pos) (tO X.K X.mg W m) := pw_or1 ha
theorem PW.imp {e : Expr} {t t' : TT} (h : PW X e t) (f : ∀ σ H Q, t' σ H Q → t σ H Q) : PW X e t' := ⟨fun wh pins s σ H Q I q => h.run wh pins s σ H Q I (f σ H Q q)⟩
theorem o_and {rest : List Expr} {m n : Mb} (ha : PT X a (tO X.K X.mg W m)) (hb : PW X (.BoolOp .And (b :: rest) pos) (tO X.K X.mg W n)) : PW X (.BoolOp .And (a :: b :: rest) pos) (tO X.K X.mg W (mAndT m n)) :=
  PW.imp (pw_and ha hb) fun σ H Q q => by
  obtain ⟨F, B, e, s, p⟩ := q
  refine ⟨F, B, e, s, (Post.unbind p).mono fun B1 H1 e1 t s1 g1 p1 => ?_⟩
  cases t with
  | true => exact ⟨F, B1, e1, s1, p1⟩
  | false => exact p1 B1 H1 s1 .refl
theorem o_or {rest : List Expr} {m n : Mb} (ha : PT X a (tO X.K X.mg W m)) (hb : PW X (.BoolOp .Or (b :: rest) pos) (tO X.K X.mg W n)) : PW X (.BoolOp .Or (a :: b :: rest) pos) (tO X.K X.mg W (mOrT m n)) :=
  PW.imp (pw_or ha hb) fun σ H Q q => by
  obtain ⟨F, B, e, s, p⟩ := q
  refine ⟨F, B, e, s, (Post.unbind p).mono fun B1 H1 e1 t s1 g1 p1 => ?_⟩
  cases t with
  | false => exact ⟨F, B1, e1, s1, p1⟩
  | true => exact p1 B1 H1 s1 .refl
theorem o_not {m : Mb} (ha : PT X a (tO X.K X.mg W m)) : PT X (.UnaryOp .Not a pos) (tO X.K X.mg W (mNotT m)) := PT.imp (pt_not ha) fun σ H Q q => by
  obtain ⟨F, B, e, s, p⟩ := q
  exact ⟨F, B, e, s, (Post.unbind p).mono fun B1 H1 e1 t s1 g1 p1 => p1 B1 H1 s1 .refl⟩
/-! ### and, or, not as values -/
def mAndV (m n : Mt) : Mt := fun e => (mTst m e).bind fun b e1 => if b = true then n e1 else .ok (.bool false) e1
def mOrV (m n : Mt) : Mt := fun e => (mTst m e).bind fun b e1 => if b = true then .ok (.bool true) e1 else n e1
def mNotV (m : Mt) : Mt := fun e => (mTst m e).bind fun b e1 => .ok (.bool (!b)) e1
theorem bind_post {K : PySem.W.Frag} {mg : Str → Option Value} {m : Mt} {n : Bool → Mt} {σ : L2.St} {H : Hp} {Q : VK} (q : tT K mg W (fun e => (mTst m e).bind n) σ H Q) :
    tT K mg W m σ H fun x H1 => ∃ k, x = .bl k ∧ tT K mg W (n k) σ H1 Q := by
  refine tst_ok (Q := fun k H1 => tT K mg W (n k) σ H1 Q) ?_
  obtain ⟨F, B, e, s, p⟩ := q
  exact ⟨F, B, e, s, (Post.unbind p).mono fun B1 H1 e1 t s1 g1 p1 => ⟨F, B1, e1, s1, p1⟩⟩
theorem x_one {op} {m : Mt} (h : PE X a (tT X.K X.mg W m)) : PE X (.BoolOp op [a] pos) (tT X.K X.mg W m) := pe_one h
theorem ok_c {K : PySem.W.Frag} {mg : Str → Option Value} {t : T} {v : V} {σ : L2.St} {H : Hp} {Q : VK} (q : tT K mg W (fun e => .ok t e) σ H Q) (d : ∀ B, Dq K B v t) : Q v H := by
  obtain ⟨F, B, e, s, p⟩ := q
  exact p B H s .refl v (d B)
theorem x_and {rest : List Expr} {m n : Mt} (ha : PE X a (tT X.K X.mg W m)) (hb : PE X (.BoolOp .And (b :: rest) pos) (tT X.K X.mg W n)) : PE X (.BoolOp .And (a :: b :: rest) pos) (tT X.K X.mg W (mAndV m n)) :=
  PE.imp (pe_and ha hb) fun σ H Q q => by
  have q' := bind_post (n := fun b e1 => if b = true then n e1 else .ok (.bool false) e1) q
  obtain ⟨F, B, e, s, p⟩ := q'
  refine ⟨F, B, e, s, p.mono fun B1 H1 e1 t s1 g1 p1 v d => ?_⟩
  obtain ⟨k, rfl, z⟩ := p1 v d
  refine ⟨k, rfl, ?_⟩
  cases k with
  | true => exact z
  | false => exact ok_c z fun _ => .bl false
theorem x_or {rest : List Expr} {m n : Mt} (ha : PE X a (tT X.K X.mg W m)) (hb : PE X (.BoolOp .Or (b :: rest) pos) (tT X.K X.mg W n)) : PE X (.BoolOp .Or (a :: b :: rest) pos) (tT X.K X.mg W (mOrV m n)) :=
  PE.imp (pe_or ha hb) fun σ H Q q => by
  have q' := bind_post (n := fun b e1 => if b = true then .ok (.bool true) e1 else n e1) q
  obtain ⟨F, B, e, s, p⟩ := q'
  refine ⟨F, B, e, s, p.mono fun B1 H1 e1 t s1 g1 p1 v d => ?_⟩
  obtain ⟨k, rfl, z⟩ := p1 v d
  refine ⟨k, rfl, ?_⟩
  cases k with
  | false => exact z
  | true => exact ok_c z fun _ => .bl true
theorem x_not {m : Mt} (ha : PE X a (tT X.K X.mg W m)) : PE X (.UnaryOp .Not a pos) (tT X.K X.mg W (mNotV m)) := PE.imp (pe_not ha) fun σ H Q q => by
  have q' := bind_post (n := fun b e1 => .ok (.bool (!b)) e1) q
  obtain ⟨F, B, e, s, p⟩ := q'
  refine ⟨F, B, e, s, p.mono fun B1 H1 e1 t s1 g1 p1 v d => ?_⟩
  obtain ⟨k, rfl, z⟩ := p1 v d
  exact ⟨k, rfl, ok_c z fun _ => .bl _⟩
/-! ### a if t else b -/
def mIf (t : Mb) (m n : Mv) : Mv := fun e => (t e).bind fun b e1 => if b = true then m e1 else n e1
theorem x_if {t : Mb} {m n : Mv} (hc : PT X c (tO X.K X.mg W t)) (ha : PE X a (tV X.K X.mg W m)) (hb : PE X b (tV X.K X.mg W n)) : PE X (.IfExp c a b pos) (tV X.K X.mg W (mIf t m n)) := PE.imp (pe_ifExp hc ha hb) fun σ H Q q => by
  obtain ⟨F, B, e, s, p⟩ := q
  refine ⟨F, B, e, s, (Post.unbind p).mono fun B1 H1 e1 t s1 g1 p1 => ?_⟩
  cases t with
  | true => exact ⟨F, B1, e1, s1, p1⟩
  | false => exact ⟨F, B1, e1, s1, p1⟩
end
end TL
end
section
set_option Elab.async false
set_option linter.all false
set_option autoImplicit false
set_option maxRecDepth 100000
namespace TL
open PySem PySem.Spec PyProof.Rows L2

inductive Out where
  | nx | rt (r : RV) | bk | ct
abbrev Ms := En → Res Out
/-- slots that stay: parameters whose lists the caller holds -/
def Kept (keep : List Nat) (σ σ' : L2.St) : Prop := ∀ i ∈ keep, σ'[i]? = σ[i]?
theorem Kept.refl {keep : List Nat} {σ : L2.St} : Kept keep σ σ := fun _ _ => rfl
theorem Kept.trans {keep : List Nat} {σ σ1 σ2 : L2.St} (a : Kept keep σ σ1) (b : Kept keep σ1 σ2) : Kept keep σ σ2 := fun i h => (b i h).trans (a i h)
def PostS (K : PySem.W.Frag) (mg : Str → Option Value) (W : WX) (keep : List Nat) (F B : Hp) (σ : L2.St) (D : Ends) : Res Out → Prop
  | .ok .nx e' => ∀ σ' B' H', Sta K F B' H' σ' e' → Grow F B B' → Kept keep σ σ' → D.nx σ' H'
  | .ok .bk e' => ∀ σ' B' H', Sta K F B' H' σ' e' → Grow F B B' → Kept keep σ σ' → D.bk σ' H'
  | .ok .ct e' => ∀ σ' B' H', Sta K F B' H' σ' e' → Grow F B B' → Kept keep σ σ' → D.ct σ' H'
  | .ok (.rt r) e' => ∀ σ' v B' H', Sta K F B' H' σ' e' → Grow F B B' → Kept keep σ σ' → RvOk K F B' H' σ' e' v r → D.rt v H'
  | .exc x e' => ∀ σ' c d B' H', Sta K F B' H' σ' e' → Grow F B B' → Kept keep σ σ' → XOk K mg B' H' x c d → W c d σ' H'
  | .bad => False
def tS (K : PySem.W.Frag) (mg : Str → Option Value) (W : WX) (keep : List Nat) (m : Ms) : TS := fun D σ H => ∃ F B e, Sta K F B H σ e ∧ PostS K mg W keep F B σ D (m e)
section
variable {K : PySem.W.Frag} {mg : Str → Option Value} {W : WX} {keep : List Nat} {F B B1 H : Hp} {σ σ1 : L2.St} {e : En} {D : Ends}
theorem PostS.up {r : Res Out} (h : PostS K mg W keep F B σ D r) (g : Grow F B B1) (k : Kept keep σ σ1) : PostS K mg W keep F B1 σ1 D r := by
  cases r with
  | ok o e' =>
    cases o with
    | nx => exact fun σ' B' H' s g' k' => h σ' B' H' s (g.trans g') (k.trans k')
    | bk => exact fun σ' B' H' s g' k' => h σ' B' H' s (g.trans g') (k.trans k')
    | ct => exact fun σ' B' H' s g' k' => h σ' B' H' s (g.trans g') (k.trans k')
    | rt r => exact fun σ' v B' H' s g' k' => h σ' v B' H' s (g.trans g') (k.trans k')
  | exc x e' => exact fun σ' c d B' H' s g' k' => h σ' c d B' H' s (g.trans g') (k.trans k')
  | bad => exact h
/-- an expression within a statement -/
theorem PostS.unbind {α : Type} {r : Res α} {f : α → Ms} (h : PostS K mg W keep F B σ D (r.bind f)) : Post K mg W F B σ (fun B1 _ e1 a => PostS K mg W keep F B1 σ D (f a e1)) r := by
  cases r with
  | ok a e' => exact fun B' H' s g' => PostS.up (r := f a e') h g' .refl
  | exc x e' => exact fun c d B' H' s g' x => h σ c d B' H' s g' .refl x
  | bad => exact h
end
section
variable {X : Cx} {W : WX} {keep : List Nat} {a b c : Expr} {pos : Pos} {st : Stmt} {rest : List Stmt}
def mNx : Ms := fun e => .ok .nx e
def mSeq (m n : Ms) : Ms := fun e => match m e with
  | .ok .nx e1 => n e1
  | r => r
theorem ss_nil : PSs X [] (tS X.K X.mg W keep mNx) := PSs.imp pss_nil fun D σ H q => by
  obtain ⟨F, B, e, s, p⟩ := q
  exact p σ B H s .refl .refl
theorem seq_ok {K : PySem.W.Frag} {mg : Str → Option Value} {m n : Ms} {D : Ends} {σ : L2.St} {H : Hp} (q : tS K mg W keep (mSeq m n) D σ H) : tS K mg W keep m { D with nx := tS K mg W keep n D } σ H := by
  obtain ⟨F, B, e, s, p⟩ := q
  refine ⟨F, B, e, s, ?_⟩
  unfold mSeq at p
  cases hm : m e with
  | ok o e1 =>
    rw [hm] at p
    cases o with
    | nx => exact fun σ' B' H' s' g k => ⟨F, B', e1, s', PostS.up (r := n e1) p g k⟩
    | bk => exact p
    | ct => exact p
    | rt r => exact p
  | exc x e1 => rw [hm] at p; exact p
  | bad => rw [hm] at p; exact p
theorem ss_cons {m n : Ms} (h1 : PS X st (tS X.K X.mg W keep m)) (h2 : PSs X rest (tS X.K X.mg W keep n)) : PSs X (st :: rest) (tS X.K X.mg W keep (mSeq m n)) := PSs.imp (pss_cons h1 h2) fun _ _ _ => seq_ok
theorem ss_one {m : Ms} (h : PS X st (tS X.K X.mg W keep m)) : PSs X [st] (tS X.K X.mg W keep m) := pss_one h
theorem s_pass : PS X (.Pass pos) (tS X.K X.mg W keep mNx) := PS.imp ps_pass fun D σ H q => by
  obtain ⟨F, B, e, s, p⟩ := q
  exact p σ B H s .refl .refl
theorem s_break : PS X (.Break pos) (tS X.K X.mg W keep fun e => .ok .bk e) := PS.imp ps_break fun D σ H q => by
  obtain ⟨F, B, e, s, p⟩ := q
  exact p σ B H s .refl .refl
theorem s_continue : PS X (.Continue pos) (tS X.K X.mg W keep fun e => .ok .ct e) := PS.imp ps_continue fun D σ H q => by
  obtain ⟨F, B, e, s, p⟩ := q
  exact p σ B H s .refl .refl
/-- an expression as a statement -/
def mDrop (m : Mv) : Ms := fun e => (m e).bind fun _ e1 => .ok .nx e1
theorem s_expr {m : Mv} (he : PE X a (tV X.K X.mg W m)) (hs : swapsWith a none pos.line X.env = pure false := by rfl) : PS X (.Expr a pos) (tS X.K X.mg W keep (mDrop m)) := PS.imp (ps_expr he hs) fun D σ H q => by
  obtain ⟨F, B, e, s, p⟩ := q
  exact ⟨F, B, e, s, (PostS.unbind p).mono fun B' H' e' r s' g p' v o => p' σ B' H' s' .refl .refl⟩
def mRet (m : Mv) : Ms := fun e => (m e).bind fun r e1 => .ok (.rt r) e1
theorem s_ret {m : Mv} (he : PE X a (tV X.K X.mg W m)) : PS X (.Return (some a) pos) (tS X.K X.mg W keep (mRet m)) := PS.imp (ps_ret he) fun D σ H q => by
  obtain ⟨F, B, e, s, p⟩ := q
  exact ⟨F, B, e, s, (PostS.unbind p).mono fun B' H' e' r s' g p' v o => p' σ v B' H' s' .refl .refl o⟩
theorem s_retN : PS X (.Return none pos) (tS X.K X.mg W keep fun e => .ok (.rt (.val .none)) e) := PS.imp ps_retN fun D σ H q => by
  obtain ⟨F, B, e, s, p⟩ := q
  exact p σ .non B H s .refl .refl ⟨.non, fun _ z => nomatch z⟩
/-- a name's own list, given up -/
def mTake (i : Nat) : Mv := fun e => match e[i]? with
  | some (some r) => .ok r (e.set i none)
  | _ => .bad
theorem Sta.drop {K : PySem.W.Frag} {F B H : Hp} {σ : L2.St} {e : En} (s : Sta K F B H σ e) (i : Nat) : Sta K F B H σ (e.set i none) :=
  have get : ∀ (j : Nat) (r : RV), (e.set i none)[j]? = some (some r) → e[j]? = some (some r) ∧ i ≠ j := fun j r h => by
    by_cases hj : i = j
    · subst hj
      by_cases hl : i < e.length
      · rw [List.getElem?_set_self hl] at h
        cases h
      · rw [List.getElem?_eq_none (by simpa using hl)] at h
        cases h
    · rw [List.getElem?_set_ne hj] at h
      exact ⟨h, hj⟩
  ⟨s.fh, s.bh, fun j r h => s.ent j r (get j r h).1, by rw [List.length_set]; exact s.ln, fun j k v ts us h1 h2 => s.dj j k v ts us (get j _ h1).1 (get k _ h2).1⟩
theorem x_take {i : Nat} {x : Str} (hN : X.N[i]? = some x) (hv : Vis X.env.scope x) (hd : (x == ("__debug__" : Str)) = false := by decide) (hcd : (x == ("__classdict__" : Str)) = false := by decide) :
    PE X (.Name x pos) (tV X.K X.mg W (mTake i)) := PE.imp (pe_var hN hv hd hcd) fun σ H Q q => by
  obtain ⟨F, B, e, s, p⟩ := q
  unfold mTake at p
  cases he : e[i]? with
  | none => rw [he] at p; exact p.elim
  | some o =>
    cases o with
    | none => rw [he] at p; exact p.elim
    | some r =>
      obtain ⟨v, h1, h2⟩ := s.ent i r he
      rw [he] at p
      refine ⟨v, h1, p B H (s.drop i) .refl v ⟨h2, fun ts er j us hj hs => ?_⟩⟩
      subst er
      have hi := (List.getElem?_eq_some_iff.mp he).1
      by_cases hij : i = j
      · subst hij
        rw [List.getElem?_set_self hi] at hj
        cases hj
      · rw [List.getElem?_set_ne hij] at hj
        exact hij (s.dj i j v ts us he hj h1 hs)
/-! ### if -/
def mIfS (t : Mb) (m n : Ms) : Ms := fun e => (t e).bind fun b e1 => if b = true then m e1 else n e1
theorem s_if {t : Mb} {m n : Ms} {b1 b2 : List Stmt} (hc : PT X c (tO X.K X.mg W t)) (ha : PSs X b1 (tS X.K X.mg W keep m)) (hb : PSs X b2 (tS X.K X.mg W keep n)) : PS X (.If c b1 b2 pos) (tS X.K X.mg W keep (mIfS t m n)) :=
  PS.imp (ps_if hc ha hb) fun D σ H q => by
  obtain ⟨F, B, e, s, p⟩ := q
  refine ⟨F, B, e, s, (PostS.unbind p).mono fun B1 H1 e1 t s1 g1 p1 => ?_⟩
  cases t with
  | true => exact ⟨F, B1, e1, s1, p1⟩
  | false => exact ⟨F, B1, e1, s1, p1⟩
/-! ### names stored -/
theorem Sta.put {K : PySem.W.Frag} {F B H : Hp} {σ : L2.St} {e : En} {i : Nat} {v : V} {r : RV} (s : Sta K F B H σ e) (o : RvOk K F B H σ e v r) : Sta K F B H (σ.set i (some v)) (e.set i (some r)) := by
  have ln := s.ln
  have get : ∀ (j : Nat) (q : RV), (e.set i (some r))[j]? = some (some q) → (i = j ∧ j < e.length ∧ q = r) ∨ (i ≠ j ∧ e[j]? = some (some q)) := fun j q h => by
    by_cases hj : i = j
    · subst hj
      by_cases hl : i < e.length
      · rw [List.getElem?_set_self hl] at h
        cases h
        exact .inl ⟨rfl, hl, rfl⟩
      · rw [List.getElem?_eq_none (by simpa using hl)] at h
        cases h
    · rw [List.getElem?_set_ne hj] at h
      exact .inr ⟨hj, h⟩
  refine ⟨s.fh, s.bh, fun j q h => ?_, by rw [List.length_set, List.length_set]; exact ln, fun j k w ts us h1 h2 h3 h4 => ?_⟩
  · rcases get j q h with ⟨rfl, hl, rfl⟩ | ⟨hj, h⟩
    · exact ⟨v, by rw [List.getElem?_set_self (by omega)], o.1⟩
    · obtain ⟨w, h1, h2⟩ := s.ent j q h
      exact ⟨w, by rw [List.getElem?_set_ne hj]; exact h1, h2⟩
  · rcases get j _ h1 with ⟨rfl, hl, e1⟩ | ⟨hj, h1⟩
    · rw [List.getElem?_set_self (by omega)] at h3
      cases h3
      rcases get k _ h2 with ⟨rfl, _, _⟩ | ⟨hk, h2⟩
      · rfl
      · rw [List.getElem?_set_ne hk] at h4
        exact absurd h4 (o.2 ts e1.symm k us h2)
    · rw [List.getElem?_set_ne hj] at h3
      rcases get k _ h2 with ⟨rfl, hl, e2⟩ | ⟨hk, h2⟩
      · rw [List.getElem?_set_self (by omega)] at h4
        cases h4
        exact absurd h3 (o.2 us e2.symm j ts h1)
      · rw [List.getElem?_set_ne hk] at h4
        exact s.dj j k w ts us h1 h2 h3 h4
theorem Kept.set {i : Nat} {σ : L2.St} {v : Option V} (h : i ∉ keep) : Kept keep σ (σ.set i v) := fun j hj => by
  by_cases e : i = j
  · subst e
    exact absurd hj h
  · rw [List.getElem?_set_ne e]
def mSet (i : Nat) (m : Mv) : Ms := fun e => (m e).bind fun r e1 => .ok .nx (e1.set i (some r))
theorem s_set {i : Nat} {x : Str} {m : Mv} {pos' : Pos} (hN : X.N.Nodup) (hi : X.N[i]? = some x) (hx : Loc X.env.scope x) (hk : keep.contains i = false) (he : PE X a (tV X.K X.mg W m))
    (hs : swapsWith a (some (.Name x pos')) pos.line X.env = pure false := by rfl) (hf : X.fn x = true ∨ X.env.scope.names.lookup x = some .local := by first | exact .inl rfl | exact .inr rfl | assumption) :
    PS X (.Assign [.Name x pos'] a pos) (tS X.K X.mg W keep (mSet i m)) := PS.imp (ps_set hN hi hx he hs hf) fun D σ H q => by
  obtain ⟨F, B, e, s, p⟩ := q
  have hk' : i ∉ keep := fun z => by
    rw [List.contains_iff_mem.mpr z] at hk
    cases hk
  exact ⟨F, B, e, s, (PostS.unbind p).mono fun B' H' e' r s' g p' v o => p' _ B' H' (s'.put o) .refl (.set hk')⟩

/-! ### targets -/
abbrev Mg := T → En → Option En
/-- but the slots sl nothing is changed -/
def Off (sl : List Nat) (σ σ' : L2.St) : Prop := σ'.length = σ.length ∧ ∀ i, i ∉ sl → σ'[i]? = σ[i]?
theorem Off.refl {sl : List Nat} {σ : L2.St} : Off sl σ σ := ⟨rfl, fun _ _ => rfl⟩
theorem Off.trans {sl : List Nat} {σ σ1 σ2 : L2.St} (a : Off sl σ σ1) (b : Off sl σ1 σ2) : Off sl σ σ2 := ⟨b.1.trans a.1, fun i h => (b.2 i h).trans (a.2 i h)⟩
theorem Off.kept {sl : List Nat} {σ σ' : L2.St} (a : Off sl σ σ') (h : ∀ i ∈ keep, i ∉ sl) : Kept keep σ σ' := fun i hi => a.2 i (h i hi)
theorem Off.mono {sl sl' : List Nat} {σ σ' : L2.St} (a : Off sl σ σ') (h : ∀ i ∈ sl, i ∈ sl') : Off sl' σ σ' := ⟨a.1, fun i hi => a.2 i fun z => hi (h i z)⟩
def tG (K : PySem.W.Frag) (sl : List Nat) (f : Mg) : TG := fun v σ H Q => ∃ F B e t e', Sta K F B H σ e ∧ Dq K B v t ∧ f t e = some e' ∧ ∀ σ', Sta K F B H σ' e' → Off sl σ σ' → Q σ' H
abbrev Mgs := List T → En → Option En
def tGs (K : PySem.W.Frag) (sl : List Nat) (f : Mgs) : TGs := fun vs σ H Q => ∃ F B e ts e', Sta K F B H σ e ∧ DqAll K B vs ts ∧ f ts e = some e' ∧ ∀ σ', Sta K F B H σ' e' → Off sl σ σ' → Q σ' H
theorem PG.imp {t t' : TG} (h : PG X a t) (f : ∀ v σ H Q, t' v σ H Q → t v σ H Q) : PG X a t' := ⟨fun pins s σ H v u Q I r q => h.run pins s σ H v u Q I r (f v σ H Q q)⟩
theorem PGs.imp {es : List Expr} {t t' : TGs} (h : PGs X es t) (f : ∀ v σ H Q, t' v σ H Q → t v σ H Q) : PGs X es t' := ⟨fun pins s σ H v u Q I r q => h.run pins s σ H v u Q I r (f v σ H Q q)⟩
def gN (i : Nat) : Mg := fun t e => some (e.set i (some (.val t)))
theorem g_name {i : Nat} {x : Str} (hN : X.N.Nodup) (hi : X.N[i]? = some x) (hx : Loc X.env.scope x) (hf : X.fn x = true ∨ X.env.scope.names.lookup x = some .local := by first | exact .inl rfl | exact .inr rfl | assumption) :
    PG X (.Name x pos) (tG X.K [i] (gN i)) := PG.imp (pg_name hN hi hx hf) fun v σ H Q q => by
  obtain ⟨F, B, e, t, e', s, d, hf, k⟩ := q
  cases hf
  refine k _ (s.put ⟨d, fun _ z => nomatch z⟩) ⟨by rw [List.length_set], fun j hj => ?_⟩
  rw [List.getElem?_set_ne (fun z => hj (by rw [z]; exact List.mem_singleton_self _))]
def gsNil : Mgs := fun ts e => match ts with
  | [] => some e
  | _ => none
def gsCons (f : Mg) (fs : Mgs) : Mgs := fun ts e => match ts with
  | t :: ts => (f t e).bind fun e1 => fs ts e1
  | [] => none
theorem gs_nil : PGs X [] (tGs X.K [] gsNil) := PGs.imp pgs_nil fun vs σ H Q q => by
  obtain ⟨F, B, e, ts, e', s, d, hf, k⟩ := q
  cases ts with
  | nil =>
    cases d
    cases hf
    exact ⟨rfl, k σ s .refl⟩
  | cons t ts => cases hf
theorem gs_cons {es : List Expr} {s1 s2 : List Nat} {f : Mg} {fs : Mgs} (h1 : PG X a (tG X.K s1 f)) (h2 : PGs X es (tGs X.K s2 fs)) (hs : (assignEach (a :: es) X.env).map (·.2) = assign a X.env :: (assignEach es X.env).map (·.2) := by rfl) : PGs X (a :: es) (tGs X.K (s1 ++ s2) (gsCons f fs)) := PGs.imp (pgs_cons h1 h2 hs) fun vs σ H Q q => by
  obtain ⟨F, B, e, ts, e', s, d, hf, k⟩ := q
  cases ts with
  | nil => cases hf
  | cons t ts =>
    cases d with
    | cons d1 d2 =>
      have hf' : ((f t e).bind fun e1 => fs ts e1) = some e' := hf
      cases h : f t e with
      | none => rw [h] at hf'; cases hf'
      | some e1 =>
        rw [h] at hf'
        exact ⟨_, _, rfl, F, B, e, t, e1, s, d1, h, fun σ1 sa o1 => ⟨F, B, e1, ts, e', sa, d2, hf', fun σ2 sb o2 => k σ2 sb ((o1.mono fun i hi => List.mem_append_left _ hi).trans (o2.mono fun i hi => List.mem_append_right _ hi))⟩⟩
def gT (fs : Mgs) (n : Nat) : Mg := fun t e => match t with
  | .tuple ts => if ts.length = n then fs ts e else none
  | .dict [(d, u), (.bool true, .none)] => if n = 2 then fs [d, u] e else none
  | _ => none
/-- a loop's pair -/
def pair (d u : T) : T := .dict [(d, u), (.bool true, .none)]
theorem scr_no {fs : Mgs} {n : Nat} {e e' : En} (ns : List Int) (h : gT fs n (.dict (ns.map fun n => (.int n, .none))) e = some e') : False := by
  unfold gT at h
  split at h
  · rename_i q
    cases q
  · rename_i q
    injection q with q
    match ns, q with
    | [], q => cases q
    | [_], q => cases q
    | [_, _], q => cases q
    | _ :: _ :: _ :: _, q => cases q
  · cases h
theorem g_tup {es : List Expr} {k n : Nat} {sl : List Nat} {fs : Mgs} (hc : X.calm = true) (h : PGs X es (tGs X.K sl fs)) (hn : (assignEach es X.env).length = n := by rfl) (hst : (assignEach es X.env).findIdx? (·.1) = none := by rfl) : PG X (.Tuple es k pos) (tG X.K sl (gT fs n)) := PG.imp (pg_tup hc h hn hst) fun v σ H Q q => by
  obtain ⟨F, B, e, t, e', s, d, hf, kk⟩ := q
  have two : ∀ (w z : T), (if n = 2 then fs [w, z] e else none) = some e' → ∀ {c : Addr} {x y : V}, v = .ref c → SqT X.K B c [x, y] → Dq X.K B x w → Dq X.K B y z → gTup X.K n (tGs X.K sl fs) v σ H Q := fun w z hw {c x y} ev hs h1 h2 => by
    subst ev
    by_cases h2n : n = 2
    · rw [if_pos h2n] at hw
      exact ⟨_, _, rfl, ex_t s.bh hs, h2n.symm, F, B, e, [w, z], e', s, .cons h1 (.cons h2 .nil), hw, kk⟩
    · rw [if_neg h2n] at hw
      cases hw
  cases d with
  | @tup _ _ ts hs ha =>
    have hf' : (if ts.length = n then fs ts e else none) = some e' := hf
    by_cases hl : ts.length = n
    · rw [if_pos hl] at hf'
      exact ⟨_, _, rfl, ex_t s.bh hs.t, by rw [ha.len, hl], F, B, e, ts, e', s, ha, hf', kk⟩
    · rw [if_neg hl] at hf'
      cases hf'
  | @prs _ _ _ w z hs h1 h2 => exact two w z hf rfl hs h1 h2
  | @scr _ ns hs =>
    exact (scr_no ns hf).elim
  | @exn _ dx gs fs h1 h2 h3 =>
    exfalso
    unfold gT at hf
    split at hf
    · rename_i q
      cases q
    · rename_i q
      injection q with q
      injection q with q1 q2
      injection q2 with q3 q4
      cases q3
    · cases hf
  | _ => cases hf
def mAsg (g : Mg) (m : Mt) : Ms := fun e => (m e).bind fun t e1 => match g t e1 with
  | some e2 => .ok .nx e2
  | none => .bad
theorem off_keep {sl keep : List Nat} (h : (keep.all fun i => !sl.contains i) = true) : ∀ i ∈ keep, i ∉ sl := fun i hi z => by
  have := List.all_eq_true.mp h i hi
  rw [List.contains_iff_mem.mpr z] at this
  cases this
theorem s_asg {g : Mg} {sl : List Nat} {m : Mt} {tg : Expr} (he : PE X a (tT X.K X.mg W m)) (hg : PG X tg (tG X.K sl g)) (hk : (keep.all fun i => !sl.contains i) = true) (hs : swapsWithSole [tg] a pos.line X.env = pure false := by rfl) (hw : swappedStores [tg] a X.env = pure none := by rfl) (h1 : (assignEach [tg] X.env).map (·.2) = [assign tg X.env] := by rfl) :
    PS X (.Assign [tg] a pos) (tS X.K X.mg W keep (mAsg g m)) := PS.imp (ps_asg he hg hs hw h1) fun D σ H q => by
  obtain ⟨F, B, e, s, p⟩ := q
  refine ⟨F, B, e, s, (PostS.unbind p).mono fun B' H' e' t s' g' p' v d => ?_⟩
  cases h : g t e' with
  | none => rw [h] at p'; exact p'.elim
  | some e2 =>
    rw [h] at p'
    exact ⟨F, B', e', t, e2, s', d, h, fun σ' s2 o => p' σ' B' H' s2 .refl (o.kept (off_keep hk))⟩

/-! ### what is walked -/
structure TW (K : PySem.W.Frag) (J : It) (B : Hp) (ts : List T) : Prop where
  goes : ∀ i H, i < ts.length → Ex B H → J.go i H
  stops : ∀ H, Ex B H → J.stop ts.length H
  yields : ∀ i H Bc x H' t, ts[i]? = some t → Ex B Bc → Ex Bc H → J.yld i H x H' → ∃ B', News Bc H B' H' ∧ Dq K B' x t
def tI (K : PySem.W.Frag) (mg : Str → Option Value) (W : WX) (m : Ml) : TI := fun σ H R => ∃ F B e, Sta K F B H σ e ∧ Post K mg W F B σ (fun B' H' _ ts => ∀ J, TW K J B' ts → R J H') (m e)
theorem PI.imp {tg it : Expr} {t t' : TI} (h : PI X tg it t) (f : ∀ σ H R, t' σ H R → t σ H R) : PI X tg it t' := ⟨fun pins s σ H R I q => h.run pins s σ H R I (f σ H R q)⟩
theorem PI.or {tg it : Expr} {t t' : TI} (h : PI X tg it t) (h' : PI X tg it t') : PI X tg it (fun σ H R => t σ H R ∨ t' σ H R) := ⟨fun pins s σ H R I q => q.elim (h.run pins s σ H R I) (h'.run pins s σ H R I)⟩
/-! ### for -/
def mLoop (g : Mg) (body : Ms) : List T → Ms
  | [], e => .ok .nx e
  | t :: ts, e => match g t e with
    | none => .bad
    | some e1 => match body e1 with
      | .ok .nx e2 => mLoop g body ts e2
      | .ok .ct e2 => mLoop g body ts e2
      | .ok .bk e2 => .ok .nx e2
      | r => r
def mFor (mi : Ml) (g : Mg) (body : Ms) : Ms := fun e => (mi e).bind fun ts e1 => mLoop g body ts e1
theorem for_ok {K : PySem.W.Frag} {mg : Str → Option Value} {mi : Ml} {g : Mg} {sl : List Nat} {body : Ms} {D : Ends} {σ : L2.St} {H : Hp} (hk : (keep.all fun i => !sl.contains i) = true)
    (q : tS K mg W keep (mFor mi g body) D σ H) : tFor (tI K mg W mi) (tG K sl g) (tS K mg W keep body) D σ H := by
  obtain ⟨F, B, e, s, p⟩ := q
  refine ⟨F, B, e, s, (PostS.unbind p).mono fun B1 H1 e1 ts s1 g1 p1 J tw => ?_⟩
  refine ⟨fun i m σ' H' => m = ts.length - i ∧ i ≤ ts.length ∧ ∃ B2 e2, Sta K F B2 H' σ' e2 ∧ Grow F B1 B2 ∧ PostS K mg W keep F B2 σ' D (mLoop g body (ts.drop i) e2), ⟨ts.length, rfl, Nat.zero_le _, B1, e1, s1, .refl, p1⟩, ?_⟩
  rintro i m σ' H' ⟨rfl, hi, B2, e2, s2, g2, p2⟩
  by_cases hlt : i < ts.length
  · refine .inr ⟨tw.goes i H' hlt (g2.ex.trans s2.bh), fun σ'' H'' => ∃ B3 e3, Sta K F B3 H'' σ'' e3 ∧ Grow F B1 B3 ∧ PostS K mg W keep F B3 σ'' D (mLoop g body (ts.drop (i + 1)) e3), fun σ'' H'' p' => ⟨ts.length - (i + 1), by omega, rfl, hlt, p'⟩, fun x H3 y => ?_⟩
    have ht : ts[i]? = some ts[i] := List.getElem?_eq_getElem hlt
    obtain ⟨B3, n3, d3⟩ := tw.yields i H' B2 x H3 ts[i] ht g2.ex s2.bh y
    rw [List.drop_eq_getElem_cons hlt] at p2
    have s3 := s2.news n3
    have g3 := n3.grow s2.fh
    have p2' : PostS K mg W keep F B2 σ' D (match g ts[i] e2 with
      | none => .bad
      | some e1 => match body e1 with
        | .ok .nx e2 => mLoop g body (ts.drop (i + 1)) e2
        | .ok .ct e2 => mLoop g body (ts.drop (i + 1)) e2
        | .ok .bk e2 => .ok .nx e2
        | r => r) := p2
    cases hg : g ts[i] e2 with
    | none => rw [hg] at p2'; exact p2'.elim
    | some e3 =>
      rw [hg] at p2'
      dsimp only at p2'
      refine ⟨F, B3, e2, ts[i], e3, s3, d3, hg, fun σ2 s4 o4 => ⟨F, B3, e3, s4, ?_⟩⟩
      have k4 : Kept keep σ' σ2 := o4.kept (off_keep hk)
      cases hb : body e3 with
      | ok o e4 =>
        rw [hb] at p2'
        cases o with
        | nx => exact fun σ5 B5 H5 s5 g5 k5 => ⟨B5, e4, s5, (g2.trans g3).trans g5, PostS.up (r := mLoop g body (ts.drop (i + 1)) e4) p2' (g3.trans g5) (k4.trans k5)⟩
        | ct => exact fun σ5 B5 H5 s5 g5 k5 => ⟨B5, e4, s5, (g2.trans g3).trans g5, PostS.up (r := mLoop g body (ts.drop (i + 1)) e4) p2' (g3.trans g5) (k4.trans k5)⟩
        | bk => exact fun σ5 B5 H5 s5 g5 k5 => p2' σ5 B5 H5 s5 (g3.trans g5) (k4.trans k5)
        | rt r => exact fun σ5 v B5 H5 s5 g5 k5 o5 => p2' σ5 v B5 H5 s5 (g3.trans g5) (k4.trans k5) o5
      | exc x e4 =>
        rw [hb] at p2'
        exact fun σ5 c d B5 H5 s5 g5 k5 x5 => p2' σ5 c d B5 H5 s5 (g3.trans g5) (k4.trans k5) x5
      | bad => rw [hb] at p2'; exact p2'.elim
  · have ei : i = ts.length := by omega
    subst ei
    rw [List.drop_length] at p2
    exact .inl ⟨tw.stops H' (g2.ex.trans s2.bh), p2 σ' B2 H' s2 .refl .refl⟩
theorem s_for {iter tg : Expr} {body : List Stmt} {mi : Ml} {g : Mg} {sl : List Nat} {m : Ms} (hp : PassesOwn (model X.prog X.w) X.A X.env X.xe) (hc : X.calm = true) (hi : PI X tg iter (tI X.K X.mg W mi)) (hg : PG X tg (tG X.K sl g)) (hk : (keep.all fun i => !sl.contains i) = true)
    (hb : PSs X body (tS X.K X.mg W keep m)) (hs : ∀ x, foldedSetIterable iter X.env x = pure x := by intro _; rfl) : PS X (.For tg iter body [] pos) (tS X.K X.mg W keep (mFor mi g m)) := PS.imp (ps_for hp hc hi hg hb hs) fun _ _ _ => for_ok hk
end
end TL
end
section
set_option Elab.async false
set_option linter.all false
set_option autoImplicit false
set_option maxRecDepth 100000
namespace TL
open PySem PySem.Spec PyProof.Rows L2

/-! ### comprehensions -/
def wipeE (e : En) : List Nat → En
  | [] => e
  | v :: vs => (wipeE e vs).set v none
def backE (e1 e2 : En) : List Nat → En
  | [] => e2
  | v :: vs => (backE e1 e2 vs).set v (match e1[v]? with
    | some (some (.val t)) => some (.val t)
    | _ => none)
theorem wipeE_get {e : En} {i : Nat} {r : RV} : ∀ {vs : List Nat}, (wipeE e vs)[i]? = some (some r) → e[i]? = some (some r) ∧ i ∉ vs
  | [], h => ⟨h, by simp⟩
  | v :: vs, h => by
    unfold wipeE at h
    by_cases hi : v = i
    · subst hi
      by_cases hv : v < (wipeE e vs).length
      · rw [List.getElem?_set_self hv] at h; cases h
      · rw [List.getElem?_eq_none (by simpa using hv)] at h; cases h
    · rw [List.getElem?_set_ne hi] at h
      obtain ⟨h1, h2⟩ := wipeE_get h
      exact ⟨h1, by simp only [List.mem_cons, not_or]; exact ⟨fun e => hi e.symm, h2⟩⟩
theorem wipeE_len {e : En} : ∀ {vs : List Nat}, (wipeE e vs).length = e.length
  | [] => rfl
  | v :: vs => by unfold wipeE; rw [List.length_set, wipeE_len]
theorem backE_len {e1 e2 : En} : ∀ {vs : List Nat}, (backE e1 e2 vs).length = e2.length
  | [] => rfl
  | v :: vs => by unfold backE; rw [List.length_set, backE_len]
theorem backE_get {e1 e2 : En} {i : Nat} {r : RV} : ∀ {vs : List Nat}, (backE e1 e2 vs)[i]? = some (some r) → (i ∉ vs ∧ e2[i]? = some (some r)) ∨ (∃ t, r = .val t ∧ e1[i]? = some (some (.val t)))
  | [], h => .inl ⟨by simp, h⟩
  | v :: vs, h => by
    unfold backE at h
    by_cases hi : v = i
    · subst hi
      by_cases hv : v < (backE e1 e2 vs).length
      · rw [List.getElem?_set_self hv] at h
        cases he : e1[v]? with
        | none => rw [he] at h; cases h
        | some o =>
          cases o with
          | none => rw [he] at h; cases h
          | some q =>
            cases q with
            | val t => rw [he] at h; cases h; exact .inr ⟨t, rfl, rfl⟩
            | own ts => rw [he] at h; cases h
      · rw [List.getElem?_eq_none (by simpa using hv)] at h; cases h
    · rw [List.getElem?_set_ne hi] at h
      rcases backE_get h with ⟨h1, h2⟩ | h2
      · exact .inl ⟨by simp only [List.mem_cons, not_or]; exact ⟨fun e => hi e.symm, h1⟩, h2⟩
      · exact .inr h2
theorem wipe_get {σ : L2.St} {i : Nat} : ∀ {vs : List Nat}, i ∉ vs → (wipe σ vs)[i]? = σ[i]?
  | [], _ => rfl
  | v :: vs, h => by
    simp only [List.mem_cons, not_or] at h
    unfold wipe
    rw [List.getElem?_set_ne (Ne.symm h.1), wipe_get h.2]
theorem wipe_in {σ : L2.St} {i : Nat} : ∀ {vs : List Nat}, i ∈ vs → i < σ.length → (wipe σ vs)[i]? = some none
  | [], h, _ => by cases h
  | v :: vs, h, hl => by
    unfold wipe
    by_cases hi : v = i
    · subst hi
      rw [List.getElem?_set_self (by rw [wipe_length]; exact hl)]
    · rw [List.getElem?_set_ne hi]
      rcases List.mem_cons.mp h with e | h
      · exact absurd e.symm hi
      · exact wipe_in h hl
theorem wipe_off {vs : List Nat} {σ σ' : L2.St} (o : Off vs σ σ') : wipe σ' vs = wipe σ vs := by
  refine List.ext_getElem? fun i => ?_
  by_cases h : i ∈ vs
  · by_cases hl : i < σ.length
    · rw [wipe_in h hl, wipe_in h (by rw [o.1]; exact hl)]
    · rw [List.getElem?_eq_none (by rw [wipe_length, o.1]; omega), List.getElem?_eq_none (by rw [wipe_length]; omega)]
  · rw [wipe_get h, wipe_get h, o.2 i h]
theorem wipe_wipe {vs : List Nat} {σ : L2.St} : wipe (wipe σ vs) vs = wipe σ vs := by
  refine List.ext_getElem? fun i => ?_
  by_cases h : i ∈ vs
  · by_cases hl : i < σ.length
    · rw [wipe_in h hl, wipe_in h (by rw [wipe_length]; exact hl)]
    · rw [List.getElem?_eq_none (by rw [wipe_length, wipe_length]; omega), List.getElem?_eq_none (by rw [wipe_length]; omega)]
  · rw [wipe_get h]
section
variable {K : PySem.W.Frag} {mg : Str → Option Value} {W : WX} {F B H : Hp} {σ σ' : L2.St} {e : En}
theorem Sta.wiped {vs : List Nat} (s : Sta K F B H σ e) (hw : wipe σ vs = wipe σ' vs) (hl : σ.length = σ'.length) : Sta K F B H (wipe σ' vs) (wipeE e vs) := by
  have get : ∀ {i : Nat} {r : RV}, (wipeE e vs)[i]? = some (some r) → e[i]? = some (some r) ∧ (wipe σ' vs)[i]? = σ[i]? := fun {i r} h => by
    obtain ⟨h1, h2⟩ := wipeE_get h
    exact ⟨h1, by rw [← hw, wipe_get h2]⟩
  refine ⟨s.fh, s.bh, fun i r h => ?_, by rw [wipeE_len, wipe_length, ← hl]; exact s.ln, fun i j v ts us h1 h2 h3 h4 => ?_⟩
  · obtain ⟨h1, h2⟩ := get h
    rw [h2]
    exact s.ent i r h1
  · obtain ⟨g1, q1⟩ := get h1
    obtain ⟨g2, q2⟩ := get h2
    rw [q1] at h3
    rw [q2] at h4
    exact s.dj i j v ts us g1 g2 h3 h4
def mCompL (g : Mg) (tt : Mb) (te : Mt) (vs : List Nat) : List T → List T → En → Res (List T)
  | [], acc, e => .ok acc e
  | t :: ts, acc, e => match g t e with
    | none => .bad
    | some e1 => match tt e1 with
      | .ok true e2 => match te e2 with
        | .ok y e3 => if acc.length < 100000 then mCompL g tt te vs ts (acc ++ [y]) (wipeE e3 vs) else .bad
        | _ => .bad
      | .ok false e2 => mCompL g tt te vs ts acc (wipeE e2 vs)
      | _ => .bad
def mComp (mi : Ml) (g : Mg) (tt : Mb) (te : Mt) (vs : List Nat) : Mv := fun e => (mi e).bind fun ts e1 => match mCompL g tt te vs ts [] (wipeE e1 vs) with
  | .ok acc e2 => .ok (.own acc) (backE e1 e2 vs)
  | _ => .bad
/-- nothing is raised -/
abbrev W0 : WX := fun _ _ _ _ => False
theorem comp_ok {mi : Ml} {g : Mg} {sl vs : List Nat} {tt : Mb} {te : Mt} {Q : VK} (hk : (sl.all fun i => vs.contains i) = true)
    (q : tV K mg W (mComp mi g tt te vs) σ H Q) : tLc (tI K mg W mi) (tG K sl g) (tO K mg W0 tt) (tT K mg W0 te) vs σ H Q := by
  have hsub : ∀ i ∈ sl, i ∈ vs := fun i hi => List.contains_iff_mem.mp (List.all_eq_true.mp hk i hi)
  obtain ⟨F, B, e, s, p⟩ := q
  refine ⟨F, B, e, s, (Post.unbind p).mono fun B1 H1 e1 ts s1 g1 p1 J tw => fun D hD => ?_⟩
  have fD : F D = none := s1.fh.back hD
  refine ⟨fun i m H' => m = ts.length - i ∧ i ≤ ts.length ∧ ∃ B2 e2 acc xs, H' D = some (.lst xs) ∧ DqAll K B2 xs acc ∧ B2 D = none ∧ Sta K (upd F D (.lst xs)) B2 H' (wipe σ vs) e2 ∧ Grow F B1 B2 ∧
      Post K mg W F B1 σ (fun B' H' e' r => ∀ v, RvOk K F B' H' σ e' v r → Q v H') (match mCompL g tt te vs (ts.drop i) acc e2 with
        | .ok acc e2 => .ok (.own acc) (backE e1 e2 vs)
        | _ => .bad), ⟨ts.length, rfl, Nat.zero_le _, B1, wipeE e1 vs, [], [], upd_same, .nil, s1.bh.back hD, ?_, .refl, p1⟩, ?_⟩
  · have s2 := s1.wiped (vs := vs) (σ' := σ) rfl rfl
    refine ⟨s1.fh.both, (s1.bh.trans (Ex.new hD)), fun i r h => ?_, s2.ln, s2.dj⟩
    obtain ⟨v, h1, h2⟩ := s2.ent i r h
    refine ⟨v, h1, ?_⟩
    cases r with
    | val t => exact h2
    | own us =>
      obtain ⟨a, xs, rfl, q1, q2, q3, q4⟩ := h2
      have hne : a ≠ D := ne_of_none q3 hD
      exact ⟨a, xs, rfl, by rw [upd_ne hne]; exact q1, q2, by rw [upd_ne hne]; exact q3, q4⟩
  · rintro i m H' ⟨rfl, hi, B2, e2, acc, xs, hx, hd, bD, s2, g2, p2⟩
    have gr : ∀ {B3 : Hp}, Grow (upd F D (.lst xs)) B2 B3 → Grow F B2 B3 ∧ B3 D = none := fun {B3} gg => ⟨⟨gg.ex, fun a h1 h2 => by
      have := gg.new a h1 h2
      by_cases ha : a = D
      · rw [ha]; exact fD
      · rw [upd_ne ha] at this
        exact this⟩, gg.none bD upd_same⟩
    by_cases hlt : i < ts.length
    · have ht : ts[i]? = some ts[i] := List.getElem?_eq_getElem hlt
      rw [List.drop_eq_getElem_cons hlt] at p2
      have p2' : Post K mg W F B1 σ (fun B' H' e' r => ∀ v, RvOk K F B' H' σ e' v r → Q v H') (match (match g ts[i] e2 with
          | none => Res.bad
          | some e1 => match tt e1 with
            | .ok true e2 => match te e2 with
              | .ok y e3 => if acc.length < 100000 then mCompL g tt te vs (ts.drop (i + 1)) (acc ++ [y]) (wipeE e3 vs) else .bad
              | _ => .bad
            | .ok false e2 => mCompL g tt te vs (ts.drop (i + 1)) acc (wipeE e2 vs)
            | _ => .bad) with
        | .ok acc e2 => .ok (.own acc) (backE e1 e2 vs)
        | _ => .bad) := p2
      refine .inr ⟨tw.goes i H' hlt (g2.ex.trans s2.bh), fun H'' => i + 1 ≤ ts.length ∧ ∃ B2 e2 acc xs, H'' D = some (.lst xs) ∧ DqAll K B2 xs acc ∧ B2 D = none ∧ Sta K (upd F D (.lst xs)) B2 H'' (wipe σ vs) e2 ∧ Grow F B1 B2 ∧
        Post K mg W F B1 σ (fun B' H' e' r => ∀ v, RvOk K F B' H' σ e' v r → Q v H') (match mCompL g tt te vs (ts.drop (i + 1)) acc e2 with
          | .ok acc e2 => .ok (.own acc) (backE e1 e2 vs)
          | _ => .bad), fun H'' p' => ⟨ts.length - (i + 1), by omega, rfl, p'⟩, fun x H3 y => ?_⟩
      obtain ⟨B3, n3, d3⟩ := tw.yields i H' B2 x H3 ts[i] ht g2.ex s2.bh y
      have s3 := s2.news n3
      obtain ⟨gB3, bD3⟩ := gr (n3.grow s2.fh)
      cases hg : g ts[i] e2 with
      | none => rw [hg] at p2'; exact p2'.elim
      | some e3 =>
        rw [hg] at p2'
        dsimp only at p2'
        refine ⟨upd F D (.lst xs), B3, e2, ts[i], e3, s3, d3, hg, fun σ2 s4 o4 => ?_⟩
        have ow : Off vs (wipe σ vs) σ2 := o4.mono hsub
        have ww : wipe σ2 vs = wipe σ vs := (wipe_off ow).trans wipe_wipe
        refine ⟨ww, upd F D (.lst xs), B3, e3, s4, ?_⟩
        cases htt : tt e3 with
        | ok b e4 =>
          rw [htt] at p2'
          intro B4 H4 s5 g5
          obtain ⟨gB4, bD4⟩ : Grow F B3 B4 ∧ B4 D = none := ⟨⟨g5.ex, fun a h1 h2 => by
            have := g5.new a h1 h2
            by_cases ha : a = D
            · rw [ha]; exact fD
            · rw [upd_ne ha] at this
              exact this⟩, g5.none bD3 upd_same⟩
          cases b with
          | false =>
            refine ⟨hlt, B4, wipeE e4 vs, acc, xs, s5.fh D _ upd_same, dqs_ex (gB3.ex.trans gB4.ex) _ _ hd, bD4, s5.wiped (ww.trans wipe_wipe.symm |>.trans wipe_wipe) (by rw [ow.1, wipe_length]), (g2.trans gB3).trans gB4, p2'⟩
          | true =>
            refine ⟨upd F D (.lst xs), B4, e4, s5, ?_⟩
            dsimp only at p2'
            cases hte : te e4 with
            | ok yt e5 =>
              rw [hte] at p2'
              dsimp only at p2'
              intro B5 H5 s6 g6 y6 d6
              obtain ⟨gB5, bD5⟩ : Grow F B4 B5 ∧ B5 D = none := ⟨⟨g6.ex, fun a h1 h2 => by
                have := g6.new a h1 h2
                by_cases ha : a = D
                · rw [ha]; exact fD
                · rw [upd_ne ha] at this
                  exact this⟩, g6.none bD4 upd_same⟩
              by_cases hz : acc.length < 100000
              · rw [if_pos hz] at p2'
                have hx5 : H5 D = some (.lst xs) := s6.fh D _ upd_same
                have hd5 := dqs_ex ((gB3.ex.trans gB4.ex).trans gB5.ex) _ _ hd
                refine ⟨xs, hx5, bigL (by rw [hd.len]; exact hz), hlt, B5, wipeE e5 vs, acc ++ [yt], xs ++ [y6], upd_same, hd5.app (.one d6), bD5, ?_, ((g2.trans gB3).trans gB4).trans gB5, p2'⟩
                have s7 := s6.wiped (vs := vs) (σ' := σ) ww (by rw [ow.1, wipe_length])
                refine ⟨fun a o h => ?_, fun a o h => ?_, fun j r h => ?_, s7.ln, s7.dj⟩
                · by_cases ha : a = D
                  · subst ha
                    rw [upd_same] at h ⊢
                    exact h
                  · rw [upd_ne ha] at h ⊢
                    exact s7.fh a o (by rw [upd_ne ha]; exact h)
                · rw [upd_ne (ne_of_none h bD5)]
                  exact s7.bh a o h
                · obtain ⟨v, h1, h2⟩ := s7.ent j r h
                  refine ⟨v, h1, ?_⟩
                  cases r with
                  | val t => exact h2
                  | own us =>
                    obtain ⟨a, ys, rfl, q1, q2, q3, q4⟩ := h2
                    have hne : a ≠ D := fun z => by
                      rw [z, upd_same] at q1
                      cases q1
                    exact ⟨a, ys, rfl, by rw [upd_ne hne]; rw [upd_ne hne] at q1; exact q1, q2, by rw [upd_ne hne]; exact q3, q4⟩
              · rw [if_neg hz] at p2'
                exact p2'.elim
            | exc x e5 => rw [hte] at p2'; exact p2'.elim
            | bad => rw [hte] at p2'; exact p2'.elim
        | exc x e4 => rw [htt] at p2'; exact p2'.elim
        | bad => rw [htt] at p2'; exact p2'.elim
    · have ei : i = ts.length := by omega
      subst ei
      rw [List.drop_length] at p2
      refine .inl ⟨tw.stops H' (g2.ex.trans s2.bh), p2 B2 H' ⟨fun a o h => s2.fh a o (by rw [upd_ne (ne_of_none h fD)]; exact h), s2.bh, fun i r h => ?_, ?_, fun i j v ts us h1 h2 h3 h4 => ?_⟩ g2 _ ⟨⟨D, xs, rfl, fD, bD, hx, hd⟩, fun ts' _ i us h1 h2 => ?_⟩⟩
      · rcases backE_get h with ⟨hn, h⟩ | ⟨t, rfl, hh⟩
        · obtain ⟨v, h1, h2⟩ := s2.ent i r h
          rw [wipe_get hn] at h1
          refine ⟨v, h1, ?_⟩
          cases r with
          | val t => exact h2
          | own us =>
            obtain ⟨a, ys, rfl, q1, q2, q3, q4⟩ := h2
            have hne : a ≠ D := fun z => by
              rw [z, upd_same] at q1
              cases q1
            exact ⟨a, ys, rfl, by rw [upd_ne hne] at q1; exact q1, q2, q3, q4⟩
        · obtain ⟨v, h1, h2⟩ := s1.ent i _ hh
          exact ⟨v, h1, dq_ex g2.ex _ _ h2⟩
      · rw [backE_len]
        have := s2.ln
        rw [wipe_length] at this
        exact this
      · rcases backE_get h1 with ⟨n1, h1⟩ | ⟨t, z, _⟩
        · rcases backE_get h2 with ⟨n2, h2⟩ | ⟨t, z, _⟩
          · exact s2.dj i j v ts us h1 h2 (by rw [wipe_get n1]; exact h3) (by rw [wipe_get n2]; exact h4)
          · cases z
        · cases z
      · rcases backE_get h1 with ⟨n1, h1⟩ | ⟨t, z, _⟩
        · obtain ⟨v, h3, a, ys, rfl, q1, _⟩ := s2.ent i _ h1
          rw [wipe_get n1, h2] at h3
          cases h3
          rw [upd_same] at q1
          cases q1
        · cases z
end
section
variable {X : Cx} {W : WX}
theorem x_lc {elt tg iter : Expr} {ifs : List Expr} {scope : Scope} {own : List (Str × Nat)} {pos : Pos} {mi : Ml} {g : Mg} {sl : List Nat} {tt : Mb} {te : Mt} (hc : X.calm = true) (hN : X.N.Nodup) (hi : PI X tg iter (tI X.K X.mg W mi)) (ok : BlkOk X.N X.env.scope scope own)
    (hk : (sl.all fun i => (own.map (·.2)).contains i) = true)
    (hg : ∀ (s : Shared) (H : Hp) (C : Addr) (cl : List (Str × Addr)) (fp : List Addr), PG (X.blk s H scope (compEnvC scope cl C X.env) fp) tg (tG X.K sl g))
    (ht : ∀ (s : Shared) (H : Hp) (C : Addr) (cl : List (Str × Addr)) (fp : List Addr), PTs (X.blk s H scope (compEnvC scope cl C X.env) fp) ifs (tO X.K X.mg W0 tt))
    (he : ∀ (s : Shared) (H : Hp) (C : Addr) (cl : List (Str × Addr)) (fp : List Addr), PE (X.blk s H scope (compEnvC scope cl C X.env) fp) elt (tT X.K X.mg W0 te))
    (hs : ∀ x, foldedSetIterable iter X.env x = pure x := by intro _; rfl) :
    PE X (.ListComp elt [⟨tg, iter, ifs, 0⟩] scope pos) (tV X.K X.mg W (mComp mi g tt te (own.map (·.2)))) := PE.imp (pe_lc hc hN hi ok hg ht he hs) fun _ _ _ => comp_ok hk
theorem s_setLc {keep : List Nat} {i : Nat} {y : Str} {py spos : Pos} {elt tg iter : Expr} {ifs : List Expr} {scope : Scope} {own : List (Str × Nat)} {pos : Pos} {mi : Ml} {g : Mg} {sl : List Nat} {tt : Mb} {te : Mt} (hc : X.calm = true) (hN : X.N.Nodup) (hy : X.N[i]? = some y) (hyl : X.env.scope.names.lookup y = some .local) (hkeep : keep.contains i = false)
    (hsw : swapsWith (.ListComp elt [⟨tg, iter, ifs, 0⟩] scope pos) (some (.Name y py)) spos.line X.env = pure true) (hi : PI X tg iter (tI X.K X.mg W mi)) (ok : BlkOk X.N X.env.scope scope own)
    (hk : (sl.all fun i => (own.map (·.2)).contains i) = true)
    (hg : ∀ (s : Shared) (H : Hp) (C : Addr) (cl : List (Str × Addr)) (fp : List Addr), PG (X.blk s H scope (compEnvC scope cl C X.env) fp) tg (tG X.K sl g))
    (ht : ∀ (s : Shared) (H : Hp) (C : Addr) (cl : List (Str × Addr)) (fp : List Addr), PTs (X.blk s H scope (compEnvC scope cl C X.env) fp) ifs (tO X.K X.mg W0 tt))
    (he : ∀ (s : Shared) (H : Hp) (C : Addr) (cl : List (Str × Addr)) (fp : List Addr), PE (X.blk s H scope (compEnvC scope cl C X.env) fp) elt (tT X.K X.mg W0 te))
    (hs : ∀ x, foldedSetIterable iter X.env x = pure x := by intro _; rfl) :
    PS X (.Assign [.Name y py] (.ListComp elt [⟨tg, iter, ifs, 0⟩] scope pos) spos) (tS X.K X.mg W keep (mSet i (mComp mi g tt te (own.map (·.2))))) := PS.imp (ps_setLc hc hN hy hyl hsw hi ok hg ht he hs) fun D σ H q => by
  have hk' : i ∉ keep := fun z => by
    rw [List.contains_iff_mem.mpr z] at hkeep
    cases hkeep
  refine comp_ok hk (σ := σ) (H := H) (Q := fun x H1 => gName i x σ H1 D.nx) ?_
  obtain ⟨F, B, e, s, p⟩ := q
  exact ⟨F, B, e, s, (PostS.unbind p).mono fun B' H' e' r s' g p' v o => p' _ B' H' (s'.put o) .refl (.set hk')⟩
def mYes : Mb := fun e => .ok true e
theorem o_yes : PTs X [] (tO X.K X.mg W mYes) := ⟨fun pins s σ H Q I q => pts_nil.run pins s σ H Q I (by
  obtain ⟨F, B, e, s', p⟩ := q
  exact p B H s' .refl)⟩
theorem o_one {c : Expr} {m : Mb} (h : PT X c (tO X.K X.mg W m)) : PTs X [c] (tO X.K X.mg W m) := pts_one h
end

/-! ### defs -/
/-- what a def does: the arguments (a list that the caller's name owns, or a value) to the answer and to what became of them -/
abbrev DF := List RV → Res RV
def spD (K : PySem.W.Frag) (mg : Str → Option Value) (D : DF) : Sp := fun vs H Q E => ∃ F B args, vs.length = args.length ∧ Sta K F B H (vs.map some) (args.map some) ∧
  Post K mg (fun c d _ H => E c d H) F B (vs.map some) (fun B' H' e' r => ∀ v, RvOk K F B' H' (vs.map some) e' v r → Q v H') (D args)
/-- the parameters' entries as they are left; those that were stored anew are not told -/
def keepE (keep : List Nat) (np : Nat) (e : En) : En := (List.range np).map fun i => if keep.contains i then (e[i]?).join else none
def runDef (n np : Nat) (keep : List Nat) (m : Ms) : DF := fun args => if args.length = np then match m (args.map some ++ List.replicate (n - np) none) with
    | .ok (.rt r) e => .ok r (keepE keep np e)
    | .ok .nx e => .ok (.val .none) (keepE keep np e)
    | .exc x e => .exc x (keepE keep np e)
    | _ => .bad
  else .bad
theorem keepE_get {keep : List Nat} {np : Nat} {e : En} {i : Nat} {r : RV} (h : (keepE keep np e)[i]? = some (some r)) : i < np ∧ i ∈ keep ∧ e[i]? = some (some r) := by
  unfold keepE at h
  rw [List.getElem?_map] at h
  by_cases hi : i < np
  · rw [List.getElem?_range hi] at h
    have h' : (if keep.contains i then (e[i]?).join else none) = some r := Option.some.inj h
    by_cases hk : keep.contains i
    · rw [if_pos hk] at h'
      refine ⟨hi, List.contains_iff_mem.mp hk, ?_⟩
      cases he : e[i]? with
      | none => rw [he] at h'; cases h'
      | some o => rw [he] at h'; exact congrArg some h'
    · rw [if_neg hk] at h'
      cases h'
  · rw [List.getElem?_eq_none (by rw [List.length_range]; omega)] at h
    cases h
theorem Sta.out {K : PySem.W.Frag} {F B H : Hp} {σ : L2.St} {e : En} {vs : List V} {keep : List Nat} {np : Nat} {N : List Str} (s : Sta K F B H σ e) (hl : vs.length = np) (k : Kept keep (L2.start N vs) σ) :
    Sta K F B H (vs.map some) (keepE keep np e) ∧ ∀ i, i < np → i ∈ keep → (vs.map some)[i]? = σ[i]? := by
  have same : ∀ i, i < np → i ∈ keep → (vs.map some)[i]? = σ[i]? := fun i hi hk => by
    rw [k i hk]
    unfold L2.start
    rw [List.getElem?_append_left (by rw [List.length_map]; omega)]
  refine ⟨⟨s.fh, s.bh, fun i r h => ?_, ?_, fun i j v ts us h1 h2 h3 h4 => ?_⟩, same⟩
  · obtain ⟨h1, h2, h3⟩ := keepE_get h
    rw [same i h1 h2]
    exact s.ent i r h3
  · unfold keepE
    rw [List.length_map, List.length_range, List.length_map]
    omega
  · obtain ⟨a1, a2, a3⟩ := keepE_get h1
    obtain ⟨b1, b2, b3⟩ := keepE_get h2
    rw [same i a1 a2] at h3
    rw [same j b1 b2] at h4
    exact s.dj i j v ts us a3 b3 h3 h4
/-- a def's body as a term, whatever a callee may let out -/
theorem okG {P : Program} {w : World} {K : PySem.W.Frag} {mg : Str → Option Value} {base : Heap} {CXX : CXT} {x qual : Str} {st : Stmt} {f : Addr} {fd : FuncData} {N ps : List Str} {k : Nat} {sp : Sp} (F : Fun K x qual st f fd) (S : FnScope N ps (defScope st)) (len : ∀ vs H Q E, sp vs H Q E → vs.length = ps.length)
    (hbody : ∀ (cdv : Value) (A : Around) (outer : List Env) (s : Shared) (H : Hp) (vs : List V) (Q : VK) (E : XK), Room k (A.deeper (envOfC qual (defScope st) s.heap.objs.size f cdv)) → sp vs H Q E →
      ∃ t, PSs (cxOf CXX P w K mg base N qual (defScope st) f cdv A outer s H E) (defBody st) t ∧ t { nx := fun _ H' => Q .non H', rt := Q } (L2.start N vs) H) : FnOk P w K mg base CXX (k + 1) f fd ps sp := by
  obtain ⟨oc, od, kV, doc, pm, an, cdv, ct, osl, e, lk, hcd⟩ := F.ex
  subst e
  exact fn_of lk hcd S len fun A outer s H vs Q E hr hsp => hbody cdv A outer s H vs Q E hr hsp
/-- THE RULE: a def keeps what its body does -/
theorem def_ok {P : Program} {w : World} {K : PySem.W.Frag} {mg : Str → Option Value} {base : Heap} {x qual : Str} {st : Stmt} {f : Addr} {fd : FuncData} {N ps : List Str} {k : Nat} {keep : List Nat} {m : Ms} (F : Fun K x qual st f fd) (S : FnScope N ps (defScope st))
    (hb : ∀ (cdv : Value) (A : Around) (outer : List Env) (s : Shared) (H : Hp) (E : XK), Room k (A.deeper (envOfC qual (defScope st) s.heap.objs.size f cdv)) →
      L2N.Takes (cxOf (L2N.CX P w) P w K mg base N qual (defScope st) f cdv A outer s H E) (fun c d _ H => E c d H) → PSs (cxOf (L2N.CX P w) P w K mg base N qual (defScope st) f cdv A outer s H E) (defBody st) (tS K mg (fun c d _ H => E c d H) keep m)) :
    FnOk P w K mg base (L2N.CX P w) (k + 1) f fd ps (spD K mg (runDef N.length ps.length keep m)) := by
  refine okG F S (fun vs H Q E h => ?_) (fun cdv A outer s H vs Q E hr h => ⟨_, hb cdv A outer s H E hr (L2N.takes_of rfl rfl rfl rfl), ?_⟩)
  · obtain ⟨F, B, args, hl, s, p⟩ := h
    unfold runDef at p
    by_cases ha : args.length = ps.length
    · exact hl.trans ha
    · rw [if_neg ha] at p
      exact p.elim
  · obtain ⟨F, B, args, hl, s, p⟩ := h
    unfold runDef at p
    by_cases ha : args.length = ps.length
    · rw [if_pos ha] at p
      have hlv : vs.length = ps.length := hl.trans ha
      have hNl : ps.length ≤ N.length := by
        have := congrArg List.length S.pre
        rw [List.length_take] at this
        omega
      refine ⟨F, B, args.map some ++ List.replicate (N.length - ps.length) none, ⟨s.fh, s.bh, fun i r h => ?_, ?_, fun i j v ts us h1 h2 h3 h4 => ?_⟩, ?_⟩
      · have hi : i < args.length := by
          by_cases hi : i < args.length
          · exact hi
          · rw [List.getElem?_append_right (by simpa using hi)] at h
            rw [List.getElem?_replicate] at h
            split at h <;> cases h
        rw [List.getElem?_append_left (by simpa using hi)] at h
        obtain ⟨v, h1, h2⟩ := s.ent i r h
        refine ⟨v, ?_, h2⟩
        unfold L2.start
        rw [List.getElem?_append_left (by rw [List.length_map]; omega)]
        exact h1
      · unfold L2.start
        rw [List.length_append, List.length_append, List.length_map, List.length_map, List.length_replicate, List.length_replicate]
        omega
      · have cut : ∀ (i : Nat) (r : RV), (args.map some ++ List.replicate (N.length - ps.length) none)[i]? = some (some r) → i < args.length ∧ (args.map some)[i]? = some (some r) := fun i r h => by
          have hi : i < args.length := by
            by_cases hi : i < args.length
            · exact hi
            · rw [List.getElem?_append_right (by simpa using hi)] at h
              rw [List.getElem?_replicate] at h
              split at h <;> cases h
          rw [List.getElem?_append_left (by simpa using hi)] at h
          exact ⟨hi, h⟩
        obtain ⟨a1, a2⟩ := cut i _ h1
        obtain ⟨b1, b2⟩ := cut j _ h2
        unfold L2.start at h3 h4
        rw [List.getElem?_append_left (by rw [List.length_map]; omega)] at h3 h4
        exact s.dj i j v ts us a2 b2 h3 h4
      · cases hm : m (args.map some ++ List.replicate (N.length - ps.length) none) with
        | ok o e' =>
          rw [hm] at p
          cases o with
          | nx =>
            intro σ' B' H' s' g k'
            obtain ⟨s2, same⟩ := s'.out hlv k'
            exact p B' H' s2 g .non ⟨.non, fun _ z => nomatch z⟩
          | rt r =>
            intro σ' v B' H' s' g k' o'
            obtain ⟨s2, same⟩ := s'.out hlv k'
            refine p B' H' s2 g v ⟨o'.1, fun ts er i us h1 h2 => ?_⟩
            obtain ⟨q1, q2, q3⟩ := keepE_get h1
            rw [same i q1 q2] at h2
            exact o'.2 ts er i us q3 h2
          | bk => exact p.elim
          | ct => exact p.elim
        | exc x e' =>
          rw [hm] at p
          intro σ' c d B' H' s' g k' x'
          obtain ⟨s2, same⟩ := s'.out hlv k'
          exact p c d B' H' s2 g x'
        | bad => rw [hm] at p; exact p.elim
    · rw [if_neg ha] at p
      exact p.elim
end TL
end
section
set_option Elab.async false
set_option linter.all false
set_option autoImplicit false
set_option maxRecDepth 100000
namespace TL
open PySem PySem.Spec PyProof.Rows L2

/-! ### calls of defs -/
def mCall (D : DF) (ms : Ml) : Mv := fun e => (ms e).bind fun ts e1 => match D (ts.map .val) with
  | .ok r _ => .ok r e1
  | .exc x _ => .exc x e1
  | .bad => .bad
theorem sta_vals {K : PySem.W.Frag} {F B H : Hp} {vs : List V} {ts : List T} (fh : Ex F H) (bh : Ex B H) (d : DqAll K B vs ts) : Sta K F B H (vs.map some) ((ts.map RV.val).map some) := by
  refine ⟨fh, bh, fun i r h => ?_, ?_, fun i j v us ws h1 => ?_⟩
  · rw [List.getElem?_map, List.getElem?_map] at h
    cases ht : ts[i]? with
    | none => rw [ht] at h; cases h
    | some t =>
      rw [ht] at h
      cases h
      obtain ⟨v, h1, h2⟩ := d.get ht
      exact ⟨v, by rw [List.getElem?_map, h1]; rfl, h2⟩
  · rw [List.length_map, List.length_map, List.length_map, d.len]
    exact Nat.le_refl _
  · rw [List.getElem?_map, List.getElem?_map] at h1
    cases ht : ts[i]? with
    | none => rw [ht] at h1; cases h1
    | some t => rw [ht] at h1; cases h1
section
variable {X : Cx} {W : WX} {k : Nat} {f : Addr} {fd : FuncData} {ps : List Str} {D : DF} {x : Str} {p pos : Pos} {a : Expr} {es : List Expr}
/-- behind a def that was handed values alone -/
theorem call_vals {K : PySem.W.Frag} {mg : Str → Option Value} {F B1 H1 : Hp} {σ : L2.St} {e1 : En} {vs : List V} {ts : List T} {Q : VK} (s1 : Sta K F B1 H1 σ e1) (ds : DqAll K B1 vs ts)
    (p1 : Post K mg W F B1 σ (fun B' H' e' r => ∀ v, RvOk K F B' H' σ e' v r → Q v H') (match D (ts.map .val) with
      | .ok r _ => .ok r e1
      | .exc x _ => .exc x e1
      | .bad => .bad)) : spD K mg D vs H1 Q (WE W σ) := by
  refine ⟨H1, B1, ts.map .val, by rw [List.length_map, ds.len], sta_vals (Ex.refl _) s1.bh ds, ?_⟩
  have nw : ∀ {B' H' : Hp} {e' : En}, Sta K H1 B' H' (vs.map some) e' → Grow H1 B1 B' → News B1 H1 B' H' := fun {B' H' e'} s g => ⟨g.ex, s.bh, s.fh, g.new⟩
  cases hD : D (ts.map .val) with
  | ok r e' =>
    rw [hD] at p1
    intro B' H' s' g' v o
    have n := nw s' g'
    obtain ⟨s2, g2, o2⟩ := NewOk.rv (z := r) (v := v) s1 ⟨n, by
      cases r with
      | val t => exact o.1
      | own us =>
        obtain ⟨b, xs, e, q1, q2, q3, q4⟩ := o.1
        exact ⟨b, xs, e, q1, q2, q3, q4⟩⟩
    exact p1 B' H' s2 g2 v o2
  | exc x e' =>
    rw [hD] at p1
    intro c d B' H' s' g' xo
    have n := nw s' g'
    exact p1 c d B' H' (s1.news n) (n.grow s1.fh) xo
  | bad => rw [hD] at p1; exact p1.elim
theorem x_call {ms : Ml} (F : FnOk X.prog X.w X.K X.mg X.base (L2N.CX X.prog X.w) k f fd ps (spD X.K X.mg D)) (hr : Room k X.A) (tk : L2N.Takes X W) (hg : Gl X x) (hm : X.mg x = some (.ref f)) (hk : PySem.W.keepIn X.K (.ref f) = true) (hb : Binds X.K fd ps [])
    (ha : PA X (a :: es) (tL X.K X.mg W ms)) (hdb : (x == ("__debug__" : Str)) = false := by decide) (he : starEach (a :: es) X.env = (false, eval a X.env) :: starEach es X.env := by rfl) (hpl : (backTo pos (starEach es X.env)).any (·.1) = false := by rfl) :
    PE X (.Call (.Name x p) (a :: es) [] pos) (tV X.K X.mg W (mCall D ms)) := PE.imp (pe_callS (E := WE W) F hr hg hm hk hb (L2N.passAt tk) ha hdb he hpl) fun σ H Q q => by
  obtain ⟨F, B, e, s, p⟩ := q
  exact ⟨F, B, e, s, (Post.unbind p).mono fun B1 H1 e1 ts s1 g1 p1 vs ds => call_vals s1 ds p1⟩
/-- f(): no argument -/
def mCall00 (D : DF) : Mv := mCall D mNil
theorem x_call0 (F : FnOk X.prog X.w X.K X.mg X.base (L2N.CX X.prog X.w) k f fd ps (spD X.K X.mg D)) (hr : Room k X.A) (tk : L2N.Takes X W) (hg : Gl X x) (hm : X.mg x = some (.ref f)) (hk : PySem.W.keepIn X.K (.ref f) = true) (hb : Binds X.K fd ps [])
    (hdb : (x == ("__debug__" : Str)) = false := by decide) :
    PE X (.Call (.Name x p) [] [] pos) (tV X.K X.mg W (mCall00 D)) := by
  refine ⟨fun pins s σ H Q I q => ?_⟩
  refine wpAny_Call_Name_kw (ld_glob I hg hm ?_ hdb)
  refine PySem.W.callWith_K0 I.kIn hk (run_fnS (E := WE W) (us := []) (vs := []) F hr hb (L2N.passAt tk σ) I .nil ?_)
  obtain ⟨F, B, e, s, p⟩ := q
  exact call_vals (ts := []) s .nil p
/-- the first argument a name, whose list may be changed -/
def afterP (D : DF) (i : Nat) (ts : List T) (e1 : En) : Res RV := match e1[i]? with
  | some (some r0) => match D (r0 :: ts.map .val) with
    | .ok r e' => .ok r (match r0 with
      | .own _ => e1.set i (e'[0]?).join
      | _ => e1)
    | .exc x e' => .exc x (match r0 with
      | .own _ => e1.set i (e'[0]?).join
      | _ => e1)
    | .bad => .bad
  | _ => .bad
def mCallP (D : DF) (i : Nat) (ms : Ml) : Mv := fun e => match e[i]? with
  | some (some _) => (ms e).bind fun ts e1 => afterP D i ts e1
  | _ => .bad
theorem Sta.own_cons {K : PySem.W.Frag} {F B H : Hp} {b : Addr} {xs vs : List V} {us : List T} {ts : List T} (fh : Ex F H) (bh : Ex B H) (q1 : F (b : Addr) = none) (q2 : B b = none) (q3 : H b = some (.lst xs)) (q4 : DqAll K B xs us) (d : ∃ ws, vs = .ref b :: ws ∧ DqAll K B ws ts) :
    Sta K F B H (vs.map some) ((RV.own us :: ts.map RV.val).map some) := by
  obtain ⟨ws, rfl, d⟩ := d
  have s0 := sta_vals fh bh d
  refine ⟨fh, bh, fun i r h => ?_, ?_, fun i j v us' ws' h1 h2 _ _ => ?_⟩
  · cases i with
    | zero =>
      cases h
      exact ⟨_, rfl, b, xs, rfl, q1, q2, q3, q4⟩
    | succ i => exact s0.ent i r h
  · have := s0.ln
    simp only [List.map_cons, List.length_cons]
    omega
  · have none' : ∀ (j : Nat) us, ((ts.map RV.val).map some)[j]? ≠ some (some (RV.own us)) := fun j us h => by
      rw [List.getElem?_map, List.getElem?_map] at h
      cases ht : ts[j]? with
      | none => rw [ht] at h; cases h
      | some t => rw [ht] at h; cases h
    cases i with
    | zero =>
      cases j with
      | zero => rfl
      | succ j => exact absurd h2 (none' j _)
    | succ i => exact absurd h1 (none' i _)
def except (H : Hp) (p : Addr) : Hp := fun a => if a = p then none else H a
theorem call_own {K : PySem.W.Frag} {mg : Str → Option Value} {F B1 H1 : Hp} {σ : L2.St} {e1 : En} {i : Nat} {v0 : V} {ws : List V} {us ts : List T} {Q : VK} (s1 : Sta K F B1 H1 σ e1) (he : e1[i]? = some (some (.own us))) (hv : σ[i]? = some (some v0)) (ds : DqAll K B1 ws ts)
    (p1 : Post K mg W F B1 σ (fun B' H' e' r => ∀ v, RvOk K F B' H' σ e' v r → Q v H') (match D (.own us :: ts.map .val) with
      | .ok r e' => .ok r (e1.set i (e'[0]?).join)
      | .exc x e' => .exc x (e1.set i (e'[0]?).join)
      | .bad => .bad)) : spD K mg D (v0 :: ws) H1 Q (WE W σ) := by
  obtain ⟨v, hv', b, xs, rfl, q1, q2, q3, q4⟩ := s1.ent i _ he
  rw [hv] at hv'
  cases hv'
  have hi := (List.getElem?_eq_some_iff.mp he).1
  have fh : Ex (except H1 b) H1 := fun a o h => by
    unfold except at h
    split at h
    · cases h
    · exact h
  have fb : except H1 b b = none := if_pos rfl
  have fo : ∀ {a : Addr} {o : HO}, a ≠ b → H1 a = some o → except H1 b a = some o := fun {a o} hne h => by
    unfold except
    rw [if_neg hne]
    exact h
  have fn : ∀ {a : Addr}, except H1 b a = none → F a = none := fun {a} h => by
    by_cases hab : a = b
    · rw [hab]; exact q1
    · unfold except at h
      rw [if_neg hab] at h
      exact s1.fh.back h
  refine ⟨except H1 b, B1, .own us :: ts.map .val, by rw [List.length_cons, List.length_cons, List.length_map, ds.len], Sta.own_cons fh s1.bh fb q2 q3 q4 ⟨ws, rfl, ds⟩, ?_⟩
  -- behind the call
  have aft : ∀ {B' H' : Hp} {e' : En}, Sta K (except H1 b) B' H' ((V.ref b :: ws).map some) e' → Grow (except H1 b) B1 B' → Sta K F B' H' σ (e1.set i (e'[0]?).join) ∧ Grow F B1 B' := fun {B' H' e'} s g => by
    have get : ∀ (j : Nat) (r : RV), (e1.set i (e'[0]?).join)[j]? = some (some r) → (j = i ∧ e'[0]? = some (some r)) ∨ (j ≠ i ∧ e1[j]? = some (some r)) := fun j r h => by
      by_cases hj : i = j
      · subst hj
        rw [List.getElem?_set_self hi] at h
        refine .inl ⟨rfl, ?_⟩
        cases h0 : e'[0]? with
        | none => rw [h0] at h; cases h
        | some o => rw [h0] at h; exact h
      · rw [List.getElem?_set_ne hj] at h
        exact .inr ⟨Ne.symm hj, h⟩
    have apart : ∀ (j : Nat) (ys : List T) (v : V), j ≠ i → e1[j]? = some (some (.own ys)) → σ[j]? = some (some v) → v ≠ .ref b := fun j ys v hj h1 h2 z => by
      subst z
      exact hj (s1.dj j i _ _ _ h1 he h2 hv)
    refine ⟨⟨fun a o h => ?_, s.bh, fun j r h => ?_, by rw [List.length_set]; exact s1.ln, fun j k v ys zs h1 h2 h3 h4 => ?_⟩, ⟨g.ex, fun a h1 h2 => fn (g.new a h1 h2)⟩⟩
    · have hne : a ≠ b := fun z => by
        rw [z, q1] at h
        cases h
      exact s.fh a o (fo hne (s1.fh a o h))
    · rcases get j r h with ⟨rfl, h0⟩ | ⟨hj, h⟩
      · obtain ⟨v, h1, h2⟩ := s.ent 0 r h0
        cases h1
        refine ⟨_, hv, ?_⟩
        cases r with
        | val t => exact h2
        | own ys =>
          obtain ⟨c, zs, e, r1, r2, r3, r4⟩ := h2
          cases e
          exact ⟨_, zs, rfl, q1, r2, r3, r4⟩
      · obtain ⟨v, h1, h2⟩ := s1.ent j r h
        refine ⟨v, h1, ?_⟩
        cases r with
        | val t => exact dq_ex g.ex _ _ h2
        | own ys =>
          have hne := apart j ys v hj h h1
          obtain ⟨c, zs, rfl, r1, r2, r3, r4⟩ := h2
          have hcb : c ≠ b := fun z => hne (by rw [z])
          have hF := fo hcb r3
          exact ⟨c, zs, rfl, r1, g.none r2 hF, s.fh c _ hF, dqs_ex g.ex _ _ r4⟩
    · rcases get j _ h1 with ⟨rfl, h1'⟩ | ⟨hj, h1'⟩
      · rcases get k _ h2 with ⟨rfl, _⟩ | ⟨hk, h2'⟩
        · rfl
        · rw [hv] at h3
          cases h3
          exact absurd rfl (apart k zs _ hk h2' h4)
      · rcases get k _ h2 with ⟨rfl, _⟩ | ⟨hk, h2'⟩
        · rw [hv] at h4
          cases h4
          exact absurd rfl (apart j ys _ hj h1' h3)
        · exact s1.dj j k v ys zs h1' h2' h3 h4
  cases hD : D (.own us :: ts.map .val) with
  | ok r e' =>
    rw [hD] at p1
    intro B' H' s' g' v o
    obtain ⟨s2, g2⟩ := aft s' g'
    refine p1 B' H' s2 g2 v ⟨?_, fun ys er j zs h1 h2 => ?_⟩
    · cases r with
      | val t => exact o.1
      | own ys =>
        obtain ⟨c, zs, e, r1, r2, r3, r4⟩ := o.1
        exact ⟨c, zs, e, fn r1, r2, r3, r4⟩
    · subst er
      obtain ⟨c, xs', e, r1, r2, r3, r4⟩ := o.1
      by_cases hj : i = j
      · subst hj
        rw [List.getElem?_set_self hi] at h1
        rw [hv] at h2
        cases h2
        refine o.2 ys rfl 0 zs ?_ rfl
        cases h0 : e'[0]? with
        | none => rw [h0] at h1; cases h1
        | some o => rw [h0] at h1; exact h1
      · rw [List.getElem?_set_ne hj] at h1
        obtain ⟨w, w1, c', xs2, e2, t1, t2, t3, t4⟩ := s1.ent j _ h1
        rw [h2] at w1
        cases w1
        rw [e] at e2
        cases e2
        have hcb : c ≠ b := fun z => by
          subst z
          subst e
          exact hj (s1.dj i j _ _ _ he h1 hv h2)
        rw [fo hcb t3] at r1
        cases r1
  | exc x e' =>
    rw [hD] at p1
    intro c d B' H' s' g' xo
    obtain ⟨s2, g2⟩ := aft s' g'
    exact p1 c d B' H' s2 g2 xo
  | bad => rw [hD] at p1; exact p1.elim
theorem sp_cons {K : PySem.W.Frag} {mg : Str → Option Value} {F B1 H1 : Hp} {σ : L2.St} {e1 : En} {i : Nat} {v0 : V} {ws : List V} {ts : List T} {Q : VK} (s1 : Sta K F B1 H1 σ e1) (hv : σ[i]? = some (some v0)) (ds : DqAll K B1 ws ts)
    (p1 : Post K mg W F B1 σ (fun B' H' e' r => ∀ v, RvOk K F B' H' σ e' v r → Q v H') (afterP D i ts e1)) : spD K mg D (v0 :: ws) H1 Q (WE W σ) := by
  unfold afterP at p1
  cases he : e1[i]? with
  | none => rw [he] at p1; exact p1.elim
  | some o =>
    cases o with
    | none => rw [he] at p1; exact p1.elim
    | some r0 =>
      rw [he] at p1
      cases r0 with
      | val t =>
        obtain ⟨v, h1, h2⟩ := s1.ent i _ he
        rw [hv] at h1
        cases h1
        refine call_vals (vs := v0 :: ws) (ts := t :: ts) s1 (.cons h2 ds) ?_
        dsimp only at p1
        exact p1
      | own us => exact call_own s1 he hv ds p1
theorem x_callP {ms : Ml} {i : Nat} {y : Str} {yp : Pos} (F : FnOk X.prog X.w X.K X.mg X.base (L2N.CX X.prog X.w) k f fd ps (spD X.K X.mg D)) (hr : Room k X.A) (tk : L2N.Takes X W) (hg : Gl X x) (hm : X.mg x = some (.ref f)) (hk : PySem.W.keepIn X.K (.ref f) = true) (hb : Binds X.K fd ps [])
    (hN : X.N[i]? = some y) (hv : Vis X.env.scope y) (ha : PA X es (tL X.K X.mg W ms)) (hd : (y == ("__debug__" : Str)) = false := by decide) (hcd : (y == ("__classdict__" : Str)) = false := by decide) (hdb : (x == ("__debug__" : Str)) = false := by decide)
    (he : starEach (Expr.Name y yp :: es) X.env = (false, eval (Expr.Name y yp) X.env) :: starEach es X.env := by rfl) (hpl : (backTo pos (starEach es X.env)).any (·.1) = false := by rfl) :
    PE X (.Call (.Name x p) (.Name y yp :: es) [] pos) (tV X.K X.mg W (mCallP D i ms)) := PE.imp (pe_callS (E := WE W) F hr hg hm hk hb (L2N.passAt tk) (pa_cons (pe_var hN hv hd hcd) ha he) hdb he hpl) fun σ H Q q => by
  obtain ⟨F, B, e, s, p⟩ := q
  unfold mCallP at p
  cases hei : e[i]? with
  | none => rw [hei] at p; exact p.elim
  | some o =>
    cases o with
    | none => rw [hei] at p; exact p.elim
    | some r0 =>
      rw [hei] at p
      obtain ⟨v0, hv0, _⟩ := s.ent i _ hei
      exact ⟨v0, hv0, F, B, e, s, (Post.unbind (f := fun ts e1 => afterP D i ts e1) p).mono fun B1 H1 e1 ts s1 g1 p1 vs ds => sp_cons s1 hv0 ds p1⟩
def ints? : List (T × T) → Option (List Int)
  | [] => some []
  | (.int i, .none) :: r => (ints? r).map (i :: ·)
  | _ => none
theorem ints_ok : ∀ {ns ms : List Int}, ints? (ns.map fun n => (.int n, .none)) = some ms → ms = ns
  | [], _, h => by cases h; rfl
  | n :: ns, ms, h => by
    have h' : (ints? (ns.map fun n => (PyData.int n, PyData.none))).map (n :: ·) = some ms := h
    cases q : ints? (ns.map fun n => (PyData.int n, PyData.none)) with
    | none => rw [q] at h'; cases h'
    | some r =>
      rw [q] at h'
      cases h'
      rw [ints_ok q]
/-- the items of what is walked, or asked for its length -/
def items : T → Option (List T)
  | .list ts => some ts
  | .tuple ts => some ts
  | .dict kvs => (ints? kvs).map fun ns => ns.map .int
  | _ => none
theorem dq_ints {K : PySem.W.Frag} {B : Hp} : ∀ ns : List Int, DqAll K B (ns.map V.int) (ns.map PyData.int)
  | [] => .nil
  | n :: ns => .cons (.int n) (dq_ints ns)
theorem items_ok {K : PySem.W.Frag} {B : Hp} {x : V} {t : T} {ts : List T} (d : Dq K B x t) (h : items t = some ts) : ∃ a xs, x = .ref a ∧ DqAll K B xs ts ∧ ((∀ H, Ex B H → SqL K H a xs) ∨ ∀ H, Ex B H → SqT K H a xs) := by
  cases d with
  | lst hs ha => cases h; exact ⟨_, _, rfl, ha, .inl fun H ex => .inl (ex_rd ex hs)⟩
  | tup hs ha => cases h; exact ⟨_, _, rfl, ha, .inr fun H ex => ex_t ex hs.t⟩
  | prs hs h1 h2 =>
    exfalso
    have h' : (ints? [(_, _), (.bool true, .none)]).map (fun ns => ns.map PyData.int) = some ts := h
    unfold ints? at h'
    split at h'
    · rename_i q
      cases q
    · rename_i q
      injection q with q1 q2
      subst q2
      cases h'
    · cases h'
  | @scr a ns hs =>
    have h' : (ints? (ns.map fun n => (.int n, .none))).map (fun ns => ns.map PyData.int) = some ts := h
    cases q : ints? (ns.map fun n => (PyData.int n, PyData.none)) with
    | none => rw [q] at h'; cases h'
    | some r =>
      rw [q] at h'
      cases h'
      rw [ints_ok q]
      exact ⟨a, _, rfl, dq_ints ns, .inl fun H ex => ex_l ex hs⟩
  | exn h1 h2 h3 => cases h
  | _ => cases h
/-! ### a name's list: read, changed -/
/-- the data of a name, nothing laid down -/
def peek (e : En) (i : Nat) : Option (List T) := match e[i]? with
  | some (some (.own ts)) => some ts
  | some (some (.val t)) => items t
  | _ => none
theorem peek_ok {K : PySem.W.Frag} {F B H : Hp} {σ : L2.St} {e : En} {i : Nat} {ts : List T} (s : Sta K F B H σ e) (h : peek e i = some ts) : ∃ a xs, σ[i]? = some (some (.ref a)) ∧ (SqL K H a xs ∨ SqT K H a xs) ∧ DqAll K B xs ts := by
  unfold peek at h
  cases he : e[i]? with
  | none => rw [he] at h; cases h
  | some o =>
    cases o with
    | none => rw [he] at h; cases h
    | some r =>
      obtain ⟨v, h1, h2⟩ := s.ent i r he
      rw [he] at h
      cases r with
      | own us =>
        cases h
        obtain ⟨a, xs, rfl, q1, q2, q3, q4⟩ := h2
        exact ⟨a, xs, h1, .inl (.inl (.inl q3)), q4⟩
      | val t =>
        obtain ⟨a, xs, rfl, q1, q2⟩ := items_ok (B := B) h2 h
        rcases q2 with q2 | q2
        · exact ⟨a, xs, h1, .inl (q2 H s.bh), q1⟩
        · exact ⟨a, xs, h1, .inr (q2 H s.bh), q1⟩
def mLenV (i : Nat) : Mt := fun e => match peek e i with
  | some ts => .ok (.int (ts.length : Int)) e
  | none => .bad
theorem x_lenV {i : Nat} {y : Str} {yp : Pos} (hg : Gl X "len") (hm : X.mg "len" = none) (hN : X.N[i]? = some y) (hv : Vis X.env.scope y) (hd : (y == ("__debug__" : Str)) = false := by decide) (hcd : (y == ("__classdict__" : Str)) = false := by decide)
    (he : starEach [Expr.Name y yp] X.env = (false, eval (Expr.Name y yp) X.env) :: starEach [] X.env := by rfl) (hpl : (backTo pos (starEach [] X.env)).any (·.1) = false := by rfl) :
    PE X (.Call (.Name "len" p) [.Name y yp] [] pos) (tT X.K X.mg W (mLenV i)) := PE.imp (pe_callB call_len_seq hg hm PySem.boot_len (pa_cons (pe_var hN hv hd hcd) pa_nil he) (by decide) (by decide) he hpl) fun σ H Q q => by
  obtain ⟨F, B, e, s, p⟩ := q
  unfold mLenV at p
  cases h : peek e i with
  | none => rw [h] at p; exact p.elim
  | some ts =>
    rw [h] at p
    obtain ⟨a, xs, h1, h2, h3⟩ := peek_ok s h
    refine ⟨_, h1, a, xs, rfl, h2, ?_⟩
    rw [h3.len]
    exact p B H s .refl _ (.int _)
/-- x[e] of a name -/
def mIxV (i : Nat) (m : Mt) : Mt := fun e => match e[i]? with
  | some (some _) => (m e).bind fun t e1 => match peek e1 i, t with
    | some ts, .int j => match atI ts j with
      | some u => .ok u e1
      | none => .bad
    | _, _ => .bad
  | _ => .bad
theorem atI_rel {K : PySem.W.Frag} {B : Hp} {xs : List V} {ts : List T} {j : Int} {u : T} (d : DqAll K B xs ts) (h : atI ts j = some u) : ∃ v, atI xs j = some v ∧ Dq K B v u := by
  unfold atI at h ⊢
  rw [d.len]
  cases hi : ixN ts.length j with
  | none => rw [hi] at h; cases h
  | some n =>
    rw [hi] at h
    exact d.get h
theorem x_ixV {i : Nat} {y : Str} {yp : Pos} {m : Mt} (hN : X.N[i]? = some y) (hv : Vis X.env.scope y) (hb : PE X a (tT X.K X.mg W m)) (hs : PlainIx a) (hd : (y == ("__debug__" : Str)) = false := by decide) (hcd : (y == ("__classdict__" : Str)) = false := by decide) :
    PE X (.Subscript (.Name y yp) a pos) (tT X.K X.mg W (mIxV i m)) := PE.imp (pe_ix (ix_list.or ix_tup) (pe_var hN hv hd hcd) hb hs) fun σ H Q q => by
  obtain ⟨F, B, e, s, p⟩ := q
  unfold mIxV at p
  cases hei : e[i]? with
  | none => rw [hei] at p; exact p.elim
  | some o =>
    cases o with
    | none => rw [hei] at p; exact p.elim
    | some r0 =>
      rw [hei] at p
      obtain ⟨v0, hv0, _⟩ := s.ent i _ hei
      refine ⟨v0, hv0, F, B, e, s, (Post.unbind p).mono fun B1 H1 e1 t s1 g1 p1 v d => ?_⟩
      cases h : peek e1 i with
      | none => rw [h] at p1; exact p1.elim
      | some ts =>
        rw [h] at p1
        obtain ⟨b, xs, h1, h2, h3⟩ := peek_ok s1 h
        rw [hv0] at h1
        cases h1
        cases t with
        | int j =>
          cases d
          dsimp only at p1
          cases ha : atI ts j with
          | none => rw [ha] at p1; exact p1.elim
          | some u =>
            rw [ha] at p1
            obtain ⟨w, w1, w2⟩ := atI_rel h3 ha
            have fin := p1 B1 H1 s1 .refl w w2
            rcases h2 with h2 | h2
            · exact .inl ⟨b, xs, j, w, rfl, rfl, h2, w1, fin⟩
            · exact .inr ⟨b, xs, j, w, rfl, rfl, h2, w1, fin⟩
        | _ => exact p1.elim
theorem Sta.write {K : PySem.W.Frag} {F B H : Hp} {σ : L2.St} {e : En} {i : Nat} {b : Addr} {ts us : List T} {ys : List V} (s : Sta K F B H σ e) (he : e[i]? = some (some (.own ts))) (hv : σ[i]? = some (some (.ref b))) (d : DqAll K B ys us) :
    Sta K F B (upd H b (.lst ys)) σ (e.set i (some (.own us))) := by
  obtain ⟨v, h1, b', xs, e1, q1, q2, q3, q4⟩ := s.ent i _ he
  rw [hv] at h1
  cases h1
  cases e1
  have hi := (List.getElem?_eq_some_iff.mp he).1
  have get : ∀ (j : Nat) (r : RV), (e.set i (some (.own us)))[j]? = some (some r) → (j = i ∧ r = .own us) ∨ (j ≠ i ∧ e[j]? = some (some r)) := fun j r h => by
    by_cases hj : i = j
    · subst hj
      rw [List.getElem?_set_self hi] at h
      cases h
      exact .inl ⟨rfl, rfl⟩
    · rw [List.getElem?_set_ne hj] at h
      exact .inr ⟨Ne.symm hj, h⟩
  refine ⟨fun a o h => ?_, fun a o h => ?_, fun j r h => ?_, by rw [List.length_set]; exact s.ln, fun j k v ws zs h1 h2 h3 h4 => ?_⟩
  · rw [upd_ne (ne_of_none h q1)]
    exact s.fh a o h
  · rw [upd_ne (ne_of_none h q2)]
    exact s.bh a o h
  · rcases get j r h with ⟨rfl, rfl⟩ | ⟨hj, h⟩
    · exact ⟨_, hv, b, ys, rfl, q1, q2, upd_same, d⟩
    · obtain ⟨v, h1, h2⟩ := s.ent j r h
      refine ⟨v, h1, ?_⟩
      cases r with
      | val t => exact h2
      | own ws =>
        obtain ⟨c, zs, rfl, r1, r2, r3, r4⟩ := h2
        have hne : c ≠ b := fun z => by
          subst z
          exact hj (s.dj j i _ _ _ h he h1 hv)
        exact ⟨c, zs, rfl, r1, r2, by rw [upd_ne hne]; exact r3, r4⟩
  · rcases get j _ h1 with ⟨rfl, _⟩ | ⟨hj, h1'⟩
    · rcases get k _ h2 with ⟨rfl, _⟩ | ⟨hk, h2'⟩
      · rfl
      · exact s.dj j k v ts zs he h2' h3 h4
    · rcases get k _ h2 with ⟨rfl, _⟩ | ⟨hk, h2'⟩
      · exact s.dj j k v ws ts h1' he h3 h4
      · exact s.dj j k v ws zs h1' h2' h3 h4
/-- x.append(e) -/
def mApp (i : Nat) (m : Mt) : Mv := fun e => match e[i]? with
  | some (some (.own _)) => (m e).bind fun t e1 => match e1[i]? with
    | some (some (.own ts)) => if ts.length < 100000 then .ok (.val .none) (e1.set i (some (.own (ts ++ [t])))) else .bad
    | _ => .bad
  | _ => .bad
theorem x_app {i : Nat} {y : Str} {yp apos : Pos} {m : Mt} (hN : X.N[i]? = some y) (hv : Vis X.env.scope y) (ha : PE X a (tT X.K X.mg W m)) (hd : (y == ("__debug__" : Str)) = false := by decide) (hcd : (y == ("__classdict__" : Str)) = false := by decide)
    (hbase : attributeBase (.Name y yp) "append" X.env (eval (.Name y yp) X.env) = eval (.Name y yp) X.env := by rfl)
    (hfew : ((backTo pos (starEach [a] X.env)).all (fun x => !x.1) && (backToKw pos (keywordEach [] X.env)).all (fun x => x.1.isSome)
      && decide (([a] : List Expr).length + ([] : List Keyword).length + (if ([] : List Keyword).isEmpty then 0 else 1) < 30)) = true := by rfl)
    (hline : (apos.endLine == pos.line) = true := by rfl) (hs : starEach [a] X.env = (false, eval a X.env) :: starEach [] X.env := by rfl) (hplain : (backTo pos (starEach [] X.env)).any (·.1) = false := by rfl) :
    PE X (.Call (.Attribute (.Name y yp) "append" apos) [a] [] pos) (tV X.K X.mg W (mApp i m)) :=
  PE.imp (pe_bm PySem.F.plainAttrs_list PySem.F.slot_list_append PySem.F.type_list_append mt_append (pe_var hN hv hd hcd) (pa_cons ha pa_nil hs) hbase hfew hline hs hplain) fun σ H Q q => by
  obtain ⟨F, B, e, s, p⟩ := q
  unfold mApp at p
  cases hei : e[i]? with
  | none => rw [hei] at p; exact p.elim
  | some o =>
    cases o with
    | none => rw [hei] at p; exact p.elim
    | some r0 =>
      rw [hei] at p
      cases r0 with
      | val t => exact p.elim
      | own ts0 =>
        obtain ⟨v0, hv0, b, xs, rfl, q1, q2, q3, q4⟩ := s.ent i _ hei
        refine ⟨.ref b, hv0, .inl ⟨rfl, xs, .inl (.inl q3)⟩, F, B, e, s, (Post.unbind p).mono fun B1 H1 e1 t s1 g1 p1 v d => ?_⟩
        cases h : e1[i]? with
        | none => rw [h] at p1; exact p1.elim
        | some o1 =>
          cases o1 with
          | none => rw [h] at p1; exact p1.elim
          | some r1 =>
            rw [h] at p1
            cases r1 with
            | val t => exact p1.elim
            | own ts =>
              dsimp only at p1
              by_cases hz : ts.length < 100000
              · rw [if_pos hz] at p1
                obtain ⟨v1, hv1, c, ys, rfl, t1, t2, t3, t4⟩ := s1.ent i _ h
                rw [hv0] at hv1
                cases hv1
                exact ⟨b, ys, v, rfl, rfl, t3, bigL (by rw [t4.len]; exact hz), p1 B1 _ (s1.write h hv0 (t4.app (.one d))) .refl _ ⟨.non, fun _ z => nomatch z⟩⟩
              · rw [if_neg hz] at p1
                exact p1.elim
/-- x.pop() -/
def mPop (i : Nat) : Mt := fun e => match e[i]? with
  | some (some (.own ts)) => match ts[ts.length - 1]? with
    | some t => .ok t (e.set i (some (.own ts.dropLast)))
    | none => .bad
  | _ => .bad
theorem DqAll.dropLast {K : PySem.W.Frag} {H : Hp} {vs : List V} {ds : List T} (h : DqAll K H vs ds) : DqAll K H vs.dropLast ds.dropLast := by
  rw [List.dropLast_eq_take, List.dropLast_eq_take, h.len]
  exact h.take _
theorem x_pop {i : Nat} {y : Str} {yp apos : Pos} (hN : X.N[i]? = some y) (hv : Vis X.env.scope y) (hd : (y == ("__debug__" : Str)) = false := by decide) (hcd : (y == ("__classdict__" : Str)) = false := by decide)
    (hbase : attributeBase (.Name y yp) "pop" X.env (eval (.Name y yp) X.env) = eval (.Name y yp) X.env := by rfl) (hline : (apos.endLine == pos.line) = true := by rfl) :
    PE X (.Call (.Attribute (.Name y yp) "pop" apos) [] [] pos) (tT X.K X.mg W (mPop i)) :=
  PE.imp (pe_bm0 PySem.F.plainAttrs_list PySem.F.slot_list_pop PySem.F.type_list_pop mt_pop (pe_var hN hv hd hcd) hbase hline) fun σ H Q q => by
  obtain ⟨F, B, e, s, p⟩ := q
  unfold mPop at p
  cases hei : e[i]? with
  | none => rw [hei] at p; exact p.elim
  | some o =>
    cases o with
    | none => rw [hei] at p; exact p.elim
    | some r0 =>
      rw [hei] at p
      cases r0 with
      | val t => exact p.elim
      | own ts =>
        obtain ⟨v0, hv0, b, xs, rfl, q1, q2, q3, q4⟩ := s.ent i _ hei
        dsimp only at p
        cases ht : ts[ts.length - 1]? with
        | none => rw [ht] at p; exact p.elim
        | some t =>
          rw [ht] at p
          obtain ⟨v, h1, h2⟩ := q4.get ht
          exact ⟨.ref b, hv0, .inl ⟨rfl, xs, .inl (.inl q3)⟩, b, xs, v, rfl, rfl, q3, by rw [q4.len]; exact h1, p B _ (s.write hei hv0 q4.dropLast) .refl v h2⟩
/-- x[e] = e' -/
def mSetIx (i : Nat) (mi me : Mt) : Ms := fun e => (me e).bind fun t e1 => match e1[i]? with
  | some (some (.own _)) => (mi e1).bind fun j e2 => match e2[i]?, j with
    | some (some (.own ts)), .int j => match ixN ts.length j with
      | some n => .ok .nx (e2.set i (some (.own (ts.set n t))))
      | none => .bad
    | _, _ => .bad
  | _ => .bad
theorem s_setIx {keep : List Nat} {ie : Expr} {i : Nat} {y : Str} {yp spos : Pos} {mi me : Mt} (hN : X.N[i]? = some y) (hv : Vis X.env.scope y) (hi : PE X ie (tT X.K X.mg W mi)) (he : PE X a (tT X.K X.mg W me)) (hd : (y == ("__debug__" : Str)) = false := by decide) (hcd : (y == ("__classdict__" : Str)) = false := by decide)
    (ha : ∀ v, assign (.Subscript (.Name y yp) ie pos) X.env v = (do
      let ov ← holding [v] (eval (.Name y yp) X.env)
      let iv ← holding [v, ov] (eval ie X.env)
      standAt pos
      holding [v, ov, iv] (setItem ov iv v)
      release [v, ov, iv] []) := by intro _; rfl)
    (hs : swapsWithSole [.Subscript (.Name y yp) ie pos] a spos.line X.env = pure false := by rfl) (hw : swappedStores [.Subscript (.Name y yp) ie pos] a X.env = pure none := by rfl) (h1 : (assignEach [.Subscript (.Name y yp) ie pos] X.env).map (·.2) = [assign (.Subscript (.Name y yp) ie pos) X.env] := by rfl) :
    PS X (.Assign [.Subscript (.Name y yp) ie pos] a spos) (tS X.K X.mg W keep (mSetIx i mi me)) := PS.imp (ps_asg he (pg_sub (pe_var hN hv hd hcd) hi set_list ha) hs hw h1) fun D σ H q => by
  obtain ⟨F, B, e, s, p⟩ := q
  refine ⟨F, B, e, s, (PostS.unbind p).mono fun B1 H1 e1 t s1 g1 p1 v d => ?_⟩
  cases hei : e1[i]? with
  | none => rw [hei] at p1; exact p1.elim
  | some o =>
    cases o with
    | none => rw [hei] at p1; exact p1.elim
    | some r0 =>
      rw [hei] at p1
      cases r0 with
      | val t => exact p1.elim
      | own ts0 =>
        obtain ⟨v0, hv0, b, xs, rfl, q1, q2, q3, q4⟩ := s1.ent i _ hei
        refine ⟨.ref b, hv0, F, B1, e1, s1, (PostS.unbind p1).mono fun B2 H2 e2 j s2 g2 p2 jv jd => ?_⟩
        cases h : e2[i]? with
        | none => rw [h] at p2; exact p2.elim
        | some o1 =>
          cases o1 with
          | none => rw [h] at p2; exact p2.elim
          | some r1 =>
            rw [h] at p2
            cases r1 with
            | val t => exact p2.elim
            | own ts =>
              cases j with
              | int j =>
                cases jd
                dsimp only at p2
                cases hn : ixN ts.length j with
                | none => rw [hn] at p2; exact p2.elim
                | some n =>
                  rw [hn] at p2
                  obtain ⟨v1, hv1, c, ys, rfl, t1, t2, t3, t4⟩ := s2.ent i _ h
                  rw [hv0] at hv1
                  cases hv1
                  exact ⟨b, ys, j, n, rfl, rfl, t3, by rw [t4.len]; exact hn, p2 σ B2 _ (s2.write h hv0 (DqAll.set (dq_ex g2.ex _ _ d) n t4)) .refl .refl⟩
              | _ => exact p2.elim
end
end TL
end
section
set_option Elab.async false
set_option linter.all false
set_option autoImplicit false
set_option maxRecDepth 100000
/-! enumerate of a tuple over the layer -/
namespace TL
open PySem PySem.Spec PyProof.Rows L2

set_option maxHeartbeats 1000000 in
theorem meets_enumerate_new1 {v : Value} {o : Obj} {H : Heap → Prop} (B : Begins v o H) :
    Meets (Builtin.«enumerate.__new__» ⟨[.type "enumerate", v], []⟩) (fun _ R s => H s.heap ∧
      R (.ok (.ret (.ref (s.heap.push o).objs.size))) { s with heap := (s.heap.push o).push { cls := .type "enumerate", data := .fields #[.none, .bool false, .ref s.heap.objs.size, rawInt 0, .none, .none] } }) :=
  .of_wp fun prog w A R s h => by
    obtain ⟨hp, g, d, tk, os⟩ := s; obtain ⟨h1, h⟩ := h
    have hsub := sub_enumerate
    have q1 : ∀ {A' : Around} {E : Value → Shared → Prop} {Q : Value → Shared → Prop}, Q (.ref hp.objs.size) ⟨hp.push o, g, d, tk, os⟩ → wpAny (model prog w) A' (pyIter v) Q E ⟨hp, g, d, tk, os⟩ :=
      fun q => B.iter prog w _ _ ⟨hp, g, d, tk, os⟩ _ h1 q
    wp_walk using q1
    refine wpAny_stack_any fun st => wpAny_pure ?_
    split
    · rename_i c _ _ _ _ _
      cases (c == Value.type "enumerate")
      · wp_walk using q1
        exact ⟨_, rfl, h⟩
      · wp_walk using q1
        exact ⟨_, rfl, h⟩
    · wp_walk using q1
      exact ⟨_, rfl, h⟩
section
variable {prog : Program} {w : World} {A : Around} {E : Value → Shared → Prop} {s : Shared}
theorem enum_begins1 {v : Value} {o : Obj} {H : Heap → Prop} {Q : Value → Shared → Prop} (B : Begins v o H) (h1 : H s.heap)
    (h : ∀ h', IsEnum h' (s.heap.objs.size + 1) s.heap.objs.size 0 .none → h'.get? s.heap.objs.size = some o → h'.objs.size = s.heap.objs.size + 2 →
      (∀ b o, s.heap.get? b = some o → h'.get? b = some o) → Q (.ref (s.heap.objs.size + 1)) { s with heap := h' }) :
    wpAny (model prog w) A (call (.type "enumerate") [v]) Q E s := by
  refine callType_new F.called_enumerate (by decide) (F.typeCall_enumerate_1 _) (F.newCall_enumerate_1 _) (fun obj => F.args_object_init_2 obj _) F.entry_enumerate_new
    (meets_enumerate_new1 B) ⟨h1, ?_⟩
  have hz : (s.heap.push o).objs.size = s.heap.objs.size + 1 := Heap.size_push ..
  show _ ∧ _
  rw [hz]
  have he : IsEnum ((s.heap.push o).push { cls := .type "enumerate", data := .fields #[.none, .bool false, .ref s.heap.objs.size, rawInt 0, .none, .none] }) (s.heap.objs.size + 1) s.heap.objs.size 0 .none := by
    have := Heap.get?_push_size (s.heap.push o) (o := { cls := .type "enumerate", data := .fields #[.none, .bool false, .ref s.heap.objs.size, rawInt 0, .none, .none] }) rfl
    rw [hz] at this; exact this
  refine ⟨⟨_, he, rfl⟩, h _ he (Heap.get?_push_of_some _ (Heap.get?_push_size _ B.free)) (by rw [Heap.size_push, hz]) fun b o x => Heap.get?_push_of_some _ (Heap.get?_push_of_some _ x)⟩
end
def IteT (K : PySem.W.Frag) (a : Addr) : It :=
  ⟨fun i H => ∃ (xs : List V) (x : V), SqT K H a xs ∧ xs[i]? = some x, fun i H v H' => ∃ T x, v = .ref T ∧ H T = none ∧ H' = upd H T (.tup [.int (i : Nat), x]) ∧ ∀ xs, SqT K H a xs → xs[i]? = some x, fun i H => ∃ xs : List V, SqT K H a xs ∧ xs.length = i⟩
theorem turn_enumT {P : Program} {w : World} {K : PySem.W.Frag} {elts : List Expr} {kk : Nat} {tpos : Pos} (a e it : Addr) :
    Turn P w K (.Tuple elts kk tpos) (IteT K a) [e, it] e (fun i h => (∃ old, IsEnum h e it ((i : Nat) : Int) old) ∧ h.IsTupleIter it a i ∧ e ≠ it ∧ a ≠ it ∧ a ≠ e) where
  mem := by simp
  obj := fun i h st b hb => by
    obtain ⟨⟨old, he⟩, ⟨o, ho, hc, hd⟩, _⟩ := st
    have e' : b = e ∨ b = it := by simpa using hb
    rcases e' with z | z
    · rw [z]; exact ⟨_, he, fun v q => nomatch q⟩
    · rw [z]; exact ⟨o, ho, fun v q => by rw [hd] at q; cases q⟩
  keep := fun i h h' st k => let ⟨⟨old, he⟩, hi, hne⟩ := st; ⟨⟨old, k e (by simp) _ he⟩, hi.at fun o q => k it (by simp) o q, hne⟩
  item := by
    intro X hP hw hK hc i pins s σ H E I hf st hg
    subst hP hw hK
    obtain ⟨⟨old, he⟩, hit, hne, hat, hae⟩ := st
    obtain ⟨xs, x, hq, hx⟩ := hg
    obtain ⟨its, rv, p, hz⟩ := I.tuple hq
    obtain ⟨u, hu, ru⟩ := rv.get hx
    have hel : e < s.heap.objs.size := Heap.lt_size he
    have hil : it < s.heap.objs.size := by obtain ⟨_, q, _⟩ := hit; exact Heap.lt_size q
    have hlt : i < its.toArray.size := by
      rw [List.size_toArray]
      exact (List.getElem?_eq_some_iff.mp hu).1
    refine wpAny_pyNext_enum_itemD (Draws.tuple (prog := X.prog) (w := X.w) (A := X.A.in1) (I.ok.hd hc) it a hat its.toArray) he ⟨hit, p⟩ hlt hne (by simp only [List.mem_cons, List.not_mem_nil, or_false, not_or]; exact ⟨hne, Ne.symm hae⟩) fun u' h' tk hu' ho hst hT hsz hk => ?_
    have eu : u' = u := by
      have : its[i]? = some u' := by simpa using hu'
      rw [hu] at this
      exact (Option.some.inj this).symm
    subst eu
    refine ⟨_, rfl, wpAny_letOwnedTupleGo_enum (s := { s with heap := h', toks := tk + 1 }) ho fun h'' he' sb => ?_⟩
    have hT2 : h''.get? s.heap.objs.size = some { cls := .type "tuple", data := .seq #[.int i tk, u'] } := (sb.2 _ (Nat.ne_of_gt hel)).trans hT
    have new : ObjOk X.prog X.w (upd H s.heap.objs.size (.tup [.int (i : Nat), x])) h'' s.heap.objs.size (.tup [.int (i : Nat), x]) :=
      ⟨by show 2 ≤ sizeLine; decide, [.int i tk, u'], .cons ⟨_, rfl⟩ (.cons ru .nil), ⟨_, hT2, rfl, _, rfl⟩⟩
    have I1 : Inv X pins σ (upd H s.heap.objs.size (.tup [.int (i : Nat), x])) { s with heap := h'', toks := tk + 1 } :=
      I.turnedNew (ch := [e, it]) (fun b ob hb q => (sb.2 b (fun z => hb (by simp [z]))).trans (hk b ob (fun z => hb (by simp [z])) (fun z => hb (by simp [z])) q)) hf (Nat.le_refl _) new
    refine ⟨.ref s.heap.objs.size, _, I1, rfl, ⟨_, x, rfl, I.hok.fresh (Nat.le_refl _), rfl, fun ys hy => by rw [I.tuple_inj hy hq]; exact hx⟩, ⟨⟨u', ?_⟩, hst.1.at fun o q => (sb.2 it (Ne.symm hne)).trans q, hne, hat, hae⟩, fun b hb => ?_⟩
    · have e1 : ((i + 1 : Nat) : Int) = (i : Int) + 1 := by omega
      rw [e1]; exact he'
    · have hb' : b < s.heap.objs.size := by
        have e' : b = e ∨ b = it := by simpa using hb
        rcases e' with z | z
        · rw [z]; exact hel
        · rw [z]; exact hil
      rw [upd_ne (Nat.ne_of_lt hb')]
      exact (hf b hb).1
  done := by
    intro X hP hw hK hc i pins s σ H E I hf st hg
    subst hP hw hK
    obtain ⟨⟨old, he⟩, hit, hne, hat, hae⟩ := st
    obtain ⟨xs, hq, hx⟩ := hg
    obtain ⟨its, rv, p, hz⟩ := I.tuple hq
    obtain ⟨f0, f1, f2, f3, f4, f5⟩ := hf it (by simp)
    have hl := rv.length
    have hn : its.toArray.size = i := by rw [List.size_toArray]; omega
    refine wpAny_pyNext_enum_endD (Draws.tuple (prog := X.prog) (w := X.w) (A := X.A.in1) (I.ok.hd hc) it a hat its.toArray) he (by rw [hn]; exact ⟨hit, p⟩) fun h' eb => ⟨rfl, I.turned (t' := s.toks) (fun b o hb q => eb b o hb q) f0 f1 f3 f4 f5⟩
  self := fun A i s Q E st h => let ⟨⟨_, he⟩, _⟩ := st; wpAny_pyIter_enum he h
def iEnumT (K : PySem.W.Frag) (ta : TA) : TI := fun σ H R => ta σ H fun vs H1 => ∃ a xs, vs = [.ref a] ∧ SqT K H1 a xs ∧ R (IteT K a) H1
theorem pi_enumT {X : Cx} {e : Expr} {ta : TA} {p pos tpos : Pos} {elts : List Expr} {kk : Nat} (hg : Gl X "enumerate") (hm : X.mg "enumerate" = none) (ha : PA X [e] ta) (hs : starEach [e] X.env = [(false, eval e X.env)] := by rfl) :
    PI X (.Tuple elts kk tpos) (.Call (.Name "enumerate" p) [e] [] pos) (iEnumT X.K ta) := by
  refine ⟨fun pins s σ H R I h => ?_⟩
  refine Call_ (ld_blt I hg hm boot_enumerate (PyProof.Rows.callWith_type1 (thn (ha.run pos pins s σ H _ I h) fun us s1 ⟨vs, H1, I1, r1, q1⟩ => ?_) hs rfl))
  obtain ⟨a, xs, ex, hq, q⟩ := q1
  subst ex
  cases r1 with
  | cons r rr =>
    cases rr
    cases r
    obtain ⟨its, rv, p', hz⟩ := I1.tuple hq
    have hal : a < s1.heap.objs.size := p'.lt
    refine enum_begins1 (begins_tuple a its.toArray) p' fun h' he hit hsz hk => wpAny_pyIter_enum he ?_
    have I2 : Inv X pins σ H1 { s1 with heap := h' } := I1.kept (t' := s1.toks) hk
    refine ⟨s1.heap.objs.size + 1, [s1.heap.objs.size + 1, s1.heap.objs.size], _, _, H1, rfl, I2, turn_enumT a (s1.heap.objs.size + 1) s1.heap.objs.size, ⟨⟨.none, he⟩, ⟨_, hit, rfl, rfl⟩, Nat.succ_ne_self _, Nat.ne_of_lt hal, Nat.ne_of_lt (Nat.lt_succ_of_lt hal)⟩, fun b hb => ?_, q⟩
    have e' : b = s1.heap.objs.size + 1 ∨ b = s1.heap.objs.size := by simpa using hb
    have hle : s1.heap.objs.size ≤ b := by
      rcases e' with z | z
      · rw [z]; exact Nat.le_add_right _ _
      · rw [z]; exact Nat.le_refl _
    exact I1.fpOk hle (I1.hok.fresh hle)
end TL
end
section
set_option Elab.async false
set_option linter.all false
set_option autoImplicit false
set_option maxRecDepth 100000
namespace TL
open PySem PySem.Spec PyProof.Rows L2

/-! ### arithmetic -/
def small (i : Int) : Bool := decide (i.natAbs.log2 < 8000)
def fAdd : T → T → Option RV
  | .int i, .int j => some (.val (.int (i + j)))
  | .tuple xs, .tuple ys => if xs.length + ys.length ≤ 100000 then some (.val (.tuple (xs ++ ys))) else none
  | .list xs, .list ys => if xs.length + ys.length ≤ 100000 then some (.own (xs ++ ys)) else none
  | _, _ => none
def fSub : T → T → Option RV
  | .int i, .int j => some (.val (.int (i - j)))
  | _, _ => none
def fMul : T → T → Option RV
  | .int i, .int j => if small i && small j then some (.val (.int (i * j))) else none
  | _, _ => none
def fDiv : T → T → Option RV
  | .int i, .int j => if 0 < j && small j then some (.val (.int (i / j))) else none
  | _, _ => none
def fMod : T → T → Option RV
  | .int i, .int j => if 0 < j then some (.val (.int (i % j))) else none
  | _, _ => none
def fPow : T → T → Option RV
  | .int i, .int j => if 0 ≤ j ∧ j ≤ 4000 ∧ i.natAbs < 2 ^ 64 then some (.val (.int (i ^ j.toNat))) else none
  | _, _ => none
def fNeg : T → Option RV
  | .int i => some (.val (.int (-i)))
  | _ => none
section
variable {X : Cx} {K : PySem.W.Frag}
theorem int2 {f : T → T → Option RV} {C : Int → Int → Prop} {g : Int → Int → T} {gv : Int → Int → V} (hg : ∀ i j B, Dq K B (gv i j) (g i j)) (h : ∀ t u z, f t u = some z → ∃ i j, t = .int i ∧ u = .int j ∧ C i j ∧ z = .val (g i j)) : Op2 K f (rI C gv) :=
  fun x y t u z B H Q ex d1 d2 hf k => by
  obtain ⟨i, j, rfl, rfl, hc, rfl⟩ := h t u z hf
  cases d1
  cases d2
  exact ⟨i, j, rfl, rfl, hc, k _ B H (.val ex (hg i j B))⟩
theorem Op2.or1 {f : T → T → Option RV} {r r' : R2} (h : Op2 K f r) : Op2 K f (fun x y H Q => r x y H Q ∨ r' x y H Q) := fun x y t u z B H Q ex d1 d2 hf k => .inl (h x y t u z B H Q ex d1 d2 hf k)
/-- list + list, list * int: tracked or locked -/
def rCatL : R2 := fun x y H Q => ∃ l b xs zs, x = .ref l ∧ y = .ref b ∧ Rd H l (.lst xs) ∧ Rd H b (.lst zs) ∧ xs.length + zs.length ≤ sizeLine ∧ ∀ p, H p = none → Q (.ref p) (upd H p (.lst (xs ++ zs)))
theorem layL {pins : List (Addr × Obj)} {σ : L2.St} {H : Hp} {s : Shared} {us : List Value} {xs : List V} (I : Inv X pins σ H s) (r : Vals xs us) (hz : xs.length ≤ sizeLine) :
    Inv X pins σ (upd H s.heap.objs.size (.lst xs)) { s with heap := s.heap.push { cls := .type "list", data := .seq us.toArray } } :=
  I.laid (t' := s.toks) (fun b u e => Heap.get?_push_of_some _ e) (Nat.le_refl _) ⟨hz, us, 0, r, Heap.get?_push_size _ rfl⟩
theorem op_catL : OpR X (binaryOp .Add) rCatL := by
  intro pins s σ H x y v u Q I rx ry h
  obtain ⟨l, b, xs, zs, rfl, rfl, h1, h2, hz, q⟩ := h
  obtain ⟨_, us, n, r1, e1⟩ := h1.ok I.hok
  obtain ⟨_, ws, m, r2, e2⟩ := h2.ok I.hok
  cases rx
  cases ry
  have hl := (r1.append r2).length
  refine PySem.P.add_list e1 e2 ?_ (by simp only [List.size_toArray]; rw [List.length_append, List.length_append] at hl; omega)
  rw [List.append_toArray]
  exact ⟨.ref _, _, layL I (r1.append r2) (by rw [List.length_append]; exact hz), rfl, q _ (I.hok.fresh (Nat.le_refl _))⟩
def rCatX (K : PySem.W.Frag) : R2 := fun x y H Q => ∃ a b xs ys, x = .ref a ∧ y = .ref b ∧ SqT K H a xs ∧ SqT K H b ys ∧ xs.length + ys.length ≤ sizeLine ∧
  (xs = [] → Q (.ref b) H) ∧ (ys = [] → Q (.ref a) H) ∧ ∀ p o, H p = none → Bare1 o → Q (.ref p) (upd H p (.frz o (.tup (xs ++ ys))))
theorem op_catX : OpR X (binaryOp .Add) (rCatX X.K) := by
  intro pins s σ H x y v u Q I rx ry h
  obtain ⟨a, b, xs, ys, rfl, rfl, h1, h2, hz, q0, q1, q2⟩ := h
  by_cases hx : xs = []
  · exact op_catA pins s σ H _ _ v u Q I rx ry ⟨a, b, xs, ys, rfl, rfl, h1, h2, hz, fun _ => q0 hx, fun z => absurd hx z, fun z => absurd hx z⟩
  · obtain ⟨us, r1, p1, _⟩ := I.tuple h1
    obtain ⟨ws, r2, p2, _⟩ := I.tuple h2
    cases rx
    cases ry
    have hl := (r1.append r2).length
    refine HT.cat_tup p1 p2 (fun z => hx (r1.nil_iff.mp z)) (fun z => ⟨.ref a, H, I, rfl, q1 (r2.nil_iff.mp z)⟩) (fun z => ?_) (by rw [List.length_append, List.length_append] at hl; omega)
    exact ⟨.ref _, _, Inv.layX I (r1.append r2) (by rw [List.length_append]; exact hz), rfl, q2 _ _ (I.hok.fresh (Nat.le_refl _)) ⟨rfl, rfl⟩⟩
theorem o_add : OpR X (binaryOp .Add) (fun x y H Q => rI0 (fun i j => .int (i + j)) x y H Q ∨ rCatL x y H Q ∨ rCatX X.K x y H Q) := op_add.or (op_catL.or op_catX)
theorem f_add : Op2 X.K fAdd (fun x y H Q => rI0 (fun i j => .int (i + j)) x y H Q ∨ rCatL x y H Q ∨ rCatX X.K x y H Q) := fun x y t u z B H Q ex d1 d2 hf k => by
  unfold fAdd at hf
  split at hf
  · cases hf
    cases d1
    cases d2
    exact .inl ⟨_, _, rfl, rfl, k _ B H (.val ex (.int _))⟩
  · split at hf
    · rename_i hz
      cases hf
      cases d1 with
      | tup s1 a1 =>
        cases d2 with
        | tup s2 a2 =>
          refine .inr (.inr ⟨_, _, _, _, rfl, rfl, ex_t ex s1.t, ex_t ex s2.t, big (by rw [a1.len, a2.len]; exact hz), fun e => ?_, fun e => ?_, fun p o hp hb => k _ _ _ (.tup ex hp hb (a1.app a2))⟩)
          · subst e
            have := a1.len
            cases a1
            exact k _ B H (.val ex (.tup s2 a2))
          · subst e
            cases a2
            rw [List.append_nil] at k
            exact k _ B H (.val ex (.tup s1 a1))
    · cases hf
  · split at hf
    · rename_i hz
      cases hf
      cases d1 with
      | lst s1 a1 =>
        cases d2 with
        | lst s2 a2 => exact .inr (.inl ⟨_, _, _, _, rfl, rfl, ex_rd ex s1, ex_rd ex s2, big (by rw [a1.len, a2.len]; exact hz), fun p hp => k _ _ _ (.lst ex hp (a1.app a2))⟩)
    · cases hf
  · cases hf
theorem f_sub : Op2 X.K fSub (rI0 fun i j => .int (i - j)) := fun x y t u z B H Q ex d1 d2 hf k => by
  unfold fSub at hf
  split at hf
  · cases hf
    cases d1
    cases d2
    exact ⟨_, _, rfl, rfl, k _ B H (.val ex (.int _))⟩
  · cases hf
theorem f_mul : Op2 X.K fMul (rI CMulW fun i j => .int (i * j)) := fun x y t u z B H Q ex d1 d2 hf k => by
  unfold fMul at hf
  split at hf
  · split at hf
    · rename_i hs
      cases hf
      cases d1
      cases d2
      rw [Bool.and_eq_true] at hs
      have h1 := of_decide_eq_true hs.1
      have h2 := of_decide_eq_true hs.2
      exact ⟨_, _, rfl, rfl, by unfold CMulW; omega, k _ B H (.val ex (.int _))⟩
    · cases hf
  · cases hf
/-- a new list, guarded while something else is reckoned -/
theorem Sta.guard {K : PySem.W.Frag} {F B H : Hp} {σ : L2.St} {e : En} {a : Addr} {xs : List V} {ts : List T} (s : Sta K F B H σ e) (o : RvOk K F B H σ e (.ref a) (.own ts)) (hh : H a = some (.lst xs)) : Sta K (upd F a (.lst xs)) B H σ e := by
  obtain ⟨⟨a', xs', e', hf, hb, hh', hd⟩, hn⟩ := o
  cases e'
  refine ⟨fun b u q => ?_, s.bh, fun i r h => ?_, s.ln, s.dj⟩
  · by_cases hba : b = a
    · subst hba
      rw [upd_same] at q
      cases q
      exact hh
    · rw [upd_ne hba] at q
      exact s.fh b u q
  · obtain ⟨v, h1, h2⟩ := s.ent i r h
    refine ⟨v, h1, ?_⟩
    cases r with
    | val t => exact h2
    | own us =>
      obtain ⟨c, ys, rfl, q1, q2, q3, q4⟩ := h2
      have hne : c ≠ a := fun z => by
        subst z
        exact hn ts rfl i us h h1
      exact ⟨c, ys, rfl, by rw [upd_ne hne]; exact q1, q2, q3, q4⟩
theorem Sta.free {K : PySem.W.Frag} {F B H : Hp} {σ : L2.St} {e : En} {a : Addr} {o : HO} (s : Sta K (upd F a o) B H σ e) (hf : F a = none) : Sta K F B H σ e := by
  refine ⟨fun b u q => s.fh b u (by rw [upd_ne (ne_of_none q hf)]; exact q), s.bh, fun i r h => ?_, s.ln, s.dj⟩
  obtain ⟨v, h1, h2⟩ := s.ent i r h
  refine ⟨v, h1, ?_⟩
  cases r with
  | val t => exact h2
  | own us =>
    obtain ⟨c, ys, rfl, q1, q2, q3, q4⟩ := h2
    by_cases hca : c = a
    · rw [hca, upd_same] at q1
      cases q1
    · exact ⟨c, ys, rfl, by rw [upd_ne hca] at q1; exact q1, q2, q3, q4⟩
theorem Grow.free {F B B' : Hp} {a : Addr} {o : HO} (g : Grow (upd F a o) B B') (hf : F a = Option.none) : Grow F B B' := ⟨g.ex, fun b h1 h2 => by
  by_cases hba : b = a
  · rw [hba]; exact hf
  · have := g.new b h1 h2
    rw [upd_ne hba] at this
    exact this⟩
/-- [..] * k -/
def mRep (ma : Mv) (mb : Mt) : Mv := fun e => (ma e).bind fun r e1 => match r with
  | .own ts => (mb e1).bind fun u e2 => match u with
    | .int k => if 0 ≤ k ∧ k ≤ 100000 ∧ ts.length * k.toNat ≤ 100000 then .ok (.own (List.replicate k.toNat ts).flatten) e2 else .bad
    | _ => .bad
  | _ => .bad
theorem dq_rep {K : PySem.W.Frag} {B : Hp} {xs : List V} {ts : List T} (d : DqAll K B xs ts) : ∀ n : Nat, DqAll K B (List.replicate n xs).flatten (List.replicate n ts).flatten
  | 0 => .nil
  | n + 1 => by
    rw [List.replicate_succ, List.replicate_succ, List.flatten_cons, List.flatten_cons]
    exact d.app (dq_rep d n)
theorem x_rep {W : WX} {a b : Expr} {pos : Pos} {ma : Mv} {mb : Mt} (ha : PE X a (tV X.K X.mg W ma)) (hb : PE X b (tT X.K X.mg W mb)) : PE X (.BinOp a .Mult b pos) (tV X.K X.mg W (mRep ma mb)) := PE.imp (pe_op op_rep ha hb) fun σ H Q q => by
  obtain ⟨F, B, e, s, p⟩ := q
  refine ⟨F, B, e, s, (Post.unbind p).mono fun B1 H1 e1 r s1 g1 p1 v o => ?_⟩
  cases r with
  | val t => exact p1.elim
  | own ts =>
    obtain ⟨c, xs, rfl, q1, q2, q3, q4⟩ := id o.1
    refine ⟨upd F c (.lst xs), B1, e1, s1.guard o q3, ?_⟩
    dsimp only at p1
    cases hm : mb e1 with
    | ok u e2 =>
      rw [hm] at p1
      intro B2 H2 s2 g2 w d
      cases u with
      | int k =>
        cases d
        have p1' := p1
        dsimp only [Res.bind] at p1'
        by_cases hk : 0 ≤ k ∧ k ≤ 100000 ∧ ts.length * k.toNat ≤ 100000
        · rw [if_pos hk] at p1'
          have s3 := s2.free q1
          have g3 := g2.free q1
          refine ⟨c, k, xs, rfl, rfl, s2.fh c _ upd_same, by omega, by omega, big (by rw [q4.len]; exact hk.2.2), fun p hp => ?_⟩
          obtain ⟨s4, g4, o4⟩ := (NewOk.lst s3.bh hp (dq_rep (dqs_ex g3.ex _ _ q4) k.toNat)).rv s3
          exact p1' _ _ s4 (g3.trans g4) _ o4
        · rw [if_neg hk] at p1'
          exact p1'.elim
      | _ => exact p1.elim
    | exc x e2 =>
      rw [hm] at p1
      exact fun cc dd B2 H2 s2 g2 xo => p1 cc dd B2 H2 (s2.free q1) (g2.free q1) xo
    | bad => rw [hm] at p1; exact p1.elim
theorem f_div : Op2 X.K fDiv (rI CDivW fun i j => .int (i / j)) := fun x y t u z B H Q ex d1 d2 hf k => by
  unfold fDiv at hf
  split at hf
  · split at hf
    · rename_i hs
      cases hf
      cases d1
      cases d2
      rw [Bool.and_eq_true] at hs
      have h1 := of_decide_eq_true hs.1
      have h2 := of_decide_eq_true hs.2
      exact ⟨_, _, rfl, rfl, ⟨h1, by omega⟩, k _ B H (.val ex (.int _))⟩
    · cases hf
  · cases hf
theorem f_mod : Op2 X.K fMod (rI (fun _ j => 0 < j) fun i j => .int (i % j)) := fun x y t u z B H Q ex d1 d2 hf k => by
  unfold fMod at hf
  split at hf
  · split at hf
    · cases hf
      cases d1
      cases d2
      exact ⟨_, _, rfl, rfl, by assumption, k _ B H (.val ex (.int _))⟩
    · cases hf
  · cases hf
theorem f_pow : Op2 X.K fPow (rI CPow fun i j => .int (i ^ j.toNat)) := fun x y t u z B H Q ex d1 d2 hf k => by
  unfold fPow at hf
  split at hf
  · split at hf
    · rename_i h
      cases hf
      cases d1
      cases d2
      exact ⟨_, _, rfl, rfl, ⟨h.1, by omega, h.2.2⟩, k _ B H (.val ex (.int _))⟩
    · cases hf
  · cases hf
theorem f_neg : Op1 X.K fNeg (rU fun i => .int (-i)) := fun x t z B H Q ex d hf k => by
  unfold fNeg at hf
  split at hf
  · cases hf
    cases d
    exact ⟨_, rfl, k _ B H (.val ex (.int _))⟩
  · cases hf

/-! ### comparisons -/
def fCmp (p : Int → Int → Bool) : T → T → Option RV
  | .int i, .int j => some (.val (.bool (p i j)))
  | _, _ => none
theorem f_cmp {p : Int → Int → Bool} : Op2 X.K (fCmp p) (rI0 fun i j => .bl (p i j)) := fun x y t u z B H Q ex d1 d2 hf k => by
  unfold fCmp at hf
  split at hf
  · cases hf
    cases d1
    cases d2
    exact ⟨_, _, rfl, rfl, k _ B H (.val ex (.bl _))⟩
  · cases hf
abbrev fLt := fCmp fun i j => decide (i < j)
abbrev fLe := fCmp fun i j => decide (i ≤ j)
abbrev fGt := fCmp fun i j => decide (j < i)
abbrev fGe := fCmp fun i j => decide (j ≤ i)
/-- == of two of one kind -/
def same : T → T → Option Bool
  | .none, .none => some true
  | .bool a, .bool b => some (decide (a = b))
  | .int i, .int j => some (decide (i = j))
  | .str a, .str b => some (decide (a = b))
  | .tuple xs, .tuple ys => if noDict (.tuple xs) && noDict (.tuple ys) && SeqAt.shaped (.tuple xs) && SeqAt.shaped (.tuple ys) then some (PyData.eqv (.tuple xs) (.tuple ys)) else none
  | .list xs, .list ys => if noDict (.list xs) && noDict (.list ys) && SeqAt.shaped (.list xs) && SeqAt.shaped (.list ys) then some (PyData.eqv (.list xs) (.list ys)) else none
  | _, _ => none
def fEq (t u : T) : Option RV := (same t u).map fun b => .val (.bool b)
def fNe (t u : T) : Option RV := (same t u).map fun b => .val (.bool (!b))
theorem same_ok {t u : T} {b : Bool} {x y : V} {B H : Hp} {K : PySem.W.Frag} (ex : Ex B H) (h : same t u = some b) (d1 : Dq K B x t) (d2 : Dq K B y u) :
    (scal x y = true ∧ decide (x = y) = b) ∨ ∃ d e, Dp K H x d ∧ Dp K H y e ∧ SeqAt.shaped d = true ∧ SeqAt.shaped e = true ∧ PyData.eqv d e = b := by
  unfold same at h
  split at h
  · cases h
    cases d1
    cases d2
    exact .inl ⟨rfl, rfl⟩
  · rename_i p q
    cases h
    cases d1
    cases d2
    refine .inl ⟨rfl, ?_⟩
    cases p <;> cases q <;> rfl
  · rename_i p q
    cases h
    cases d1
    cases d2
    refine .inl ⟨rfl, ?_⟩
    by_cases e : p = q
    · subst e
      rw [decide_eq_true rfl, decide_eq_true rfl]
    · rw [decide_eq_false e, decide_eq_false fun z => e (V.int.inj z)]
  · rename_i p q
    cases h
    cases d1
    cases d2
    refine .inl ⟨rfl, ?_⟩
    by_cases e : p = q
    · subst e
      rw [decide_eq_true rfl, decide_eq_true rfl]
    · rw [decide_eq_false e, decide_eq_false fun z => e (V.str.inj z)]
  · split at h
    · rename_i hs
      cases h
      simp only [Bool.and_eq_true] at hs
      exact .inr ⟨_, _, dq_dp _ _ hs.1.1.1 (dq_ex ex _ _ d1), dq_dp _ _ hs.1.1.2 (dq_ex ex _ _ d2), hs.1.2, hs.2, rfl⟩
    · cases h
  · split at h
    · rename_i hs
      cases h
      simp only [Bool.and_eq_true] at hs
      exact .inr ⟨_, _, dq_dp _ _ hs.1.1.1 (dq_ex ex _ _ d1), dq_dp _ _ hs.1.1.2 (dq_ex ex _ _ d2), hs.1.2, hs.2, rfl⟩
    · cases h
  · cases h
theorem f_eq : Op2 X.K fEq (fun x y H Q => rEq x y H Q ∨ rEqD X.K x y H Q) := fun x y t u z B H Q ex d1 d2 hf k => by
  unfold fEq at hf
  cases hs : same t u with
  | none => rw [hs] at hf; cases hf
  | some b =>
    rw [hs] at hf
    cases hf
    have fin := k (.bl b) B H (.val ex (.bl b))
    rcases same_ok ex hs d1 d2 with ⟨h1, h2⟩ | ⟨d, e, h1, h2, h3, h4, h5⟩
    · exact .inl ⟨h1, by rw [h2]; exact fin⟩
    · exact .inr ⟨d, e, h1, h2, h3, h4, by rw [h5]; exact fin⟩
theorem f_ne : Op2 X.K fNe (fun x y H Q => rNe x y H Q ∨ rNeD X.K x y H Q) := fun x y t u z B H Q ex d1 d2 hf k => by
  unfold fNe at hf
  cases hs : same t u with
  | none => rw [hs] at hf; cases hf
  | some b =>
    rw [hs] at hf
    cases hf
    have fin := k (.bl (!b)) B H (.val ex (.bl (!b)))
    rcases same_ok ex hs d1 d2 with ⟨h1, h2⟩ | ⟨d, e, h1, h2, h3, h4, h5⟩
    · exact .inl ⟨h1, by rw [h2]; exact fin⟩
    · exact .inr ⟨d, e, h1, h2, h3, h4, by rw [h5]; exact fin⟩
/-- is of None, of a bool -/
def isT : T → T → Option Bool
  | .none, .none => some true
  | .bool a, .bool b => some (decide (a = b))
  | _, .none => some false
  | _, .bool _ => some false
  | _, _ => none
def fIs (t u : T) : Option RV := (isT t u).map fun b => .val (.bool b)
def fIsN (t u : T) : Option RV := (isT t u).map fun b => .val (.bool (!b))
def rIsG : R2 := fun x y H Q => (y = .non ∨ ∃ b, y = .bl b) ∧ Q (.bl (decide (x = y))) H
def rIsGN : R2 := fun x y H Q => (y = .non ∨ ∃ b, y = .bl b) ∧ Q (.bl (!decide (x = y))) H
theorem isB {x : V} {v : Value} {b : Bool} (r : RelV x v) : (v == Value.bool b) = decide (x = .bl b) := by
  cases x with
  | bl c => cases r; cases b <;> cases c <;> rfl
  | non => cases r; rfl
  | int i => obtain ⟨t, rfl⟩ := r; rfl
  | str i => obtain ⟨t, rfl⟩ := r; rfl
  | byt i => obtain ⟨t, rfl⟩ := r; rfl
  | flt i => obtain ⟨t, rfl⟩ := r; rfl
  | ref a => cases r; rfl
  | ty n => cases r; rfl
theorem op_isG : OpR X (compareOp .Is) rIsG := by
  intro pins s σ H x y v u Q I rx ry h
  obtain ⟨rfl | ⟨b, rfl⟩, q⟩ := h
  · cases ry
    exact is_none_gen ⟨.bl _, H, I, by rw [rx.none_iff]; rfl, q⟩
  · cases ry
    have z : EP X pins σ Q (.bool (v == Value.bool b)) s := ⟨.bl _, H, I, by rw [isB rx]; rfl, q⟩
    cases x with
    | ref a => cases rx; exact wpAny_pure z
    | ty n => cases rx; exact wpAny_pure z
    | non => cases rx; exact wpAny_pure z
    | bl c => cases rx; exact wpAny_pure z
    | int i => obtain ⟨t, rfl⟩ := rx; exact wpAny_pure z
    | str i => obtain ⟨t, rfl⟩ := rx; exact wpAny_pure z
    | byt i => obtain ⟨t, rfl⟩ := rx; exact wpAny_pure z
    | flt i => obtain ⟨t, rfl⟩ := rx; exact wpAny_pure z
theorem op_isGN : OpR X (compareOp .IsNot) rIsGN := by
  intro pins s σ H x y v u Q I rx ry h
  obtain ⟨rfl | ⟨b, rfl⟩, q⟩ := h
  · cases ry
    exact isnot_none_gen ⟨.bl _, H, I, by rw [rx.none_iff]; rfl, q⟩
  · cases ry
    have z : EP X pins σ Q (.bool (!(v == Value.bool b))) s := ⟨.bl _, H, I, by rw [isB rx]; rfl, q⟩
    cases x with
    | ref a => cases rx; exact wpAny_pure z
    | ty n => cases rx; exact wpAny_pure z
    | non => cases rx; exact wpAny_pure z
    | bl c => cases rx; exact wpAny_pure z
    | int i => obtain ⟨t, rfl⟩ := rx; exact wpAny_pure z
    | str i => obtain ⟨t, rfl⟩ := rx; exact wpAny_pure z
    | byt i => obtain ⟨t, rfl⟩ := rx; exact wpAny_pure z
    | flt i => obtain ⟨t, rfl⟩ := rx; exact wpAny_pure z
theorem isT_ok {t u : T} {b : Bool} {x y : V} {B : Hp} {K : PySem.W.Frag} (h : isT t u = some b) (d1 : Dq K B x t) (d2 : Dq K B y u) : (y = .non ∨ ∃ b, y = .bl b) ∧ decide (x = y) = b := by
  unfold isT at h
  split at h
  · cases h; cases d1; cases d2; exact ⟨.inl rfl, rfl⟩
  · rename_i p q
    cases h; cases d1; cases d2
    refine ⟨.inr ⟨_, rfl⟩, ?_⟩
    cases p <;> cases q <;> rfl
  · rename_i hn
    cases h; cases d2
    refine ⟨.inl rfl, decide_eq_false fun z => ?_⟩
    subst z
    cases d1
    exact hn rfl
  · rename_i hn
    cases h; cases d2
    refine ⟨.inr ⟨_, rfl⟩, decide_eq_false fun z => ?_⟩
    subst z
    cases d1
    exact hn _ rfl
  · cases h
theorem f_is : Op2 X.K fIs rIsG := fun x y t u z B H Q ex d1 d2 hf k => by
  unfold fIs at hf
  cases hs : isT t u with
  | none => rw [hs] at hf; cases hf
  | some b =>
    rw [hs] at hf
    cases hf
    obtain ⟨h1, h2⟩ := isT_ok hs d1 d2
    exact ⟨h1, by rw [h2]; exact k _ B H (.val ex (.bl _))⟩
theorem f_isN : Op2 X.K fIsN rIsGN := fun x y t u z B H Q ex d1 d2 hf k => by
  unfold fIsN at hf
  cases hs : isT t u with
  | none => rw [hs] at hf; cases hf
  | some b =>
    rw [hs] at hf
    cases hf
    obtain ⟨h1, h2⟩ := isT_ok hs d1 d2
    exact ⟨h1, by rw [h2]; exact k _ B H (.val ex (.bl _))⟩
/-! ### a list, a tuple by place -/
def fIx : T → T → Option RV
  | .list ts, .int j => (atI ts j).map .val
  | .tuple ts, .int j => (atI ts j).map .val
  | _, _ => none
theorem f_ix : Op2 X.K fIx (fun x y H Q => rIxL X.K x y H Q ∨ rIxT X.K x y H Q) := fun x y t u z B H Q ex d1 d2 hf k => by
  unfold fIx at hf
  split at hf
  · rename_i ts j
    cases d2
    cases d1 with
    | lst hs ha =>
      cases h : atI ts j with
      | none => rw [h] at hf; cases hf
      | some w =>
        rw [h] at hf
        cases hf
        obtain ⟨v, h1, h2⟩ := atI_rel ha h
        exact .inl ⟨_, _, _, v, rfl, rfl, .inl (ex_rd ex hs), h1, k v B H (.val ex h2)⟩
  · rename_i ts j
    cases d2
    cases d1 with
    | tup hs ha =>
      cases h : atI ts j with
      | none => rw [h] at hf; cases hf
      | some w =>
        rw [h] at hf
        cases hf
        obtain ⟨v, h1, h2⟩ := atI_rel ha h
        exact .inr ⟨_, _, _, v, rfl, rfl, ex_t ex hs.t, h1, k v B H (.val ex h2)⟩
  · cases hf
end
end TL
end
section
set_option Elab.async false
set_option linter.all false
set_option autoImplicit false
set_option maxRecDepth 100000
namespace TL
open PySem PySem.Spec PyProof.Rows L2

/-! ### isinstance -/
inductive Ty where
  | int | bool | tup | str | lst
  deriving DecidableEq
def Ty.name : Ty → String
  | .int => "int"
  | .bool => "bool"
  | .tup => "tuple"
  | .str => "str"
  | .lst => "list"
def isK : Ty → T → Option Bool
  | .int, .int _ => some true
  | .int, .bool _ => some true
  | .bool, .bool _ => some true
  | .tup, .tuple _ => some true
  | .str, .str _ => some true
  | .lst, .list _ => some true
  | _, .dict _ => none
  | _, _ => some false
theorem isK_ok {K : PySem.W.Frag} {B H : Hp} {x : V} {t : T} {y : Ty} {b : Bool} (ex : Ex B H) (d : Dq K B x t) (h : isK y t = some b) : ∃ u, TyX K H x u ∧ PySem.W.kitOne K u (.type y.name) = some b := by
  cases t with
  | dict kvs => cases y <;> cases h
  | none => cases d; exact ⟨_, .base .non, by cases y <;> cases h <;> exact kit_ty (by decide +kernel)⟩
  | bool c => cases d; exact ⟨_, .base (.bl c), by cases y <;> cases h <;> exact kit_ty (by decide +kernel)⟩
  | int c => cases d; exact ⟨_, .base (.int c), by cases y <;> cases h <;> exact kit_ty (by decide +kernel)⟩
  | str c => cases d; exact ⟨_, .base (.str c), by cases y <;> cases h <;> exact kit_ty (by decide +kernel)⟩
  | list ts =>
    cases d with
    | lst hs ha =>
      have kk : PySem.W.kitOne K (.type "list") (.type y.name) = some b := by cases y <;> cases h <;> exact kit_ty (by decide +kernel)
      rcases ex_rd ex hs with q | ⟨o, q⟩
      · exact ⟨_, .base (.lst q), kk⟩
      · exact ⟨_, .base (.frz q), kk⟩
  | tuple ts =>
    cases d with
    | tup hs ha =>
      have kk : PySem.W.kitOne K (.type "tuple") (.type y.name) = some b := by cases y <;> cases h <;> exact kit_ty (by decide +kernel)
      rcases ex_x ex hs with ⟨o, q, _⟩ | ⟨o, its, n, q, c, _⟩
      · exact ⟨_, .fTuple q, kk⟩
      · exact ⟨_, .kTuple q c.1, kk⟩
def mIsi (y : Ty) (m : Mt) : Mt := fun e => (m e).bind fun t e1 => match isK y t with
  | some b => .ok (.bool b) e1
  | none => .bad
section
variable {X : Cx} {W : WX} {a b c : Expr} {pos p q : Pos}
theorem bootT (y : Ty) : bootBuiltins y.name = some (.type y.name) := by cases y <;> decide +kernel
theorem x_isi {y : Ty} {m : Mt} (hg : Gl X "isinstance") (hm : X.mg "isinstance" = none) (hg2 : Gl X y.name) (hm2 : X.mg y.name = none) (ha : PE X a (tT X.K X.mg W m))
    (he : starEach [a, .Name y.name q] X.env = (false, eval a X.env) :: starEach [.Name y.name q] X.env := by rfl) (hpl : (backTo pos (starEach [.Name y.name q] X.env)).any (·.1) = false := by rfl) :
    PE X (.Call (.Name "isinstance" p) [a, .Name y.name q] [] pos) (tT X.K X.mg W (mIsi y m)) :=
  PE.imp (pe_callB call_isi hg hm (by decide +kernel) (pa_cons ha (pa_cons (pe_bltn hg2 hm2 (bootT y) (v := .ty y.name) rfl (by cases y <;> decide) (by cases y <;> decide)) pa_nil (by rfl)) he) (by decide) (by decide) he hpl) fun σ H Q q => by
  obtain ⟨F, B, e, s, p⟩ := q
  refine ⟨F, B, e, s, (Post.unbind p).mono fun B1 H1 e1 t s1 g1 p1 v d => ?_⟩
  cases h : isK y t with
  | none => rw [h] at p1; exact p1.elim
  | some b =>
    rw [h] at p1
    obtain ⟨u, h1, h2⟩ := isK_ok s1.bh d h
    exact ⟨v, .ty y.name, u, .type y.name, b, rfl, .ty _, h1, h2, p1 B1 H1 s1 .refl _ (.bl b)⟩

/-! ### built-ins -/
def fLen : List T → Option RV
  | [t] => (items t).map fun ts => .val (.int (ts.length : Int))
  | _ => none
theorem f_len : OpN X.K fLen (fun xs H Q => ∃ p ys, xs = [.ref p] ∧ (SqL X.K H p ys ∨ SqT X.K H p ys) ∧ Q (.int ys.length) H) := fun xs ts z B H Q ex d hf k => by
  unfold fLen at hf
  split at hf
  · rename_i t
    cases d with
    | cons d dn =>
      cases dn
      cases h : items t with
      | none => rw [h] at hf; cases hf
      | some us =>
        rw [h] at hf
        cases hf
        obtain ⟨a, ys, rfl, da, sq⟩ := items_ok d h
        refine ⟨a, ys, rfl, sq.elim (fun f => .inl (f H ex)) (fun f => .inr (f H ex)), ?_⟩
        rw [da.len]
        exact k _ B H (.val ex (.int _))
  · cases hf
def fList : List T → Option RV
  | [.list ts] => some (.own ts)
  | [.tuple ts] => some (.own ts)
  | _ => none
theorem f_list : OpN X.K fList (fun xs H Q => ∃ p ys, xs = [.ref p] ∧ (SqL X.K H p ys ∨ SqT X.K H p ys) ∧ ∀ l, H l = none → Q (.ref l) (upd H l (.lst ys))) := fun xs ts z B H Q ex d hf k => by
  unfold fList at hf
  split at hf
  · cases hf
    cases d with
    | cons d dn =>
      cases dn
      cases d with
      | lst hs ha => exact ⟨_, _, rfl, .inl (.inl (ex_rd ex hs)), fun l hl => k _ _ _ (.lst ex hl ha)⟩
  · cases hf
    cases d with
    | cons d dn =>
      cases dn
      cases d with
      | tup hs ha => exact ⟨_, _, rfl, .inr (ex_t ex hs.t), fun l hl => k _ _ _ (.lst ex hl ha)⟩
  · cases hf
def fTuple : List T → Option RV
  | [.list ts] => some (.val (.tuple ts))
  | [.tuple ts] => some (.val (.tuple ts))
  | _ => none
def rTupX (K : PySem.W.Frag) : List V → Hp → VK → Prop := fun xs H Q => ∃ p ys, xs = [.ref p] ∧ ((SqL K H p ys ∧ ∀ l o, H l = none → Bare1 o → Q (.ref l) (upd H l (.frz o (.tup ys)))) ∨ (SqT K H p ys ∧ Q (.ref p) H))
theorem call_tupX : CallR X (.type "tuple") (rTupX X.K) := by
  intro pins s σ H xs us Q I r h
  obtain ⟨l, ys, rfl, ⟨hq, k⟩ | ⟨hq, k⟩⟩ := h
  · obtain ⟨u, rfl, rx⟩ := vals1 r
    cases rx
    obtain ⟨ws, rw', pl, hz⟩ := I.list hq
    have hl := rw'.length
    refine call_tuple_list pl.isList (fun h' kp => ?_) (by rw [List.size_toArray]; omega)
    have I1 : Inv X pins σ H { s with heap := h' } := I.kept (t' := s.toks) kp
    exact ⟨.ref h'.objs.size, _, Inv.layX I1 rw' hz, rfl, k _ _ (I1.hok.fresh (Nat.le_refl _)) ⟨rfl, rfl⟩⟩
  · exact call_tuple_of pins s σ H _ us Q I r ⟨l, ys, rfl, .inr ⟨hq, k⟩⟩
theorem f_tuple : OpN X.K fTuple (rTupX X.K) := fun xs ts z B H Q ex d hf k => by
  unfold fTuple at hf
  split at hf
  · cases hf
    cases d with
    | cons d dn =>
      cases dn
      cases d with
      | lst hs ha => exact ⟨_, _, rfl, .inl ⟨.inl (ex_rd ex hs), fun l o hl hb => k _ _ _ (.tup ex hl hb ha)⟩⟩
  · cases hf
    cases d with
    | cons d dn =>
      cases dn
      cases d with
      | tup hs ha => exact ⟨_, _, rfl, .inr ⟨ex_t ex hs.t, k _ B H (.val ex (.tup hs ha))⟩⟩
  · cases hf
def fInt : List T → Option RV
  | [.int i] => some (.val (.int i))
  | [.bool k] => some (.val (.int (if k then 1 else 0)))
  | _ => none
theorem f_int : OpN X.K fInt (fun xs H Q => (∃ i, xs = [.int i] ∧ Q (.int i) H) ∨ ∃ k, xs = [.bl k] ∧ Q (.int (if k then 1 else 0)) H) := fun xs ts z B H Q ex d hf k => by
  unfold fInt at hf
  split at hf
  · cases hf
    cases d with
    | cons d dn => cases dn; cases d; exact .inl ⟨_, rfl, k _ B H (.val ex (.int _))⟩
  · cases hf
    cases d with
    | cons d dn => cases dn; cases d; exact .inr ⟨_, rfl, k _ B H (.val ex (.int _))⟩
  · cases hf
def fAbs : List T → Option RV
  | [.int i] => some (.val (.int (if i < 0 then -i else i)))
  | _ => none
theorem f_abs : OpN X.K fAbs (fun xs H Q => ∃ i, xs = [.int i] ∧ Q (.int (if i < 0 then -i else i)) H) := fun xs ts z B H Q ex d hf k => by
  unfold fAbs at hf
  split at hf
  · cases hf
    cases d with
    | cons d dn => cases dn; cases d; exact ⟨_, rfl, k _ B H (.val ex (.int _))⟩
  · cases hf
def fMin : List T → Option RV
  | [.int i, .int j] => some (.val (.int (if j < i then j else i)))
  | _ => none
def fMax : List T → Option RV
  | [.int i, .int j] => some (.val (.int (if j > i then j else i)))
  | _ => none
theorem f_min : OpN X.K fMin (fun xs H Q => ∃ i j, xs = [.int i, .int j] ∧ Q (.int (if j < i then j else i)) H) := fun xs ts z B H Q ex d hf k => by
  unfold fMin at hf
  split at hf
  · cases hf
    cases d with
    | cons d dn => cases dn with
      | cons d2 dn => cases dn; cases d; cases d2; exact ⟨_, _, rfl, k _ B H (.val ex (.int _))⟩
  · cases hf
theorem f_max : OpN X.K fMax (fun xs H Q => ∃ i j, xs = [.int i, .int j] ∧ Q (.int (if j > i then j else i)) H) := fun xs ts z B H Q ex d hf k => by
  unfold fMax at hf
  split at hf
  · cases hf
    cases d with
    | cons d dn => cases dn with
      | cons d2 dn => cases dn; cases d; cases d2; exact ⟨_, _, rfl, k _ B H (.val ex (.int _))⟩
  · cases hf
def fGcd : List T → Option RV
  | [.int i, .int j] => some (.val (.int (Nat.gcd i.natAbs j.natAbs : Nat)))
  | _ => none
theorem f_gcd : OpN X.K fGcd rGcd := fun xs ts z B H Q ex d hf k => by
  unfold fGcd at hf
  split at hf
  · cases hf
    cases d with
    | cons d dn => cases dn with
      | cons d2 dn => cases dn; cases d; cases d2; exact ⟨_, _, rfl, k _ B H (.val ex (.int _))⟩
  · cases hf
def bools : List T → Option (List Bool)
  | [] => some []
  | .bool b :: r => (bools r).map (b :: ·)
  | _ => none
theorem bools_ok {K : PySem.W.Frag} {B : Hp} : ∀ {ts : List T} {bs : List Bool} {xs : List V}, bools ts = some bs → DqAll K B xs ts → xs = bs.map V.bl
  | [], _, _, h, d => by cases h; cases d; rfl
  | t :: ts, bs, _, h, d => by
    cases d with
    | cons d1 d2 =>
      unfold bools at h
      split at h
      · rename_i q; cases q
      · rename_i q
        cases q
        cases hb : bools ts with
        | none => rw [hb] at h; cases h
        | some r =>
          rw [hb] at h
          cases h
          cases d1
          rw [bools_ok hb d2]
          rfl
      · cases h
def fAll : List T → Option RV
  | [.list ts] => (bools ts).map fun bs => .val (.bool (bs.all id))
  | _ => none
def fAny : List T → Option RV
  | [.list ts] => (bools ts).map fun bs => .val (.bool (bs.any id))
  | _ => none
theorem f_all : OpN X.K fAll (rAll X.K) := fun xs ts z B H Q ex d hf k => by
  unfold fAll at hf
  split at hf
  · rename_i us
    cases d with
    | cons d dn =>
      cases dn
      cases d with
      | lst hs ha =>
        cases hb : bools us with
        | none => rw [hb] at hf; cases hf
        | some bs =>
          rw [hb] at hf
          cases hf
          have := bools_ok hb ha
          subst this
          exact ⟨_, bs, rfl, .inl (ex_rd ex hs), k _ B H (.val ex (.bl _))⟩
  · cases hf
theorem f_any : OpN X.K fAny (rAny X.K) := fun xs ts z B H Q ex d hf k => by
  unfold fAny at hf
  split at hf
  · rename_i us
    cases d with
    | cons d dn =>
      cases dn
      cases d with
      | lst hs ha =>
        cases hb : bools us with
        | none => rw [hb] at hf; cases hf
        | some bs =>
          rw [hb] at hf
          cases hf
          have := bools_ok hb ha
          subst this
          exact ⟨_, bs, rfl, .inl (ex_rd ex hs), k _ B H (.val ex (.bl _))⟩
  · cases hf
section
variable {es : List Expr} {ms : Ml} {x : Str} {id TT : String} {f : List T → Option RV} {r : List V → Hp → VK → Prop}
theorem x_blt (hr : CallR X (.builtin id) r) (ho : OpN X.K f r) (hg : Gl X x) (hm : X.mg x = none) (hv : bootBuiltins x = some (.builtin id)) (ha : PA X (a :: es) (tL X.K X.mg W ms)) (hn : x ≠ "__name__" := by decide) (hdb : (x == ("__debug__" : Str)) = false := by decide)
    (he : starEach (a :: es) X.env = (false, eval a X.env) :: starEach es X.env := by rfl) (hpl : (backTo pos (starEach es X.env)).any (·.1) = false := by rfl) : PE X (.Call (.Name x p) (a :: es) [] pos) (tV X.K X.mg W (mN f ms)) :=
  PE.imp (pe_callB hr hg hm hv ha hn hdb he hpl) fun _ _ _ => toN ho
theorem x_typ (hr : CallR X (.type TT) r) (ho : OpN X.K f r) (hg : Gl X x) (hm : X.mg x = none) (hv : bootBuiltins x = some (.type TT)) (ha : PA X (a :: es) (tL X.K X.mg W ms)) (hn : x ≠ "__name__" := by decide) (hdb : (x == ("__debug__" : Str)) = false := by decide)
    (he : starEach (a :: es) X.env = (false, eval a X.env) :: starEach es X.env := by rfl) (hpl : (backTo pos (starEach es X.env)).any (·.1) = false := by rfl) : PE X (.Call (.Name x p) (a :: es) [] pos) (tV X.K X.mg W (mN f ms)) :=
  PE.imp (pe_callTy hr hg hm hv ha hn hdb he hpl) fun _ _ _ => toN ho
/-- a built-in that the module imported -/
theorem x_imp (hr : CallR X (.builtin id) r) (ho : OpN X.K f r) (hg : Gl X x) (hm : X.mg x = some (.builtin id)) (ha : PA X (a :: es) (tL X.K X.mg W ms)) (hdb : (x == ("__debug__" : Str)) = false := by decide)
    (he : starEach (a :: es) X.env = (false, eval a X.env) :: starEach es X.env := by rfl) (hpl : (backTo pos (starEach es X.env)).any (·.1) = false := by rfl) : PE X (.Call (.Name x p) (a :: es) [] pos) (tV X.K X.mg W (mN f ms)) :=
  PE.imp (pe_callBfun hr hg hm ha hdb he hpl) fun _ _ _ => toN ho
end
/-! ### in -/
def flatT : T → Bool
  | .none => true
  | .bool _ => true
  | .int _ => true
  | .str _ => true
  | _ => false
def eqT : T → T → Bool
  | .none, .none => true
  | .bool a, .bool b => a == b
  | .bool a, .int b => (if a then 1 else 0) == b
  | .int a, .bool b => a == (if b then 1 else 0)
  | .int a, .int b => a == b
  | .str a, .str b => a == b
  | _, _ => false
theorem flat_ok {K : PySem.W.Frag} {B : Hp} {x : V} {t : T} (d : Dq K B x t) (h : flatT t = true) : flatV x = true := by
  cases d <;> first | rfl | cases h
theorem eq_ok {K : PySem.W.Frag} {B : Hp} {x y : V} {t u : T} (d : Dq K B x t) (d2 : Dq K B y u) (h : flatT t = true) (h2 : flatT u = true) : eqV x y = eqT t u := by
  cases d <;> first | (cases h; done) | (cases d2 <;> first | rfl | cases h2)
theorem flats_ok {K : PySem.W.Frag} {B : Hp} : ∀ {xs : List V} {ts : List T}, DqAll K B xs ts → ts.all flatT = true → xs.all flatV = true
  | _, [], d, _ => by cases d; rfl
  | _, t :: ts, d, h => by
    cases d with
    | cons d1 d2 =>
      rw [List.all_cons, Bool.and_eq_true] at h ⊢
      exact ⟨flat_ok d1 h.1, flats_ok d2 h.2⟩
theorem inV_ok {K : PySem.W.Frag} {B : Hp} {x : V} {t : T} (d : Dq K B x t) (h : flatT t = true) : ∀ {xs : List V} {ts : List T}, DqAll K B xs ts → ts.all flatT = true → inV x xs = ts.any fun u => eqT u t
  | _, [], dd, _ => by cases dd; rfl
  | _, u :: ts, dd, hh => by
    cases dd with
    | cons d1 d2 =>
      rw [List.all_cons, Bool.and_eq_true] at hh
      have ih := inV_ok d h d2 hh.2
      unfold inV at ih ⊢
      rw [List.any_cons, List.any_cons, ih, eq_ok d1 d hh.1 h]
def fIn (neg : Bool) (t u : T) : Option RV := match items u with
  | some ts => if flatT t && ts.all flatT then some (.val (.bool (if neg then !ts.any (fun u => eqT u t) else ts.any fun u => eqT u t))) else none
  | none => none
theorem f_in {neg : Bool} : Op2 X.K (fIn neg) (rIn X.K neg) := fun x y t u z B H Q ex d1 d2 hf k => by
  unfold fIn at hf
  cases h : items u with
  | none => rw [h] at hf; cases hf
  | some ts =>
    rw [h] at hf
    dsimp only at hf
    split at hf
    · rename_i hz
      cases hf
      rw [Bool.and_eq_true] at hz
      obtain ⟨c, xs, rfl, da, sq⟩ := items_ok d2 h
      refine ⟨c, xs, rfl, sq.elim (fun f => .inl (f H ex)) (fun f => .inr (f H ex)), flat_ok d1 hz.1, flats_ok da hz.2, ?_⟩
      rw [inV_ok d1 hz.1 da hz.2]
      exact k _ B H (.val ex (.bl _))
    · cases hf
/-! ### slices -/
def asI : T → Option Int
  | .int i => some i
  | _ => none
def mPart (m : Option Mt) : En → Res (Option Int) := fun e => match m with
  | none => .ok none e
  | some m => (m e).bind fun t e1 => match t with
    | .int i => .ok (some i) e1
    | _ => .bad
def tP (K : PySem.W.Frag) (mg : Str → Option Value) (W : WX) (m : En → Res (Option Int)) : TO := fun σ H Q => ∃ F B e, Sta K F B H σ e ∧ Post K mg W F B σ (fun B' H' e' o => Q o H') (m e)
theorem PO.imp {e : Option Expr} {t t' : TO} (h : PO X e t) (f : ∀ σ H Q, t' σ H Q → t σ H Q) : PO X e t' := ⟨fun pins s σ H Q I q => h.run pins s σ H Q I (f σ H Q q)⟩
theorem p_none : PO X none (tP X.K X.mg W (mPart none)) := PO.imp po_none fun σ H Q q => by
  obtain ⟨F, B, e, s, p⟩ := q
  exact p B H s .refl
theorem p_some {m : Mt} (h : PE X a (tT X.K X.mg W m)) : PO X (some a) (tP X.K X.mg W (mPart (some m))) := PO.imp (po_some h) fun σ H Q q => by
  obtain ⟨F, B, e, s, p⟩ := q
  refine ⟨F, B, e, s, (Post.unbind p).mono fun B1 H1 e1 t s1 g1 p1 v d => ?_⟩
  cases t with
  | int i => cases d; exact ⟨i, rfl, p1 B1 H1 s1 .refl⟩
  | _ => exact p1.elim
def cutT (ts : List T) (lo hi : Option Int) : List T := (ts.drop (HT.sIx ts.length 0 lo)).take (HT.sIx ts.length ts.length hi - HT.sIx ts.length 0 lo)
theorem cut_ok {K : PySem.W.Frag} {B : Hp} {xs : List V} {ts : List T} (d : DqAll K B xs ts) (lo hi : Option Int) : DqAll K B (cutV xs lo hi) (cutT ts lo hi) := by
  unfold cutV cutT
  rw [d.len]
  exact (d.drop _).take _
def fSl (t : T) (lo hi : Option Int) : Option RV := match t with
  | .list ts => some (.own (cutT ts lo hi))
  | .tuple ts => some (.val (.tuple (cutT ts lo hi)))
  | _ => none
def mSl (m : Mt) (lo hi : Option Mt) : Mv := fun e => (m e).bind fun t e1 => (mPart lo e1).bind fun l e2 => (mPart hi e2).bind fun h e3 => give (fSl t l h) e3
/-- t[lo:hi], the new tuple known to its object -/
def rSlX (K : PySem.W.Frag) : V → Option Int → Option Int → Hp → VK → Prop := fun x lo hi H Q => ∃ a xs, x = .ref a ∧ SqT K H a xs ∧ (cutV xs lo hi = xs → Q (.ref a) H) ∧ ∀ p o, H p = none → Bare1 o → Q (.ref p) (upd H p (.frz o (.tup (cutV xs lo hi))))
theorem sl_tupX : SlR X (rSlX X.K) := by
  intro pins s σ H x v vl vu lo hi sl Q I rx hs pl pu h
  obtain ⟨c, xs, rfl, hx, q1, q2⟩ := h
  by_cases hw : HT.sIx xs.length 0 lo = 0 ∧ HT.sIx xs.length xs.length hi = xs.length
  · refine sl_tupA pins s σ H _ v vl vu lo hi sl Q I rx hs pl pu ⟨c, xs, rfl, hx, fun _ => q1 ?_, fun n => absurd hw n⟩
    unfold cutV
    rw [hw.1, hw.2, List.drop_zero, Nat.sub_zero, List.take_length]
  · cases rx
    obtain ⟨us, r, ht, hz⟩ := I.tuple hx
    have hlen : us.toArray.size = xs.length := by rw [List.size_toArray, r.length]
    refine ⟨"tuple", _, PyProof.Rows.slot_tuple_getitem.lookup, ht.typeIs, HT.getItem_tuple_cut ht hs pl pu (by rw [hlen]; exact hw) ?_ (by rw [hlen]; exact hz)⟩
    rw [hlen]
    exact ⟨.ref _, _, Inv.layX I ((r.drop (HT.sIx xs.length 0 lo)).take (HT.sIx xs.length xs.length hi - HT.sIx xs.length 0 lo)) (Nat.le_trans (cutV_length xs lo hi) hz), rfl, q2 _ _ (I.hok.fresh (Nat.le_refl _)) ⟨rfl, rfl⟩⟩
theorem x_sl {m : Mt} {lo hi : Option Expr} {ml mh : Option Mt} {p2 : Pos} (ha : PE X a (tT X.K X.mg W m)) (hl : PO X lo (tP X.K X.mg W (mPart ml))) (hh : PO X hi (tP X.K X.mg W (mPart mh))) :
    PE X (.Subscript a (.Slice lo hi none p2) pos) (tV X.K X.mg W (mSl m ml mh)) := PE.imp (pe_slice (sl_list.or sl_tupX) ha hl hh) fun σ H Q q => by
  obtain ⟨F, B, e, s, p⟩ := q
  refine ⟨F, B, e, s, (Post.unbind p).mono fun B1 H1 e1 t s1 g1 p1 v d => ?_⟩
  refine ⟨F, B1, e1, s1, (Post.unbind p1).mono fun B2 H2 e2 l s2 g2 p2 => ?_⟩
  refine ⟨F, B2, e2, s2, (Post.unbind p2).mono fun B3 H3 e3 u s3 g3 p3 => ?_⟩
  refine give_ok s3 p3 fun z hz k => ?_
  have d3 := dq_ex (g2.ex.trans g3.ex) _ _ d
  unfold fSl at hz
  split at hz
  · cases hz
    cases d3 with
    | lst hs ha => exact .inl ⟨_, _, rfl, .inl (ex_rd s3.bh hs), fun p hp => k _ _ _ (.lst s3.bh hp (cut_ok ha _ _))⟩
  · cases hz
    cases d3 with
    | tup hs ha =>
      refine .inr ⟨_, _, rfl, ex_t s3.bh hs.t, fun e => ?_, fun p o hp hb => k _ _ _ (.tup s3.bh hp hb (cut_ok ha _ _))⟩
      have c := cut_ok ha l u
      rw [e] at c
      exact k _ _ _ (.val s3.bh (.tup hs c))
  · cases hz
/-- x[::-1] of a list -/
def fRev : T → Option RV
  | .list ts => some (.own ts.reverse)
  | _ => none
theorem x_rev {m : Mt} {k : Nat} {p1 p2 p3 : Pos} (ha : PE X a (tT X.K X.mg W m)) : PE X (.Subscript a (.Slice none none (some (.UnaryOp .USub (.Constant (.int 1) k p1) p2)) p3) pos) (tV X.K X.mg W (m1 fRev m)) :=
  PE.imp (pe_revL ha) fun σ H Q q => by
  obtain ⟨F, B, e, s, p⟩ := q
  refine ⟨F, B, e, s, (Post.unbind p).mono fun B1 H1 e1 t s1 g1 p1 v d => ?_⟩
  refine give_ok s1 p1 fun z hz k => ?_
  unfold fRev at hz
  split at hz
  · cases hz
    cases d with
    | lst hs ha => exact ⟨_, _, rfl, .inl (ex_rd s1.bh hs), fun p hp => k _ _ _ (.lst s1.bh hp ha.rev)⟩
  · cases hz
end
end TL
end
section
set_option Elab.async false
set_option linter.all false
set_option autoImplicit false
set_option maxRecDepth 100000
namespace TL
open PySem PySem.Spec PyProof.Rows L2

/-! ### chains of comparisons, as tests -/
structure QT (X : Cx) (pos : Pos) (ops : List CmpOp) (rs : List Expr) (t : V → TT) : Prop where
  run : ∀ (pins : List (Addr × Obj)) (s : Shared) (σ : L2.St) (H : Hp) (x : V) (v : Value) (Q : Bool → Hp → Prop), Inv X pins σ H s → RelV x v → t x σ H Q → wpAny (model X.prog X.w) X.A (testChain pos v ops (evalEach rs X.env)) (TP X pins σ Q) X.xe s
structure QV (X : Cx) (pos : Pos) (ops : List CmpOp) (rs : List Expr) (t : V → TE) : Prop where
  run : ∀ (pins : List (Addr × Obj)) (s : Shared) (σ : L2.St) (H : Hp) (x : V) (v : Value) (Q : VK), Inv X pins σ H s → RelV x v → t x σ H Q → wpAny (model X.prog X.w) X.A (compareChain pos v ops (evalEach rs X.env)) (EP X pins σ Q) X.xe s
abbrev Mq := T → En → Res Bool
def asBool : Option RV → Option Bool
  | some (.val (.bool b)) => some b
  | _ => none
def yes (z : Option RV) (e : En) : Res Bool := match asBool z with
  | some b => .ok b e
  | none => .bad
def qLast (f : T → T → Option RV) (mb : Mt) : Mq := fun t e => (mb e).bind fun u e1 => yes (f t u) e1
def qLink (f : T → T → Option RV) (mb : Mt) (c : Mq) : Mq := fun t e => (mb e).bind fun u e1 => (yes (f t u) e1).bind fun b e2 => if b = true then c u e2 else .ok false e2
section
variable {K : PySem.W.Frag} {mg : Str → Option Value} {W : WX}
def tQ (K : PySem.W.Frag) (mg : Str → Option Value) (W : WX) (c : Mq) (x : V) : TT := fun σ H Q => ∃ F B e t, Sta K F B H σ e ∧ Dq K B x t ∧ Post K mg W F B σ (fun B' H' e' b => Q b H') (c t e)
theorem yes_ok {F B H : Hp} {σ : L2.St} {e : En} {z : Option RV} {R : Hp → Hp → En → Bool → Prop} {P : Prop} (s : Sta K F B H σ e) (p : Post K mg W F B σ R (yes z e))
    (h : ∀ b, z = some (.val (.bool b)) → (∀ v B' H', NewOk K B H B' H' v (.val (.bool b)) → v = .bl b ∧ Sta K F B' H' σ e ∧ Grow F B B' ∧ R B' H' e b) → P) : P := by
  unfold yes at p
  cases hz : asBool z with
  | none => rw [hz] at p; exact p.elim
  | some b =>
    rw [hz] at p
    have hz' : z = some (.val (.bool b)) := by
      unfold asBool at hz
      split at hz
      · cases hz; rfl
      · cases hz
    refine h b hz' fun v B' H' n => ?_
    obtain ⟨s', g, o⟩ := n.rv s
    have d := o.1
    cases d
    exact ⟨rfl, s', g, p B' H' s' g⟩
end
section
variable {X : Cx} {W : WX} {a b c : Expr} {pos : Pos} {op : CmpOp} {ops : List CmpOp} {rs : List Expr} {f : T → T → Option RV} {r : R2} {mb : Mt} {cq : Mq}
theorem q_last (hr : OpR X (compareOp op) r) (ho : Op2 X.K f r) (hb : PE X b (tT X.K X.mg W mb)) : QT X pos [op] [b] (tQ X.K X.mg W (qLast f mb)) := by
  refine ⟨fun pins s σ H x v Q I rx q => ?_⟩
  obtain ⟨F, B, e, t, st, d, p⟩ := q
  refine test_last ?_
  refine thn (hb.run pins s σ H (fun y H1 => r x y H1 fun z H2 => ∃ k, z = .bl k ∧ Q k H2) I ⟨F, B, e, st, (Post.unbind p).mono fun B1 H1 e1 u s1 g1 p1 w dw => ?_⟩) fun u s1 ⟨y, H1, I1, r1, q1⟩ => ?_
  · exact yes_ok s1 p1 fun k hk kk => ho x w t u _ B1 H1 _ s1.bh (dq_ex g1.ex _ _ d) dw hk fun v' B' H' n => let ⟨e1, _, _, e4⟩ := kk v' B' H' n; ⟨k, e1, e4⟩
  · refine thn (hr pins s1 σ H1 x y v u _ I1 rx r1 q1) fun c' s2 ⟨z, H2, I2, r2, k, e2, q2⟩ => ?_
    subst e2
    cases r2
    exact wpAny_truthy_bool ⟨H2, I2, q2⟩
theorem q_link {op' : CmpOp} {b' : Expr} (hr : OpR X (compareOp op) r) (ho : Op2 X.K f r) (hb : PE X b (tT X.K X.mg W mb)) (hc : QT X pos (op' :: ops) (b' :: rs) (tQ X.K X.mg W cq)) : QT X pos (op :: op' :: ops) (b :: b' :: rs) (tQ X.K X.mg W (qLink f mb cq)) := by
  refine ⟨fun pins s σ H x v Q I rx q => ?_⟩
  obtain ⟨F, B, e, t, st, d, p⟩ := q
  refine test_link ?_
  refine thn (hb.run pins s σ H (fun y H1 => r x y H1 fun z H2 => ∃ k, z = .bl k ∧ if k = true then tQ X.K X.mg W cq y σ H2 Q else Q false H2) I ⟨F, B, e, st, (Post.unbind p).mono fun B1 H1 e1 u s1 g1 p1 w dw => ?_⟩) fun u s1 ⟨y, H1, I1, r1, q1⟩ => ?_
  · exact yes_ok s1 (Post.unbind p1) fun k hk kk => ho x w t u _ B1 H1 _ s1.bh (dq_ex g1.ex _ _ d) dw hk fun v' B' H' n => by
      obtain ⟨e1', s2, g2, e4⟩ := kk v' B' H' n
      refine ⟨k, e1', ?_⟩
      cases k with
      | true => exact ⟨F, B', e1, u, s2, dq_ex g2.ex _ _ dw, e4⟩
      | false => exact e4 B' H' s2 .refl
  · refine thn (hr pins s1 σ H1 x y v u _ I1 rx r1 q1) fun c' s2 ⟨z, H2, I2, r2, k, e2, q2⟩ => ?_
    subst e2
    cases r2
    refine wpAny_truthy_bool ?_
    cases k with
    | true => exact hc.run pins s2 σ H2 y u Q I2 r1 q2
    | false => exact ⟨H2, I2, q2⟩
def mChainT (m : Mt) (c : Mq) : Mb := fun e => (m e).bind fun t e1 => c t e1
theorem o_chain {op' : CmpOp} {b' : Expr} {m : Mt} (ha : PE X a (tT X.K X.mg W m)) (hc : QT X pos (op :: op' :: ops) (b :: b' :: rs) (tQ X.K X.mg W cq)) (hm : lastMarks (op :: op' :: ops) (b :: b' :: rs) = false := by with_unfolding_all rfl) :
    PT X (.Compare a (op :: op' :: ops) (b :: b' :: rs) pos) (tO X.K X.mg W (mChainT m cq)) := by
  refine ⟨fun pins s σ H Q I q => isTrue_chain ?_ hm⟩
  obtain ⟨F, B, e, st, p⟩ := q
  refine thn (ha.run pins s σ H (fun x H1 => tQ X.K X.mg W cq x σ H1 Q) I ⟨F, B, e, st, (Post.unbind p).mono fun B1 H1 e1 t s1 g1 p1 v d => ⟨F, B1, e1, t, s1, d, p1⟩⟩) fun v s1 ⟨x, H1, I1, r1, q1⟩ => ?_
  exact hc.run pins s1 σ H1 x v Q I1 r1 q1
/-! the same as values -/
theorem v_last (hr : OpR X (compareOp op) r) (ho : Op2 X.K f r) (hb : PE X b (tT X.K X.mg W mb)) : QV X pos [op] [b] (fun x σ H Q => tQ X.K X.mg W (qLast f mb) x σ H fun k H' => Q (.bl k) H') := by
  refine ⟨fun pins s σ H x v Q I rx q => ?_⟩
  obtain ⟨F, B, e, t, st, d, p⟩ := q
  refine chain_last ?_
  refine thn (hb.run pins s σ H (fun y H1 => r x y H1 Q) I ⟨F, B, e, st, (Post.unbind p).mono fun B1 H1 e1 u s1 g1 p1 w dw => ?_⟩) fun u s1 ⟨y, H1, I1, r1, q1⟩ => hr pins s1 σ H1 x y v u _ I1 rx r1 q1
  exact yes_ok s1 p1 fun k hk kk => ho x w t u _ B1 H1 _ s1.bh (dq_ex g1.ex _ _ d) dw hk fun v' B' H' n => by
    obtain ⟨e1', _, _, e4⟩ := kk v' B' H' n
    rw [e1']
    exact e4
theorem v_link {op' : CmpOp} {b' : Expr} (hr : OpR X (compareOp op) r) (ho : Op2 X.K f r) (hb : PE X b (tT X.K X.mg W mb)) (hc : QV X pos (op' :: ops) (b' :: rs) (fun x σ H Q => tQ X.K X.mg W cq x σ H fun k H' => Q (.bl k) H')) :
    QV X pos (op :: op' :: ops) (b :: b' :: rs) (fun x σ H Q => tQ X.K X.mg W (qLink f mb cq) x σ H fun k H' => Q (.bl k) H') := by
  refine ⟨fun pins s σ H x v Q I rx q => ?_⟩
  obtain ⟨F, B, e, t, st, d, p⟩ := q
  refine chain_link ?_
  refine thn (hb.run pins s σ H (fun y H1 => r x y H1 fun z H2 => ∃ k, z = .bl k ∧ if k = true then tQ X.K X.mg W cq y σ H2 (fun k H' => Q (.bl k) H') else Q (.bl false) H2) I ⟨F, B, e, st, (Post.unbind p).mono fun B1 H1 e1 u s1 g1 p1 w dw => ?_⟩) fun u s1 ⟨y, H1, I1, r1, q1⟩ => ?_
  · exact yes_ok s1 (Post.unbind p1) fun k hk kk => ho x w t u _ B1 H1 _ s1.bh (dq_ex g1.ex _ _ d) dw hk fun v' B' H' n => by
      obtain ⟨e1', s2, g2, e4⟩ := kk v' B' H' n
      refine ⟨k, e1', ?_⟩
      cases k with
      | true => exact ⟨F, B', e1, u, s2, dq_ex g2.ex _ _ dw, e4⟩
      | false => exact e4 B' H' s2 .refl
  · refine thn (hr pins s1 σ H1 x y v u _ I1 rx r1 q1) fun c' s2 ⟨z, H2, I2, r2, k, e2, q2⟩ => ?_
    subst e2
    cases r2
    refine wpAny_truthy_bool ?_
    cases k with
    | true => exact hc.run pins s2 σ H2 y u Q I2 r1 q2
    | false => exact ⟨.bl false, H2, I2, rfl, q2⟩
def mBoolT (m : Mb) : Mt := fun e => (m e).bind fun b e1 => .ok (.bool b) e1
theorem x_chain {op' : CmpOp} {b' : Expr} {m : Mt} (ha : PE X a (tT X.K X.mg W m)) (hc : QV X pos (op :: op' :: ops) (b :: b' :: rs) (fun x σ H Q => tQ X.K X.mg W cq x σ H fun k H' => Q (.bl k) H')) (hm : lastMarks (op :: op' :: ops) (b :: b' :: rs) = false := by with_unfolding_all rfl) :
    PE X (.Compare a (op :: op' :: ops) (b :: b' :: rs) pos) (tT X.K X.mg W (mBoolT (mChainT m cq))) := by
  refine ⟨fun pins s σ H Q I q => Compare_chain ?_ hm⟩
  obtain ⟨F, B, e, st, p⟩ := q
  refine thn (ha.run pins s σ H (fun x H1 => tQ X.K X.mg W cq x σ H1 fun k H' => Q (.bl k) H') I ⟨F, B, e, st, (Post.unbind (Post.unbind p)).mono fun B1 H1 e1 t s1 g1 p1 v d => ⟨F, B1, e1, t, s1, d, p1.mono fun B2 H2 e2 k s2 g2 p2 => p2 B2 H2 s2 .refl _ (.bl k)⟩⟩) fun v s1 ⟨x, H1, I1, r1, q1⟩ => ?_
  exact hc.run pins s1 σ H1 x v Q I1 r1 q1

/-! ### what is walked -/
theorem tw_list {K : PySem.W.Frag} {B : Hp} {c : Addr} {xs : List V} {ts : List T} (h : ∀ H, Ex B H → SqL K H c xs) (d : DqAll K B xs ts) : TW K (Itl K c) B ts where
  goes := fun i H hi ex => ⟨xs, xs[i]'(by rw [d.len]; exact hi), h H ex, List.getElem?_eq_getElem _⟩
  stops := fun H ex => ⟨xs, h H ex, by rw [d.len]; exact Nat.le_refl _⟩
  yields := fun i H Bc x H' t ht e1 e2 y => by
    obtain ⟨rfl, y⟩ := y
    obtain ⟨v, h1, h2⟩ := d.get ht
    have h3 := y xs (h H' (e1.trans e2))
    rw [h1] at h3
    cases h3
    exact ⟨Bc, .refl e2, dq_ex e1 _ _ h2⟩
theorem tw_tup {K : PySem.W.Frag} {B : Hp} {c : Addr} {xs : List V} {ts : List T} (h : ∀ H, Ex B H → SqT K H c xs) (d : DqAll K B xs ts) : TW K (Itt K c) B ts where
  goes := fun i H hi ex => ⟨xs, xs[i]'(by rw [d.len]; exact hi), h H ex, List.getElem?_eq_getElem _⟩
  stops := fun H ex => ⟨xs, h H ex, by rw [d.len]; exact Nat.le_refl _⟩
  yields := fun i H Bc x H' t ht e1 e2 y => by
    obtain ⟨rfl, y⟩ := y
    obtain ⟨v, h1, h2⟩ := d.get ht
    have h3 := y xs (h H' (e1.trans e2))
    rw [h1] at h3
    cases h3
    exact ⟨Bc, .refl e2, dq_ex e1 _ _ h2⟩
def rngT (lo : Int) (n : Nat) : List T := (List.range n).map fun i => .int (lo + (i : Nat))
theorem tw_rng {K : PySem.W.Frag} {B : Hp} {lo : Int} {n : Nat} : TW K (Itr lo n) B (rngT lo n) where
  goes := fun i H hi _ => by
    unfold rngT at hi
    rw [List.length_map, List.length_range] at hi
    exact hi
  stops := fun H _ => by
    unfold rngT
    rw [List.length_map, List.length_range]
    exact Nat.le_refl n
  yields := fun i H Bc x H' t ht e1 e2 y => by
    obtain ⟨rfl, rfl⟩ := y
    unfold rngT at ht
    rw [List.getElem?_map] at ht
    cases hr : (List.range n)[i]? with
    | none => rw [hr] at ht; cases ht
    | some j =>
      rw [hr] at ht
      cases ht
      have hi := (List.getElem?_eq_some_iff.mp hr).1
      rw [List.length_range] at hi
      rw [List.getElem?_range hi] at hr
      cases hr
      exact ⟨Bc, .refl e2, .int _⟩
def mSeq1 (m : Mt) : Ml := fun e => (m e).bind fun t e1 => match items t with
  | some ts => .ok ts e1
  | none => .bad
theorem i_seq {tg : Expr} {m : Mt} (ha : PE X a (tT X.K X.mg W m)) : PI X tg a (tI X.K X.mg W (mSeq1 m)) := PI.imp (PI.or (pi_list ha) (pi_tup ha)) fun σ H R q => by
  obtain ⟨F, B, e, s, p⟩ := q
  -- which of the two it is
  cases hm : m e with
  | ok t e1 =>
    have p1 := Post.unbind p
    rw [hm] at p1
    cases hi : items t with
    | none =>
      have p2 : Post X.K X.mg W F B σ (fun B' H' _ ts => ∀ J, TW X.K J B' ts → R J H') ((m e).bind fun t e1 => match items t with
        | some ts => .ok ts e1
        | none => .bad) := p
      rw [hm] at p2
      dsimp only [Res.bind] at p2
      rw [hi] at p2
      exact p2.elim
    | some ts =>
      have p2 : Post X.K X.mg W F B σ (fun B' H' _ ts => ∀ J, TW X.K J B' ts → R J H') ((m e).bind fun t e1 => match items t with
        | some ts => .ok ts e1
        | none => .bad) := p
      rw [hm] at p2
      dsimp only [Res.bind] at p2
      rw [hi] at p2
      have kl : ∀ {B1 H1 : Hp}, Sta X.K F B1 H1 σ e1 → Grow F B B1 → ∀ J, TW X.K J B1 ts → R J H1 := fun {B1 H1} s1 g1 => p2 B1 H1 s1 g1
      by_cases hl : (∃ us, t = .tuple us)
      · obtain ⟨us, rfl⟩ := hl
        refine .inr ⟨F, B, e, s, ?_⟩
        rw [hm]
        intro B1 H1 s1 g1 v d
        cases d with
        | tup hs ha =>
          cases hi
          exact ⟨_, rfl, ⟨_, ex_t s1.bh hs.t⟩, kl s1 g1 _ (tw_tup (fun H ex => ex_t ex hs.t) ha)⟩
      · refine .inl ⟨F, B, e, s, ?_⟩
        rw [hm]
        intro B1 H1 s1 g1 v d
        cases d with
        | tup hs ha => exact absurd ⟨_, rfl⟩ hl
        | lst hs ha =>
          cases hi
          exact ⟨_, rfl, ⟨_, .inl (ex_rd s1.bh hs)⟩, kl s1 g1 _ (tw_list (fun H ex => .inl (ex_rd ex hs)) ha)⟩
        | @scr c ns hs =>
          have hi' : (ints? (ns.map fun n => (.int n, .none))).map (fun ns => ns.map PyData.int) = some ts := hi
          cases q : ints? (ns.map fun n => (PyData.int n, PyData.none)) with
          | none => rw [q] at hi'; cases hi'
          | some r =>
            rw [q] at hi'
            cases hi'
            rw [ints_ok q] at kl
            exact ⟨c, rfl, ⟨_, ex_l s1.bh hs⟩, kl s1 g1 _ (tw_list (fun H ex => ex_l ex hs) (dq_ints ns))⟩
        | prs hs h1 h2 =>
          exfalso
          have hi' : (ints? [(_, _), (.bool true, .none)]).map (fun ns => ns.map PyData.int) = some ts := hi
          unfold ints? at hi'
          split at hi'
          · rename_i q; cases q
          · rename_i q
            injection q with q1 q2
            subst q2
            cases hi'
          · cases hi'
        | _ => cases hi
  | exc x e1 =>
    have p2 : Post X.K X.mg W F B σ (fun B' H' _ ts => ∀ J, TW X.K J B' ts → R J H') ((m e).bind fun t e1 => match items t with
      | some ts => .ok ts e1
      | none => .bad) := p
    rw [hm] at p2
    exact .inl ⟨F, B, e, s, by rw [hm]; exact p2⟩
  | bad =>
    have p2 : Post X.K X.mg W F B σ (fun B' H' _ ts => ∀ J, TW X.K J B' ts → R J H') ((m e).bind fun t e1 => match items t with
      | some ts => .ok ts e1
      | none => .bad) := p
    rw [hm] at p2
    exact p2.elim
def mRng (ms : Ml) : Ml := fun e => (ms e).bind fun ts e1 => match ts with
  | [.int n] => if n ≤ 100000 ∧ -100000 ≤ n then .ok (rngT 0 n.toNat) e1 else .bad
  | _ => .bad
theorem i_rng {tg : Expr} {p : Pos} {ms : Ml} (hg : Gl X "range") (hm : X.mg "range" = none) (ha : PA X [a] (tL X.K X.mg W ms)) (hs : starEach [a] X.env = [(false, eval a X.env)] := by rfl) :
    PI X tg (.Call (.Name "range" p) [a] [] pos) (tI X.K X.mg W (mRng ms)) := PI.imp (pi_range1 hg hm ha hs) fun σ H R q => by
  obtain ⟨F, B, e, s, p⟩ := q
  refine ⟨F, B, e, s, (Post.unbind p).mono fun B1 H1 e1 ts s1 g1 p1 vs d => ?_⟩
  split at p1
  · split at p1
    · rename_i h
      cases d with
      | cons d dn =>
        cases dn
        cases d
        exact ⟨_, rfl, by omega, by omega, p1 B1 H1 s1 .refl _ tw_rng⟩
    · exact p1.elim
  · exact p1.elim
def mRng2 (ms : Ml) : Ml := fun e => (ms e).bind fun ts e1 => match ts with
  | [.int l, .int n] => if n ≤ 100000 ∧ -100000 ≤ n ∧ l ≤ 100000 ∧ -100000 ≤ l then .ok (rngT l (n - l).toNat) e1 else .bad
  | _ => .bad
theorem i_rng2 {tg : Expr} {p : Pos} {ms : Ml} (hg : Gl X "range") (hm : X.mg "range" = none) (ha : PA X [a, b] (tL X.K X.mg W ms)) (hs : starEach [a, b] X.env = [(false, eval a X.env), (false, eval b X.env)] := by rfl) (hs2 : starEach [b] X.env = [(false, eval b X.env)] := by rfl) :
    PI X tg (.Call (.Name "range" p) [a, b] [] pos) (tI X.K X.mg W (mRng2 ms)) := PI.imp (pi_range2 hg hm ha hs hs2) fun σ H R q => by
  obtain ⟨F, B, e, s, p⟩ := q
  refine ⟨F, B, e, s, (Post.unbind p).mono fun B1 H1 e1 ts s1 g1 p1 vs d => ?_⟩
  split at p1
  · split at p1
    · rename_i h
      cases d with
      | cons d dn =>
        cases dn with
        | cons d2 dn =>
          cases dn
          cases d
          cases d2
          exact ⟨_, _, rfl, ⟨by omega, by omega, by omega, by omega⟩, p1 B1 H1 s1 .refl _ tw_rng⟩
    · exact p1.elim
  · exact p1.elim
/-! ### enumerate, zip -/
def enumT : Nat → List T → List T
  | _, [] => []
  | n, t :: ts => pair (.int (n : Nat)) t :: enumT (n + 1) ts
theorem enumT_get : ∀ {ts : List T} {n i : Nat} {u : T}, (enumT n ts)[i]? = some u → ∃ t, ts[i]? = some t ∧ u = pair (.int ((n + i : Nat) : Int)) t
  | [], _, _, _, h => by simp [enumT] at h
  | t :: ts, n, 0, u, h => by
    cases h
    exact ⟨t, rfl, rfl⟩
  | t :: ts, n, i + 1, u, h => by
    obtain ⟨t', h1, h2⟩ := enumT_get (ts := ts) (n := n + 1) (i := i) (u := u) (by simpa [enumT] using h)
    exact ⟨t', by simpa using h1, by rw [h2]; congr 2; omega⟩
theorem enumT_len : ∀ {ts : List T} {n : Nat}, (enumT n ts).length = ts.length
  | [], _ => rfl
  | t :: ts, n => by unfold enumT; rw [List.length_cons, List.length_cons, enumT_len]
/-- a loop's new pair is laid down -/
theorem pair_new {K : PySem.W.Frag} {Bc H : Hp} {t : Addr} {x y : V} {d u : T} (e2 : Ex Bc H) (ht : H t = none) (d1 : Dq K Bc x d) (d2 : Dq K Bc y u) : ∃ B', News Bc H B' (upd H t (.tup [x, y])) ∧ Dq K B' (.ref t) (pair d u) :=
  ⟨_, .lay e2 ht, .prs (.inl (.inl upd_same)) (dq_ex (Ex.new (e2.back ht)) _ _ d1) (dq_ex (Ex.new (e2.back ht)) _ _ d2)⟩
theorem tw_enumL {K : PySem.W.Frag} {B : Hp} {c : Addr} {xs : List V} {ts : List T} (h : ∀ H, Ex B H → SqL K H c xs) (d : DqAll K B xs ts) : TW K (Ite K c) B (enumT 0 ts) where
  goes := fun i H hi ex => ⟨xs, xs[i]'(by rw [d.len]; rw [enumT_len] at hi; exact hi), h H ex, List.getElem?_eq_getElem _⟩
  stops := fun H ex => ⟨xs, h H ex, by rw [d.len, enumT_len]; exact Nat.le_refl _⟩
  yields := fun i H Bc x H' t ht e1 e2 y => by
    obtain ⟨q, v, rfl, hq, rfl, y⟩ := y
    obtain ⟨u, h1, rfl⟩ := enumT_get ht
    obtain ⟨v', h3, h4⟩ := d.get h1
    have h5 := y xs (h H (e1.trans e2))
    rw [h3] at h5
    cases h5
    rw [Nat.zero_add]
    exact pair_new e2 hq (.int _) (dq_ex e1 _ _ h4)
theorem tw_enumT {K : PySem.W.Frag} {B : Hp} {c : Addr} {xs : List V} {ts : List T} (h : ∀ H, Ex B H → SqX K H c xs) (d : DqAll K B xs ts) : TW K (IteT K c) B (enumT 0 ts) where
  goes := fun i H hi ex => ⟨xs, xs[i]'(by rw [d.len]; rw [enumT_len] at hi; exact hi), (h H ex).t, List.getElem?_eq_getElem _⟩
  stops := fun H ex => ⟨xs, (h H ex).t, by rw [d.len, enumT_len]⟩
  yields := fun i H Bc x H' t ht e1 e2 y => by
    obtain ⟨q, v, rfl, hq, rfl, y⟩ := y
    obtain ⟨u, h1, rfl⟩ := enumT_get ht
    obtain ⟨v', h3, h4⟩ := d.get h1
    have h5 := y xs (h H (e1.trans e2)).t
    rw [h3] at h5
    cases h5
    rw [Nat.zero_add]
    exact pair_new e2 hq (.int _) (dq_ex e1 _ _ h4)
end
end TL
end
section
set_option Elab.async false
set_option linter.all false
set_option autoImplicit false
set_option maxRecDepth 100000
namespace TL
open PySem PySem.Spec PyProof.Rows L2

section
variable {K : PySem.W.Frag} {mg : Str → Option Value} {W : WX}
/-- what a part comes to, and what is owed behind it -/
theorem res_cases {α β : Type} {F B : Hp} {σ : L2.St} {m : Res α} {f : α → En → Res β} {R : Hp → Hp → En → β → Prop} {P : Prop} (p : Post K mg W F B σ R (m.bind f))
    (h : ∀ t e1, m = .ok t e1 → (∀ B1 H1, Sta K F B1 H1 σ e1 → Grow F B B1 → Post K mg W F B1 σ R (f t e1)) → P)
    (hx : ∀ x e1, m = .exc x e1 → (∀ (R' : Hp → Hp → En → α → Prop), Post K mg W F B σ R' m) → P) : P := by
  cases m with
  | ok t e1 => exact h t e1 rfl fun B1 H1 s1 g1 => Post.up (r := f t e1) p g1
  | exc x e1 => exact hx x e1 rfl fun R' => p
  | bad => exact p.elim
theorem nodq_pair {d u : T} {ts : List T} (h : items (pair d u) = some ts) : False := by
  have h' : (ints? [(d, u), (.bool true, .none)]).map (fun ns => ns.map PyData.int) = some ts := h
  unfold ints? at h'
  split at h'
  · rename_i q; cases q
  · rename_i q
    injection q with q1 q2
    subst q2
    cases h'
  · cases h'
end
def mEnum (ms : Ml) : Ml := fun e => (ms e).bind fun us e1 => match us with
  | [.list ts] => .ok (enumT 0 ts) e1
  | [.tuple ts] => .ok (enumT 0 ts) e1
  | _ => .bad
def mZip (ms : Ml) : Ml := fun e => (ms e).bind fun us e1 => match us with
  | [.list ts, .list us] => .ok (List.zipWith pair ts us) e1
  | [.tuple ts, .tuple us] => .ok (List.zipWith pair ts us) e1
  | _ => .bad
section
variable {X : Cx} {W : WX} {a b : Expr} {p pos tpos : Pos} {elts : List Expr} {kk : Nat}
theorem i_enum {ms : Ml} (hg : Gl X "enumerate") (hm : X.mg "enumerate" = none) (ha : PA X [a] (tL X.K X.mg W ms)) (hs : starEach [a] X.env = [(false, eval a X.env)] := by rfl) :
    PI X (.Tuple elts kk tpos) (.Call (.Name "enumerate" p) [a] [] pos) (tI X.K X.mg W (mEnum ms)) := PI.imp (PI.or (pi_enum hg hm ha hs) (pi_enumT hg hm ha hs)) fun σ H R q => by
  obtain ⟨F, B, e, s, p⟩ := q
  refine res_cases p (fun us e1 hms hk => ?_) fun x e1 hms hk => .inl ⟨F, B, e, s, hk _⟩
  have hk1 := fun B1 H1 s1 g1 => hk B1 H1 s1 g1
  split at hk1
  · refine .inl ⟨F, B, e, s, ?_⟩
    rw [hms]
    intro B1 H1 s1 g1 vs d
    cases d with
    | cons d dn =>
      cases dn
      cases d with
      | lst hs ha => exact ⟨_, _, rfl, .inl (ex_rd s1.bh hs), hk1 B1 H1 s1 g1 B1 H1 s1 .refl _ (tw_enumL (fun H ex => .inl (ex_rd ex hs)) ha)⟩
  · refine .inr ⟨F, B, e, s, ?_⟩
    rw [hms]
    intro B1 H1 s1 g1 vs d
    cases d with
    | cons d dn =>
      cases dn
      cases d with
      | tup hs ha => exact ⟨_, _, rfl, ex_t s1.bh hs.t, hk1 B1 H1 s1 g1 B1 H1 s1 .refl _ (tw_enumT (fun H ex => ex_x ex hs) ha)⟩
  · refine .inl ⟨F, B, e, s, ?_⟩
    rw [hms]
    intro B1 H1 s1 g1
    exact (hk1 B1 H1 s1 g1).elim
theorem zip_get {ts us : List T} {i : Nat} {t : T} (h : (List.zipWith pair ts us)[i]? = some t) : ∃ d u, ts[i]? = some d ∧ us[i]? = some u ∧ t = pair d u := by
  rw [List.getElem?_zipWith] at h
  cases h1 : ts[i]? with
  | none => rw [h1] at h; cases h
  | some d =>
    cases h2 : us[i]? with
    | none => rw [h1, h2] at h; cases h
    | some u =>
      rw [h1, h2] at h
      cases h
      exact ⟨d, u, rfl, rfl, rfl⟩
theorem tw_zipL {K : PySem.W.Frag} {B : Hp} {c c2 : Addr} {xs ys : List V} {ts us : List T} (h : ∀ H, Ex B H → SqL K H c xs) (h2 : ∀ H, Ex B H → SqL K H c2 ys) (d : DqAll K B xs ts) (d2 : DqAll K B ys us) : TW K (Itz K c c2) B (List.zipWith pair ts us) where
  goes := fun i H hi ex => by
    rw [List.length_zipWith] at hi
    exact ⟨xs, ys, xs[i]'(by rw [d.len]; omega), ys[i]'(by rw [d2.len]; omega), h H ex, h2 H ex, List.getElem?_eq_getElem _, List.getElem?_eq_getElem _⟩
  stops := fun H ex => ⟨xs, ys, h H ex, h2 H ex, by rw [List.length_zipWith, d.len, d2.len]; omega⟩
  yields := fun i H Bc x H' t ht e1 e2 y => by
    obtain ⟨q, v, w, rfl, hq, rfl, y1, y2⟩ := y
    obtain ⟨u1, u2, k1, k2, rfl⟩ := zip_get ht
    obtain ⟨v1, m1, m2⟩ := d.get k1
    obtain ⟨v2, m3, m4⟩ := d2.get k2
    have z1 := y1 xs (h H (e1.trans e2))
    have z2 := y2 ys (h2 H (e1.trans e2))
    rw [m1] at z1
    rw [m3] at z2
    cases z1
    cases z2
    exact pair_new e2 hq (dq_ex e1 _ _ m2) (dq_ex e1 _ _ m4)
theorem tw_zipT {K : PySem.W.Frag} {B : Hp} {c c2 : Addr} {xs ys : List V} {ts us : List T} (h : ∀ H, Ex B H → SqT K H c xs) (h2 : ∀ H, Ex B H → SqT K H c2 ys) (d : DqAll K B xs ts) (d2 : DqAll K B ys us) : TW K (RZ.ItzT K c c2) B (List.zipWith pair ts us) where
  goes := fun i H hi ex => by
    rw [List.length_zipWith] at hi
    exact ⟨xs, ys, xs[i]'(by rw [d.len]; omega), ys[i]'(by rw [d2.len]; omega), h H ex, h2 H ex, List.getElem?_eq_getElem _, List.getElem?_eq_getElem _⟩
  stops := fun H ex => ⟨xs, ys, h H ex, h2 H ex, by rw [List.length_zipWith, d.len, d2.len]; omega⟩
  yields := fun i H Bc x H' t ht e1 e2 y => by
    obtain ⟨q, v, w, rfl, hq, rfl, y1, y2⟩ := y
    obtain ⟨u1, u2, k1, k2, rfl⟩ := zip_get ht
    obtain ⟨v1, m1, m2⟩ := d.get k1
    obtain ⟨v2, m3, m4⟩ := d2.get k2
    have z1 := y1 xs (h H (e1.trans e2))
    have z2 := y2 ys (h2 H (e1.trans e2))
    rw [m1] at z1
    rw [m3] at z2
    cases z1
    cases z2
    exact pair_new e2 hq (dq_ex e1 _ _ m2) (dq_ex e1 _ _ m4)
theorem i_zip {ms : Ml} (hg : Gl X "zip") (hm : X.mg "zip" = none) (ha : PA X [a, b] (tL X.K X.mg W ms)) (hs : starEach [a, b] X.env = (false, eval a X.env) :: starEach [b] X.env := by rfl) (hpl : (backTo pos (starEach [b] X.env)).any (·.1) = false := by rfl) :
    PI X (.Tuple elts kk tpos) (.Call (.Name "zip" p) [a, b] [] pos) (tI X.K X.mg W (mZip ms)) := PI.imp (RZ.pi_zipA hg hm ha hs hpl) fun σ H R q => by
  obtain ⟨F, B, e, s, p⟩ := q
  refine ⟨F, B, e, s, (Post.unbind p).mono fun B1 H1 e1 us s1 g1 p1 vs d => ?_⟩
  split at p1
  · cases d with
    | cons d dn => cases dn with
      | cons d2 dn =>
        cases dn
        cases d with
        | lst hs ha => cases d2 with
          | lst hs2 ha2 => exact ⟨_, _, _, _, rfl, .inl ⟨.inl (ex_rd s1.bh hs), .inl (ex_rd s1.bh hs2), p1 B1 H1 s1 .refl _ (tw_zipL (fun H ex => .inl (ex_rd ex hs)) (fun H ex => .inl (ex_rd ex hs2)) ha ha2)⟩⟩
  · cases d with
    | cons d dn => cases dn with
      | cons d2 dn =>
        cases dn
        cases d with
        | tup hs ha => cases d2 with
          | tup hs2 ha2 => exact ⟨_, _, _, _, rfl, .inr ⟨ex_t s1.bh hs.t, ex_t s1.bh hs2.t, p1 B1 H1 s1 .refl _ (tw_zipT (fun H ex => ex_t ex hs.t) (fun H ex => ex_t ex hs2.t) ha ha2)⟩⟩
  · exact p1.elim
end
end TL
end
section
set_option Elab.async false
set_option linter.all false
set_option autoImplicit false
set_option maxRecDepth 100000
namespace TL
open PySem PySem.Spec PyProof.Rows L2

/-! ### t.index(x) of a tuple of flat values -/
section
variable {X : Cx} {W : WX} {a b : Expr} {pos apos : Pos}
def rIdx (K : PySem.W.Frag) : V → List V → Hp → VK → Prop := fun x vs H Q => ∃ (c : Addr) (ys : List V) (y z : V) (j : Nat), x = .ref c ∧ vs = [y] ∧ SqT K H c ys ∧ flatV y = true ∧ ys.all flatV = true ∧ ys[j]? = some z ∧ eqV z y = true ∧
  (∀ (m : Nat) (w : V), m < j → ys[m]? = some w → eqV w y = false) ∧ Q (.int (j : Nat)) H
theorem mt_idx : MtR X "tuple.index" (rIdx X.K) := by
  intro pins s σ H x vs v us Q I rx rv h
  obtain ⟨c, ys, y, z, j, rfl, rfl, hq, fy, fys, hz, hzy, hno, q⟩ := h
  cases rx
  obtain ⟨uy, rfl, ry⟩ := vals1 rv
  obtain ⟨ws, rw', pl, _⟩ := I.tuple hq
  obtain ⟨⟨cls, dd, dt, sl⟩, ho, hc, n, hd⟩ := pl
  simp only at hc hd
  subst hc hd
  obtain ⟨u, hu, ru⟩ := rw'.get hz
  obtain ⟨hjl, hje⟩ := List.getElem?_eq_some_iff.mp hu
  have hj : j < ws.toArray.size := by simpa using hjl
  refine call_meets PySem.F.slot_tuple_index ⟨_, ho, rfl⟩ PySem.F.entry_tuple_index (PySem.F.args_tuple_index_2 _ _) (TI.tuple_indexAt c ws.toArray n dd sl uy (eqU y) j hj ?_ ?_)
    ⟨ho, fun w hw => mem_eqAt ry fy rw' fys w (by simpa using hw), .int (j : Nat), H, I.tok _, ⟨_, rfl⟩, q⟩
  · have e1 : ws.toArray[j] = u := by simpa using hje
    rw [e1, eqU_of ru (flat_at fys hz)]
    exact hzy
  · intro m hm hmj
    have hml : m < ws.length := by simpa using hm
    have hmy : m < ys.length := by rw [rw'.length]; exact hml
    have hy : ys[m]? = some ys[m] := List.getElem?_eq_getElem hmy
    obtain ⟨w, hw, rw2⟩ := rw'.get hy
    have e2 : ws.toArray[m] = w := by
      have := (List.getElem?_eq_some_iff.mp hw).2
      simpa using this
    rw [e2, eqU_of rw2 (flat_at fys hy)]
    exact hno m _ hmj hy
/-- the first place -/
def idxT (t : T) : Nat → List T → Option Nat
  | _, [] => none
  | n, u :: r => if eqT u t then some n else idxT t (n + 1) r
theorem idxT_ok {t : T} : ∀ {ts : List T} {n j : Nat}, idxT t n ts = some j → ∃ i u, j = n + i ∧ ts[i]? = some u ∧ eqT u t = true ∧ ∀ (m : Nat) (w : T), m < i → ts[m]? = some w → eqT w t = false
  | [], _, _, h => by cases h
  | u :: r, n, j, h => by
    unfold idxT at h
    split at h
    · cases h
      exact ⟨0, u, rfl, rfl, by assumption, fun m w hm => absurd hm (Nat.not_lt_zero _)⟩
    · rename_i hu
      obtain ⟨i, w, h1, h2, h3, h4⟩ := idxT_ok h
      refine ⟨i + 1, w, by omega, by simpa using h2, h3, fun m x hm hx => ?_⟩
      cases m with
      | zero =>
        cases hx
        exact Bool.eq_false_iff.mpr hu
      | succ m => exact h4 m x (by omega) (by simpa using hx)
def fIdx (ts : List T) (u : T) : Option RV := if flatT u && ts.all flatT then (idxT u 0 ts).map fun j => .val (.int (j : Nat)) else none
def mIdx (m mb : Mt) : Mv := fun e => (m e).bind fun t e1 => match t with
  | .tuple ts => (mb e1).bind fun u e2 => give (fIdx ts u) e2
  | _ => .bad
/-- x.name(e), x a tuple -/
def tTupM (K : PySem.W.Frag) (r : V → List V → Hp → VK → Prop) (to te : TE) : TE := fun σ H Q => to σ H fun x H1 => (∃ c xs, x = .ref c ∧ SqX K H1 c xs) ∧ te σ H1 fun y H2 => r x [y] H2 Q
theorem pe_tupM {name : Str} {id : String} {r : V → List V → Hp → VK → Prop} {to te : TE} (slot : Slot "tuple" name id) (hty : typeOf (.builtin id) = pure (.type "method_descriptor")) (hm : MtR X id r) (ho : PE X a to) (hb : PE X b te)
    (hbase : attributeBase a name X.env (eval a X.env) = eval a X.env := by rfl)
    (hfew : ((backTo pos (starEach [b] X.env)).all (fun x => !x.1) && (backToKw pos (keywordEach [] X.env)).all (fun x => x.1.isSome)
      && decide (([b] : List Expr).length + ([] : List Keyword).length + (if ([] : List Keyword).isEmpty then 0 else 1) < 30)) = true := by rfl)
    (hline : (apos.endLine == pos.line) = true := by rfl) (hs : starEach [b] X.env = (false, eval b X.env) :: starEach [] X.env := by rfl) (hplain : (backTo pos (starEach [] X.env)).any (·.1) = false := by rfl) :
    PE X (.Call (.Attribute a name apos) [b] [] pos) (tTupM X.K r to te) := ⟨fun pins s σ H Q I h => by
  refine wpAny_Call_method_late hbase hfew hline rfl (thn (ho.run pins s σ H _ I h) fun v s1 ⟨x, H1, I1, r1, ⟨c, xs, ex, hc⟩, q1⟩ => ?_)
  subst ex
  obtain rfl : v = Value.ref c := r1
  have hob : ∃ ob : Obj, s1.heap.get? c = some ob ∧ Bare1 ob := by
    rcases hc with ⟨o, hc, hb⟩ | ⟨o, _, _, hc, hb, _⟩
    · exact ⟨o, (show ObjOk X.prog X.w H1 s1.heap c (.frz o (.tup xs)) from I1.hok c _ hc).1, hb⟩
    · exact ⟨o, I1.kIn c o hc, hb⟩
  obtain ⟨ob, h1, h2⟩ := hob
  refine ⟨"tuple", id, PySem.F.plainAttrs_tuple, slot, hty, ⟨ob, h1, h2.1⟩, fun d e => ?_, ?_⟩
  · cases e
    exact ⟨ob, h1, h2.2⟩
  · have hA := (pa_cons hb pa_nil hs).run pos pins s1 σ H1 (fun vs H2 => r (.ref c) vs H2 Q) I1 q1
    rw [hs] at hA ⊢
    refine Calls.callWith_builtin (by show (false || (backTo pos (starEach [] X.env)).any (·.1)) = false; rw [hplain] <;> rfl) (Calls.evalArgs_plain ?_)
    exact thn hA fun us s2 ⟨vs, H2, I2, r2, q2⟩ => hm pins s2 σ H2 (.ref c) vs (.ref c) us Q I2 rfl r2 q2⟩
theorem x_idx {m mb : Mt} (ha : PE X a (tT X.K X.mg W m)) (hb : PE X b (tT X.K X.mg W mb))
    (hbase : attributeBase a "index" X.env (eval a X.env) = eval a X.env := by rfl)
    (hfew : ((backTo pos (starEach [b] X.env)).all (fun x => !x.1) && (backToKw pos (keywordEach [] X.env)).all (fun x => x.1.isSome)
      && decide (([b] : List Expr).length + ([] : List Keyword).length + (if ([] : List Keyword).isEmpty then 0 else 1) < 30)) = true := by rfl)
    (hline : (apos.endLine == pos.line) = true := by rfl) (hs : starEach [b] X.env = (false, eval b X.env) :: starEach [] X.env := by rfl) (hplain : (backTo pos (starEach [] X.env)).any (·.1) = false := by rfl) :
    PE X (.Call (.Attribute a "index" apos) [b] [] pos) (tV X.K X.mg W (mIdx m mb)) := PE.imp (pe_tupM PySem.F.slot_tuple_index PySem.F.type_tuple_index mt_idx ha hb hbase hfew hline hs hplain) fun σ H Q q => by
  obtain ⟨F, B, e, s, p⟩ := q
  refine ⟨F, B, e, s, (Post.unbind p).mono fun B1 H1 e1 t s1 g1 p1 v d => ?_⟩
  cases t with
  | tuple ts =>
    cases d with
    | tup hs ha =>
      refine ⟨⟨_, _, rfl, ex_x s1.bh hs⟩, F, B1, e1, s1, (Post.unbind p1).mono fun B2 H2 e2 u s2 g2 p2 w dw => ?_⟩
      refine give_ok s2 p2 fun z hz k => ?_
      unfold fIdx at hz
      split at hz
      · rename_i hf
        rw [Bool.and_eq_true] at hf
        cases hi : idxT u 0 ts with
        | none => rw [hi] at hz; cases hz
        | some j =>
          rw [hi] at hz
          cases hz
          obtain ⟨i, y, e1', h2, h3, h4⟩ := idxT_ok hi
          rw [Nat.zero_add] at e1'
          subst e1'
          have ha2 := dqs_ex g2.ex _ _ ha
          obtain ⟨vz, hvz, dz⟩ := ha2.get h2
          have fl : ∀ {m : Nat} {y : T}, ts[m]? = some y → flatT y = true := fun {m y} hy => List.all_eq_true.mp hf.2 y (List.mem_of_getElem? hy)
          refine ⟨_, _, w, vz, j, rfl, rfl, ex_t s2.bh (ex_x g2.ex hs).t, flat_ok dw hf.1, flats_ok ha2 hf.2, hvz, by rw [eq_ok dz dw (fl h2) hf.1]; exact h3, fun m x hm hx => ?_, k _ B2 H2 (.val s2.bh (.int _))⟩
          obtain ⟨dx, hdx, dd⟩ := ha2.getV hx
          rw [eq_ok dd dw (fl hdx) hf.1]
          exact h4 m dx hm hdx
      · cases hz
  | _ => exact p1.elim
end
end TL
end
section
set_option Elab.async false
set_option linter.all false
set_option autoImplicit false
set_option maxRecDepth 100000
namespace TL
open PySem PySem.Spec PyProof.Rows L2
theorem _root_.L2.Room.u64 {k : Nat} {A : Around} (r : Room k A) : A.units + 64 < cLine := r.units
theorem fn_bad {P : Program} {w : World} {K : PySem.W.Frag} {mg : Str → Option Value} {base : Heap} {CX : CXT} {k : Nat} {f : Addr} {fd : FuncData} {ps : List Str} : FnOk P w K mg base CX k f fd ps (spD K mg fun _ => .bad) :=
  ⟨fun vs H Q E h => let ⟨_, _, _, _, _, p⟩ := h; p.elim, fun A outer s H args us vs Q E _ _ _ _ h => let ⟨_, _, _, _, _, p⟩ := h; p.elim⟩

/-! ### a def called by keywords alone -/
theorem PK.imp {X : Cx} {ks : List Keyword} {t t' : TA} (h : PK X ks t) (f : ∀ σ H Q, t' σ H Q → t σ H Q) : PK X ks t' := ⟨fun pos pins s σ H Q I q => h.run pos pins s σ H Q I (f σ H Q q)⟩
def pick {α : Type} (z : α) (pm : List Nat) (xs : List α) : List α := pm.map fun i => xs.getD i z
structure KB (fd : FuncData) (ps ks : List Str) (pm : List Nat) : Prop where
  to : ∀ (s : Shared) (ws : List Value), ws.length = ks.length → BindsTo s fd ⟨[], ks.zip ws⟩ (ps.zip (pick .none pm ws))
def mCallK (D : DF) (pm : List Nat) (ms : Ml) : Mv := fun e => (ms e).bind fun ts e1 => match D ((pick .none pm ts).map .val) with
  | .ok r _ => .ok r e1
  | .exc x _ => .exc x e1
  | .bad => .bad
def mCallKW (D : DF) (pm : List Nat) (n : Nat) (ms : Ml) : Mv := fun e => (ms e).bind fun ts e1 => if ts.length = n then mCallK D pm (fun e => .ok ts e) e1 else .bad
theorem dq_pick {K : PySem.W.Frag} {B : Hp} {vs : List V} {ts : List T} (d : DqAll K B vs ts) : ∀ pm : List Nat, DqAll K B (pick .non pm vs) (pick .none pm ts)
  | [] => .nil
  | i :: pm => .cons (by
      show Dq K B (vs.getD i .non) (ts.getD i .none)
      rw [List.getD_eq_getElem?_getD, List.getD_eq_getElem?_getD]
      cases h : ts[i]? with
      | none =>
        have hv : vs[i]? = none := by
          rw [List.getElem?_eq_none_iff] at h ⊢
          rw [d.len]
          exact h
        rw [hv]
        exact .non
      | some t =>
        obtain ⟨v, h1, h2⟩ := d.get h
        rw [h1]
        exact h2) (dq_pick d pm)
theorem vals_pick {vs : List V} {us : List Value} (r : Vals vs us) : ∀ pm : List Nat, Vals (pick .non pm vs) (pick .none pm us)
  | [] => .nil
  | i :: pm => .cons (by
      show RelV (vs.getD i .non) (us.getD i .none)
      rw [List.getD_eq_getElem?_getD, List.getD_eq_getElem?_getD]
      cases h : vs[i]? with
      | none =>
        rw [r.none_of h]
        exact rfl
      | some v =>
        obtain ⟨u, h1, h2⟩ := r.get h
        rw [h1]
        exact h2) (vals_pick r pm)
section
variable {X : Cx} {W : WX} {k : Nat} {f : Addr} {fd : FuncData} {ps ks : List Str} {D : DF} {x : Str} {p pos kpos : Pos} {a : Expr} {kws : List Keyword} {nm : Option Str} {pm : List Nat}
theorem k_nil : PK X [] (tL X.K X.mg W mNil) := PK.imp pk_nil fun σ H Q q => by
  obtain ⟨F, B, e, s, p⟩ := q
  exact p B H s .refl [] .nil
theorem k_cons {m : Mt} {ms : Ml} (ha : PE X a (tT X.K X.mg W m)) (hr : PK X kws (tL X.K X.mg W ms)) : PK X (⟨nm, a, kpos⟩ :: kws) (tL X.K X.mg W (mCons m ms)) := PK.imp (pk_cons ha hr) fun σ H Q q => by
  obtain ⟨F, B, e, s, p⟩ := q
  refine ⟨F, B, e, s, (Post.unbind p).mono fun B1 H1 e1 t s1 g1 p1 v d => ?_⟩
  refine ⟨F, B1, e1, s1, (Post.unbind p1).mono fun B2 H2 e2 ts s2 g2 p2 vs ds => ?_⟩
  exact p2 B2 H2 s2 .refl (v :: vs) (.cons (dq_ex g2.ex _ _ d) ds)
theorem x_callK {ms : Ml} {n : Nat} (F : FnOk X.prog X.w X.K X.mg X.base (L2N.CX X.prog X.w) k f fd ps (spD X.K X.mg D)) (hr : Room k X.A) (tk : L2N.Takes X W) (hg : Gl X x) (hm : X.mg x = some (.ref f)) (hk : PySem.W.keepIn X.K (.ref f) = true) (hb : KB fd ps ks pm) (hkw : PK X kws (tL X.K X.mg W ms))
    (hn : n = ks.length := by rfl) (hlen : kws.length = ks.length := by rfl) (hall : (backToKw pos (keywordEach kws X.env)).all (·.1.isSome) = true := by rfl) (hks : (backToKw pos (keywordEach kws X.env)).filterMap (·.1) = ks := by rfl) (hdb : (x == ("__debug__" : Str)) = false := by decide)
    (hpl : ((backTo pos (starEach [] X.env)).any (·.1) || (backToKw pos (keywordEach kws X.env)).any (·.1.isNone)) = false := by rfl) :
    PE X (.Call (.Name x p) [] kws pos) (tV X.K X.mg W (mCallKW D pm n ms)) := by
  subst hn
  refine ⟨fun pins s σ H Q I q => ?_⟩
  obtain ⟨F0, B, e, st, p⟩ := q
  refine wpAny_Call_Name_kw (ld_glob I hg hm ?_ hdb)
  refine PySem.W.callWith_KW0 (h₀ := X.base) I.ok.mod.kin hk hall (thn (hkw.run pos pins s σ H (fun vs H1 => vs.length = ks.length ∧ spD X.K X.mg D (pick .non pm vs) H1 Q (WE W σ)) I ⟨F0, B, e, st, (Post.unbind (show Post X.K X.mg W F0 B σ _ ((ms e).bind fun ts e1 => if ts.length = ks.length then mCallK D pm (fun e => .ok ts e) e1 else .bad) from p)).mono fun B1 H1 e1 ts s1 g1 p1 vs ds => ?_⟩) fun ws s2 ⟨zs, H2, I2, rz, l, q2⟩ => ⟨I2.kIn, ?_⟩) hpl
  · by_cases hl : ts.length = ks.length
    · rw [if_pos hl] at p1
      exact ⟨by rw [ds.len]; exact hl, call_vals s1 (dq_pick ds pm) p1⟩
    · rw [if_neg hl] at p1
      exact p1.elim
  · rw [hks]
    have lw : ws.length = ks.length := by rw [← rz.length]; exact l
    refine wpAny_call (codeAny_mono (F.run X.A X.stack s2 H2 ⟨[], ks.zip ws⟩ (pick .none pm ws) (pick .non pm zs) Q (WE W σ) hr I2.env0 (hb.to s2 ws lw) (vals_pick rz pm) q2) fun r s' hq => ?_)
    cases r with
    | error er => exact L2N.passAt tk σ pins H2 s2 er s' I2 hq
    | ok fl =>
      cases fl with
      | ret u => exact I2.after hq
      | next => exact False.elim hq
      | brk => exact False.elim hq
      | cont => exact False.elim hq
end

/-! ### an own exception with fields -/
/-- the promise of its __init__: the fields are set, in their order -/
def spIni (K : PySem.W.Frag) (C : Addr) (fns : List Str) : Sp := fun vs H Q _ => ∃ a ws, vs = .ref a :: ws ∧ ws.length = fns.length ∧ H a = some (exo a C none) ∧
  ∀ dx H2, H dx = none → dx ≠ a → (∀ b, b ≠ a → b ≠ dx → H2 b = H b) → H2 a = some (exo a C (some dx)) → H2 dx = some (exd dx (fns.zip ws).reverse) → Q .non H2
section
variable {P : Program} {w : World} {K : PySem.W.Frag} {mg : Str → Option Value} {base : Heap}
theorem ini2 {qual : Str} {st : Stmt} {fI C : Addr} {fd : FuncData} {f1 f2 : Str} {x1 x2 : Str} {q1 q2 q3 q4 q5 q6 q7 q8 : Pos} (F : Fun K "__init__" qual st fI fd) (S : FnScope ["self", x1, x2] ["self", x1, x2] (defScope st))
    (hb : defBody st = [.Assign [.Attribute (.Name "self" q1) f1 q2] (.Name x1 q3) q4, .Assign [.Attribute (.Name "self" q5) f2 q6] (.Name x2 q7) q8])
    (T : OexC K C) (n1 : PySem.W.findIn K (.ref C) f1 = some none) (n2 : PySem.W.findIn K (.ref C) f2 = some none)
    (v0 : Vis (defScope st) "self") (v1 : Vis (defScope st) x1) (v2 : Vis (defScope st) x2) (d1 : (x1 == ("__debug__" : Str)) = false := by decide) (c1 : (x1 == ("__classdict__" : Str)) = false := by decide) (d2 : (x2 == ("__debug__" : Str)) = false := by decide) (c2 : (x2 == ("__classdict__" : Str)) = false := by decide) :
    FnOk P w K mg base (L2N.CX P w) 1 fI fd ["self", x1, x2] (spIni K C [f1, f2]) := by
  refine okG F S (fun vs H Q E h => ?_) (fun cdv A outer s H vs Q E hr h => ?_)
  · obtain ⟨a, ws, rfl, hl, _⟩ := h
    simp only [List.length_cons] at hl ⊢
    rw [hl]
  · obtain ⟨a, ws, rfl, hl, ha, k⟩ := h
    match ws, hl with
    | [y1, y2], _ =>
      rw [hb]
      refine ⟨_, pss_cons (ps_ost (pe_var (i := 0) rfl v0) (pe_var (i := 1) rfl v1 d1 c1) (by rfl)) (pss_one (ps_ost (pe_var (i := 0) rfl v0) (pe_var (i := 2) rfl v2 d2 c2) (by rfl))), ?_⟩
      refine ⟨y1, rfl, .ref a, rfl, a, C, rfl, T, n1, .inl ⟨ha, fun dx hdx hne => ?_⟩⟩
      refine ⟨y2, rfl, .ref a, rfl, a, C, rfl, T, n2, .inr ⟨dx, [(f1, y1)], upd_same, ?_, by show 1 ≤ 900; decide, ?_⟩⟩
      · rw [upd_ne hne, upd_same]
      · refine k dx _ hdx hne (fun b h1 h2 => ?_) ?_ ?_
        · rw [upd_ne h2, upd_ne h1, upd_ne h2]
        · rw [upd_ne (Ne.symm hne), upd_same]
        · rw [upd_same]
          rfl
theorem ini1 {qual : Str} {st : Stmt} {fI C : Addr} {fd : FuncData} {f1 : Str} {x1 : Str} {q1 q2 q3 q4 : Pos} (F : Fun K "__init__" qual st fI fd) (S : FnScope ["self", x1] ["self", x1] (defScope st))
    (hb : defBody st = [.Assign [.Attribute (.Name "self" q1) f1 q2] (.Name x1 q3) q4])
    (T : OexC K C) (n1 : PySem.W.findIn K (.ref C) f1 = some none)
    (v0 : Vis (defScope st) "self") (v1 : Vis (defScope st) x1) (d1 : (x1 == ("__debug__" : Str)) = false := by decide) (c1 : (x1 == ("__classdict__" : Str)) = false := by decide) :
    FnOk P w K mg base (L2N.CX P w) 1 fI fd ["self", x1] (spIni K C [f1]) := by
  refine okG F S (fun vs H Q E h => ?_) (fun cdv A outer s H vs Q E hr h => ?_)
  · obtain ⟨a, ws, rfl, hl, _⟩ := h
    simp only [List.length_cons] at hl ⊢
    rw [hl]
  · obtain ⟨a, ws, rfl, hl, ha, k⟩ := h
    match ws, hl with
    | [y1], _ =>
      rw [hb]
      refine ⟨_, pss_one (ps_ost (pe_var (i := 0) rfl v0) (pe_var (i := 1) rfl v1 d1 c1) (by rfl)), ?_⟩
      refine ⟨y1, rfl, .ref a, rfl, a, C, rfl, T, n1, .inl ⟨ha, fun dx hdx hne => ?_⟩⟩
      refine k dx _ hdx hne (fun b h1 h2 => ?_) ?_ ?_
      · rw [upd_ne h1, upd_ne h2]
      · rw [upd_same]
      · rw [upd_ne hne, upd_same]
        rfl
end
/-- what the written part says of an own exception class and its __init__ -/
structure ExT (K : PySem.W.Frag) (mg : Str → Option Value) (x : Str) (C fI : Addr) (fd : FuncData) (ps : List Str) : Prop where
  g : mg x = some (.ref C)
  o : OexC K C
  iC : PySem.W.findIn K (.ref C) "__init__" = some (some (.ref fI))
  tI : PySem.W.typeIn K (.ref fI) = some (.type "function")
  b : Binds K fd ps []
  xf : XfC K C
  te : PySem.W.exmOne K (.ref C) (.ref C) = some true
def mRaise (cls : Str) (fns : List Str) (ms : Ml) : Ms := fun e => (ms e).bind fun ts e1 => if ts.length = fns.length then .exc ⟨cls, (fns.zip ts).reverse⟩ e1 else .bad
theorem zip_fst {α β : Type} : ∀ {xs : List α} {ys : List β}, ys.length = xs.length → (xs.zip ys).map (·.1) = xs
  | [], [], _ => rfl
  | x :: xs, y :: ys, h => by
    rw [List.zip_cons_cons, List.map_cons, zip_fst (by simpa using h)]
  | [], _ :: _, h => by simp at h
  | _ :: _, [], h => by simp at h
theorem zip_snd {α β : Type} : ∀ {xs : List α} {ys : List β}, ys.length = xs.length → (xs.zip ys).map (·.2) = ys
  | [], [], _ => rfl
  | x :: xs, y :: ys, h => by
    rw [List.zip_cons_cons, List.map_cons, zip_snd (by simpa using h)]
  | [], _ :: _, h => by simp at h
  | _ :: _, [], h => by simp at h
theorem passF {X : Cx} : Passes (L2N.CX X.prog X.w) X (fun _ _ _ => False) := fun _ _ _ _ _ _ _ h => by
  obtain ⟨_, _, _, _, _, _, _, _, _, _, _, _, z⟩ := h
  exact z.elim
/-- C(e, ..) as a value that is raised: its context is None -/
theorem pmk_oexN {X : Cx} {CXX : CXT} {x : Str} {e : Expr} {es : List Expr} {ta : TA} {p pos : Pos} {C fI : Addr} {k : Nat} {fd : FuncData} {ps : List Str} {sp : Sp} {ds : List Value} {dvs : List V} (T : OexC X.K C)
    (iC : PySem.W.findIn X.K (.ref C) "__init__" = some (some (.ref fI))) (tI : PySem.W.typeIn X.K (.ref fI) = some (.type "function")) (F1 : FnOk X.prog X.w X.K X.mg X.base CXX k fI fd ps sp) (hr : Room (k + 1) X.A)
    (hb : Binds X.K fd ps ds) (hd : Vals dvs ds) (hx : Passes CXX X (fun _ _ _ => False)) (hg : Gl X x) (hm : X.mg x = some (.ref C)) (ha : PA X (e :: es) ta) (hdb : (x == ("__debug__" : Str)) = false := by decide)
    (he : starEach (e :: es) X.env = (false, eval e X.env) :: starEach es X.env := by rfl) (hpl : (backTo pos (starEach es X.env)).any (·.1) = false := by rfl) : L2N.PMk X (.Call (.Name x p) (e :: es) [] pos) (tMkO C sp dvs ta) := by
  rintro pins s σ H Q I h
  obtain ⟨_, _, _, _, bm, _, _, _, _, _, _, _, _, _, _, hC, hbm⟩ := T.cls
  refine wpAny_Call_Name_kw (ld_glob I hg hm (PySem.W.callWith_K (h₀ := X.base) I.ok.mod.kin T.kC (thn (ha.run pos pins s σ H _ I h) ?_) he hpl) hdb)
  rintro us ⟨hp, g, dr, tk, os⟩ ⟨vs, H1, I1, r1, hz, q1⟩
  refine ⟨I1.kIn, ?_⟩
  change wpAny _ _ (call (.ref C) us) _ _ _
  generalize hA : hp.objs.size + 1 = a at *
  have ge : hp.objs.size ≤ a := by omega
  have fresh : H1 a = none := I1.hok.fresh ge
  have hq := q1 a fresh
  generalize hhp : (hp.push (PySem.W.kdv_tup us)).push (PySem.HandSPX.excO C hp.objs.size) = hp' at *
  have more : ∀ b o, hp.get? b = some o → hp'.get? b = some o := fun b o z => by
    rw [← hhp]
    exact Heap.get?_push_of_some _ (Heap.get?_push_of_some _ z)
  have here : hp'.get? a = some (PySem.HandSPX.excO C hp.objs.size) := by
    rw [← hhp, ← hA]
    heap_get
  have I2 : Inv X pins σ (upd H1 a (exo a C none)) ⟨hp', g, dr, tk, os⟩ := I1.laid (t' := tk) (a := a) more ge (exo_ok here)
  have r2 : Vals (V.ref a :: (vs ++ dvs)) (Value.ref a :: (us ++ ds)) := .cons rfl (r1.append hd)
  have hl : (Value.ref a :: us ++ ds).length = ps.length := (r2.length.symm.trans (F1.len _ _ _ _ hq) :)
  have few : us.length ≤ sizeLine := by
    rw [← Paired.length r1, sizeLine_eq]
    omega
  have run := F1.run _ X.stack _ _ ⟨Value.ref a :: us, []⟩ (Value.ref a :: (us ++ ds)) _ _ (fun _ _ _ => False) (hr.make C us []) (I2.env0.make C us []) (hb _ (Value.ref a :: us) I2.kIn hl) r2 hq
  subst hA
  subst hhp
  refine wpAny_call (PySem.HandSPX.call_own F.excBase_ValueError (fun Y => PySem.HandSPX.refsVE_contains Y bm hbm) (I1.kIn _ _ hC) (PySem.W.looks_findIn I1.kIn iC) (fun self => PySem.W.bind_fn I1.kIn self tI) few (codeAny_mono run ?_))
  rintro (⟨er⟩ | ⟨fl⟩) ⟨h2, g2, d2, t2, os'⟩ hq'
  · exact hx pins σ _ _ _ _ I2 hq'
  · cases fl with
    | ret u =>
      obtain ⟨v, H2, os2, bare2, un2, hok2, rv, rfl, d, fs, ea, ed, hd1, q2⟩ := hq'
      obtain ⟨t0, G, J, kG, gg, hoe, na⟩ := mk_end0 (d2 := d2) (t2 := t2) I1 ge more un2 hok2 os2 bare2 ea ed hd1
      exact ⟨rv, _, _, _, ⟨G, g2, d2, t2, os'⟩, _, .ref C, some d, rfl, J, kG, gg, hoe, ⟨rfl, rfl, fun _ z => by cases z; rfl⟩, rfl, rfl, na, rfl, bare2, raises_own T.exC T.tyC, q2⟩
    | next => exact False.elim hq'
    | brk => exact False.elim hq'
    | cont => exact False.elim hq'
section
variable {X : Cx} {W : WX} {keep : List Nat} {x : Str} {C fI : Addr} {fd : FuncData} {ps fns : List Str} {a : Expr} {es : List Expr} {ms : Ml} {p pos pos2 : Pos}
theorem s_raise (hc : X.calm = true) (E : ExT X.K X.mg x C fI fd ps) (F : FnOk X.prog X.w X.K X.mg X.base (L2N.CX X.prog X.w) 1 fI fd ps (spIni X.K C fns)) (hr : Room 2 X.A) (tk : L2N.Takes X W) (hg : Gl X x) (hz : fns.length ≤ 1000) (ha : PA X (a :: es) (tL X.K X.mg W ms))
    (hdb : (x == ("__debug__" : Str)) = false := by decide) (he : starEach (a :: es) X.env = (false, eval a X.env) :: starEach es X.env := by rfl) (hpl : (backTo pos (starEach es X.env)).any (·.1) = false := by rfl) :
    PS X (.Raise (some (.Call (.Name x p) (a :: es) [] pos)) none pos2) (tS X.K X.mg W keep (mRaise x fns ms)) := PS.imp (L2N.ps_raise hc tk (pmk_oexN (dvs := []) E.o E.iC E.tI F hr E.b .nil passF hg E.g ha hdb he hpl)) fun D σ H q => by
  obtain ⟨F, B, e, s, p⟩ := q
  refine ⟨F, B, e, s, (PostS.unbind p).mono fun B1 H1 e1 ts s1 g1 p1 vs d => ?_⟩
  by_cases hl : ts.length = fns.length
  · rw [if_pos hl] at p1
    have lv : vs.length = fns.length := by rw [d.len]; exact hl
    refine ⟨by omega, fun c hc => ⟨c, vs, by rw [List.append_nil], lv, upd_same, fun dx H2 hdx hne hb h2a h2d => ⟨rfl, dx, _, h2a, h2d, ?_, ?_⟩⟩⟩
    · rw [upd_ne hne] at hdx
      exact hdx
    · rw [upd_ne hne] at hdx
      have gg : ∀ b o, H1 b = some o → upd (del H2 c) dx (.xd (fns.zip vs).reverse) b = some o := fun b o h => by
        have n1 : b ≠ dx := ne_of_none h hdx
        have n2 : b ≠ c := ne_of_none h hc
        rw [upd_ne n1, del_ne n2, hb b n2 n1, upd_ne n2]
        exact h
      have nw : News B1 H1 (upd B1 dx (.xd (fns.zip vs).reverse)) (upd (del H2 c) dx (.xd (fns.zip vs).reverse)) :=
        ⟨Ex.new (s1.bh.back hdx), fun b o h => by
          by_cases hbd : b = dx
          · subst hbd
            rw [upd_same] at h ⊢
            exact h
          · rw [upd_ne hbd] at h
            exact gg b o (s1.bh b o h), gg, fun b h1 h2 => by
          by_cases hbd : b = dx
          · rw [hbd]; exact hdx
          · rw [upd_ne hbd] at h2
            exact absurd h1 h2⟩
      refine p1 σ _ _ _ _ (s1.news nw) (nw.grow s1.fh) .refl ⟨C, dx, _, E.g, rfl, rfl, upd_same, ?_, ?_⟩
      · rw [List.map_reverse, List.map_reverse, zip_fst lv, zip_fst hl]
      · rw [List.map_reverse, List.map_reverse, zip_snd lv, zip_snd hl]
        exact (dqs_ex nw.ex _ _ d).rev
  · rw [if_neg hl] at p1
    exact p1.elim
end
end TL
end
section
set_option Elab.async false
set_option linter.all false
set_option autoImplicit false
set_option maxRecDepth 100000
namespace TL
open PySem PySem.Spec PyProof.Rows L2
/-! ### try with one clause 'except C as n' -/
def exnT (a dx : Nat) (fs : List (Str × T)) : T := .dict ((.str "exn", .int a) :: (.int dx, .none) :: fs.map fun p => (.str p.1, p.2))
def fgt (i : Nat) : Res Out → Res Out
  | .ok o e => .ok o (e.set i none)
  | _ => .bad
def mTry (n i : Nat) (cls : Str) (m : Ms) (su : Nat → Nat → Ms) : Ms := fun e => match m e with
  | .exc x e1 => if x.cls = cls ∧ e1.length = n ∧ i < n then fgt i (su 0 0 (e1.set i (some (.val (exnT 0 0 x.fs))))) else .bad
  | r => r
abbrev WN : WX := fun _ _ _ _ => False
theorem Sta.gone {K : PySem.W.Frag} {F B H : Hp} {σ : L2.St} {e : En} (s : Sta K F B H σ e) (i : Nat) : Sta K F B H (σ.set i none) (e.set i none) :=
  have get : ∀ (j : Nat) (r : RV), (e.set i none)[j]? = some (some r) → e[j]? = some (some r) ∧ i ≠ j := fun j r h => by
    by_cases hj : i = j
    · subst hj
      by_cases hl : i < e.length
      · rw [List.getElem?_set_self hl] at h
        cases h
      · rw [List.getElem?_eq_none (by simpa using hl)] at h
        cases h
    · rw [List.getElem?_set_ne hj] at h
      exact ⟨h, hj⟩
  ⟨s.fh, s.bh, fun j r h => by
    obtain ⟨h1, h2⟩ := get j r h
    rw [List.getElem?_set_ne h2]
    exact s.ent j r h1, by rw [List.length_set, List.length_set]; exact s.ln, fun j k v ts us h1 h2 h3 h4 => by
    obtain ⟨g1, n1⟩ := get j _ h1
    obtain ⟨g2, n2⟩ := get k _ h2
    rw [List.getElem?_set_ne n1] at h3
    rw [List.getElem?_set_ne n2] at h4
    exact s.dj j k v ts us g1 g2 h3 h4⟩
theorem RvOk.gone {K : PySem.W.Frag} {F B H : Hp} {σ : L2.St} {e : En} {v : V} {r : RV} (h : RvOk K F B H σ e v r) (i : Nat) : RvOk K F B H (σ.set i none) (e.set i none) v r :=
  ⟨h.1, fun ts hr j us h2 => by
    by_cases hj : i = j
    · subst hj
      by_cases hl : i < e.length
      · rw [List.getElem?_set_self hl] at h2
        cases h2
      · rw [List.getElem?_eq_none (by simpa using hl)] at h2
        cases h2
    · rw [List.getElem?_set_ne hj] at h2 ⊢
      exact h.2 ts hr j us h2⟩
theorem Kept.over {keep : List Nat} {σ σ1 σ' : L2.St} {i : Nat} {x y : Option V} (hk : i ∉ keep) (a : Kept keep σ σ1) (b : Kept keep (σ1.set i x) σ') : Kept keep σ (σ'.set i y) := fun j hj => by
  have ne : i ≠ j := fun z => hk (z ▸ hj)
  rw [List.getElem?_set_ne ne, b j hj, List.getElem?_set_ne ne]
  exact a j hj
theorem fgt_ok {K : PySem.W.Frag} {mg : Str → Option Value} {W : WX} {keep : List Nat} {F B B1 : Hp} {σ σ1 : L2.St} {D : Ends} {i : Nat} {x : Option V} {r : Res Out} (hk : i ∉ keep) (g0 : Grow F B B1) (k0 : Kept keep σ σ1) (p : PostS K mg W keep F B σ D (fgt i r)) :
    PostS K mg WN keep F B1 (σ1.set i x) { nx := fun σ' H' => D.nx (σ'.set i none) H', rt := D.rt, bk := fun σ' H' => D.bk (σ'.set i none) H', ct := fun σ' H' => D.ct (σ'.set i none) H' } r := by
  cases r with
  | ok o e =>
    cases o with
    | nx => exact fun σ' B' H' s g k => p _ B' H' (s.gone i) (g0.trans g) (k0.over hk k)
    | bk => exact fun σ' B' H' s g k => p _ B' H' (s.gone i) (g0.trans g) (k0.over hk k)
    | ct => exact fun σ' B' H' s g k => p _ B' H' (s.gone i) (g0.trans g) (k0.over hk k)
    | rt u => exact fun σ' v B' H' s g k r => p _ v B' H' (s.gone i) (g0.trans g) (k0.over hk k) (r.gone i)
  | exc y e => exact p.elim
  | bad => exact p.elim
section
variable {X : Cx} {W : WX} {keep : List Nat} {n i : Nat} {nm x : Str} {C fI : Addr} {fd : FuncData} {ps : List Str} {body suite : List Stmt} {b₀ : Stmt} {m : Ms} {su : Nat → Nat → Ms} {np pos pos' : Pos}
theorem s_try (hN : X.N.Nodup) (hi : X.N[i]? = some nm) (hln : X.env.kindOf nm = some .local) (E : ExT X.K X.mg x C fI fd ps) (hg : Gl X x) (tk : L2N.Takes X W)
    (hb : ∀ (W : WX) (pn : List (Addr × Obj)) (xe : Value → Shared → Prop), L2N.Takes (X.tr pn xe) W → PSs (X.tr pn xe) body (tS X.K X.mg W keep m))
    (hsu : ∀ (a dx : Nat) (oe : Obj) (pn : List (Addr × Obj)), L2N.Zn (.ref C) (some dx) oe → (∃ vs, oe.data = .fields vs) → PSs (X.suite a ((a, oe) :: pn)) (b₀ :: suite) (tS X.K X.mg WN keep (su a dx)))
    (hI : ∀ (a dx : Nat) (fs : List (Str × T)) (e : En), e.length = n → fgt i (su a dx (e.set i (some (.val (exnT a dx fs))))) = fgt i (su 0 0 (e.set i (some (.val (exnT 0 0 fs))))))
    (hk : i ∉ keep := by decide) (hdb : (x == ("__debug__" : Str)) = false := by decide) (hs : X.stack = X.env :: X.outer := by rfl) (hf : X.env.frame = some X.env.locals := by rfl) :
    PS X (.Try body [.ExceptHandler (some (.Name x np)) (some nm) (b₀ :: suite) pos'] [] [] pos) (tS X.K X.mg W keep (mTry n i x m su)) := by
  refine PS.imp (L2N.ps_try_as hs hf hN hi hln ⟨hg, hdb, .inl E.g⟩ tk (tb := fun W' => tS X.K X.mg W' keep m) (ts := fun a cls d D σ H => ∃ dx, cls = .ref C ∧ d = some dx ∧ tS X.K X.mg WN keep (su a dx) D σ H) (fun W pn xe tk _ => hb W pn xe tk)
    (fun a oe cls d pn hz hf' => ⟨fun pins s σ H D I h => ?_⟩)) fun D σ H q => ?_
  · obtain ⟨dx, rfl, rfl, q⟩ := h
    exact (hsu a dx oe pn hz hf').run pins s σ H D I q
  · obtain ⟨F, B, e, s, p⟩ := q
    refine ⟨F, B, e, s, ?_⟩
    unfold mTry at p
    cases hm : m e with
    | ok o e1 =>
      rw [hm] at p
      cases o <;> exact p
    | bad =>
      rw [hm] at p
      exact p.elim
    | exc y e1 =>
      rw [hm] at p
      dsimp only at p
      intro σ' c d B' H' s' g k xo
      by_cases hc : y.cls = x ∧ e1.length = n ∧ i < n
      · rw [if_pos hc] at p
        obtain ⟨C', dx, gs, h1, rfl, rfl, hB, hn, hD⟩ := xo
        obtain ⟨hx, hl, hin⟩ := hc
        have hC : C' = C := by
          rw [hx, E.g] at h1
          cases h1
          rfl
        subst hC
        refine ⟨true, E.te, fun _ a ha => ⟨dx, rfl, rfl, ?_⟩, fun z => nomatch z⟩
        rw [← hI a dx y.fs e1 hl] at p
        have rv : RvOk X.K F B' H' σ' e1 (.ref a) (.val (exnT a dx y.fs)) := ⟨.exn hB hn hD, fun _ z => nomatch z⟩
        exact ⟨F, B', _, s'.put rv, fgt_ok hk g k p⟩
      · rw [if_neg hc] at p
        exact p.elim
end
/-! ### in the suite: a field of the exception, isinstance of it -/
def look (f : Str) : List (T × T) → Option T
  | [] => none
  | (.str g, t) :: r => if f = g then some t else look f r
  | _ :: _ => none
def mFldE (a dx : Nat) (f : Str) (m : Mt) : Mt := fun e => (m e).bind fun t e1 => match t with
  | .dict ((_, .int a') :: (.int d', _) :: fs) => if a' = (a : Int) ∧ d' = (dx : Int) then match look f fs with
    | some t => .ok t e1
    | none => .bad else .bad
  | _ => .bad
def mIsE (a dx : Nat) (b : Bool) (m : Mt) : Mt := fun e => (m e).bind fun t e1 => match t with
  | .dict ((_, .int a') :: (.int d', _) :: _) => if a' = (a : Int) ∧ d' = (dx : Int) then .ok (.bool b) e1 else .bad
  | _ => .bad
theorem look_ok {K : PySem.W.Frag} {B : Hp} {f : Str} {t : T} : ∀ {gs : List (Str × V)} {fs : List (Str × T)}, gs.map (·.1) = fs.map (·.1) → DqAll K B (gs.map (·.2)) (fs.map (·.2)) → look f (fs.map fun p => (.str p.1, p.2)) = some t → ∃ v, gs.lookup f = some v ∧ Dq K B v t
  | [], [], _, _, h => by cases h
  | [], _ :: _, h, _, _ => by simp at h
  | _ :: _, [], h, _, _ => by simp at h
  | (g, v) :: gs, (f1, u) :: fs, h, d, hl => by
    simp only [List.map_cons, List.cons.injEq] at h
    obtain ⟨rfl, h2⟩ := h
    have hl' : (if f = g then some u else look f (fs.map fun p => (.str p.1, p.2))) = some t := hl
    cases d with
    | cons d1 d2 =>
      by_cases hf : f = g
      · rw [if_pos hf] at hl'
        cases hl'
        refine ⟨v, ?_, d1⟩
        rw [hf, List.lookup_cons_self]
      · rw [if_neg hf] at hl'
        obtain ⟨w, e1, e2⟩ := look_ok h2 d2 hl'
        refine ⟨w, ?_, e2⟩
        rw [List.lookup_cons, show (f == g) = false from beq_false_of_ne hf]
        exact e1
theorem exn_inv {K : PySem.W.Frag} {B : Hp} {v : V} {z y w : T} {a d : Int} {fs : List (T × T)} (h : Dq K B v (.dict ((z, .int a) :: (.int d, y) :: fs))) : ∃ (a' dx : Nat) (gs : List (Str × V)) (hs : List (Str × T)), v = .ref a' ∧ a = (a' : Int) ∧ d = (dx : Int) ∧ fs = hs.map (fun p => (.str p.1, p.2)) ∧ B dx = some (.xd gs) ∧ gs.map (·.1) = hs.map (·.1) ∧ DqAll K B (gs.map (·.2)) (hs.map (·.2)) := by
  generalize hk : (PyData.dict ((z, .int a) :: (.int d, y) :: fs)) = k at h
  cases h with
  | exn h1 h2 h3 =>
    cases hk
    exact ⟨_, _, _, _, rfl, rfl, rfl, rfl, h1, h2, h3⟩
  | scr h1 =>
    rename_i ns
    match ns with
    | [] => cases hk
    | n :: ns => cases hk
  | prs => cases hk
  | _ => cases hk
/-- what an own exception class says of isinstance -/
structure XiC (K : PySem.W.Frag) (D : Addr) : Prop where
  c : L2.ExcC K D
  x : L2.XfC K D
def rIsD (K : PySem.W.Frag) (D a dx : Addr) : List V → Hp → VK → Prop := fun xs H Q => ∃ (c : V) (cv : Value) (b : Bool) (gs : List (Str × V)), xs = [.ref a, c] ∧ (∀ u, RelV c u → u = cv) ∧ PySem.W.kitOne K (.ref D) cv = some b ∧ H dx = some (.xd gs) ∧ Q (.bl b) H
theorem call_isD {X : Cx} {a D dx : Addr} {oe : Obj} {pn : List (Addr × Obj)} (C : L2.ExcC X.K D) (hz : Zc (.ref D) (some dx) oe) (hf : ∃ vs, oe.data = .fields vs) : CallR (X.suite a ((a, oe) :: pn)) (.builtin "isinstance") (rIsD X.K D a dx) := by
  intro pins s σ H xs us Q I r h
  obtain ⟨c, cv, b, gs, rfl, hcv, e, hH, q⟩ := h
  match us, r with
  | [_, u], .cons rx (.cons rt .nil) =>
    cases rx
    have ec := hcv _ rt
    subst ec
    obtain ⟨mA, hns, -⟩ := (show ObjOk X.prog X.w H s.heap dx (.xd gs) from I.hok dx _ hH)
    obtain ⟨od, ho, -⟩ := lookIn_ns hns
    have hget := (I.pin (a, oe) (List.mem_append_left _ List.mem_cons_self)).1
    obtain ⟨vs, hv⟩ := hf
    have J : PySem.W.InstAt s.heap a oe D (some od) := ⟨hget, hz.1, by unfold PySem.W.notCls; rw [hv] <;> rfl, by rw [hz.2]; exact ho⟩
    have hcl : (PySem.W.clsIn X.K D).isSome = true := by
      obtain ⟨cd, hc, _⟩ := PySem.W.any_some C.hd
      rw [hc]; rfl
    exact PySem.W.kia_one (PySem.W.kitx_exc hcl C.hg C.hk C.hs C.ha C.hn C.ht C.hm) I.kIn J e (fun z => nomatch z) fun tk => ⟨.bl b, H, I.kept (t' := tk) fun _ _ z => z, rfl, q⟩
section
variable {X : Cx} {a D dx : Addr} {oe : Obj} {pn : List (Addr × Obj)} {W : WX} {e : Expr} {m : Mt} {f x : Str} {pos p q : Pos} {b : Bool}
theorem x_fldE (T : L2.XfC X.K D) (hno : PySem.W.findIn X.K (.ref D) f = some none) (hz : Zc (.ref D) (some dx) oe) (hf : ∃ vs, oe.data = .fields vs) (he : PE (X.suite a ((a, oe) :: pn)) e (tT X.K X.mg W m))
    (hb : attributeBase e f X.env (eval e X.env) = eval e X.env := by rfl) : PE (X.suite a ((a, oe) :: pn)) (.Attribute e f pos) (tT X.K X.mg W (mFldE a dx f m)) := PE.imp (pe_xf T hno hz hf he hb) fun σ H Q q => by
  obtain ⟨F, B, en, s, p⟩ := q
  refine ⟨F, B, en, s, (Post.unbind p).mono fun B1 H1 e1 t s1 g1 p1 v d => ?_⟩
  split at p1
  · rename_i a' d' y fs
    obtain ⟨a2, dx2, gs, hs, rfl, rfl, rfl, rfl, hB, h1, h2⟩ := exn_inv (w := .none) d
    split at p1
    · rename_i hc
      obtain ⟨c1, c2⟩ := hc
      cases Int.ofNat.inj c1
      cases Int.ofNat.inj c2
      split at p1
      · rename_i t hl
        obtain ⟨v, l1, l2⟩ := look_ok h1 h2 hl
        exact ⟨rfl, rfl, dx, gs, v, rfl, s1.bh _ _ hB, l1, p1 B1 H1 s1 .refl _ l2⟩
      · exact p1.elim
    · exact p1.elim
  · exact p1.elim
theorem isE_ok {c : V} {cv : Value} {p1 : Pos} {B : Hp} {y : Str} (C : L2.ExcC X.K D) (hz : Zc (.ref D) (some dx) oe) (hf : ∃ vs, oe.data = .fields vs) (hg : Gl X "isinstance") (hm : X.mg "isinstance" = none) (hc : PE (X.suite a ((a, oe) :: pn)) (.Name y q) (tC c)) (hcv : ∀ u, RelV c u → u = cv)
    (hk : PySem.W.kitOne X.K (.ref D) cv = some b) (he : PE (X.suite a ((a, oe) :: pn)) e (tT X.K X.mg W m)) (h1 : starEach [e, .Name y q] X.env = (false, eval e X.env) :: starEach [.Name y q] X.env := by rfl) (h2 : (backTo pos (starEach [.Name y q] X.env)).any (·.1) = false := by rfl) :
    PE (X.suite a ((a, oe) :: pn)) (.Call (.Name "isinstance" p) [e, .Name y q] [] pos) (tT X.K X.mg W (mIsE a dx b m)) :=
  PE.imp (pe_callB (X := X.suite a ((a, oe) :: pn)) (call_isD C hz hf) hg hm (by decide +kernel) (pa_cons he (pa_cons hc pa_nil (by rfl)) h1) (by decide) (by decide) h1 h2) fun σ H Q q => by
  obtain ⟨F, B, en, s, p⟩ := q
  refine ⟨F, B, en, s, (Post.unbind p).mono fun B1 H1 e1 t s1 g1 p1 v d => ?_⟩
  split at p1
  · rename_i a' d' y fs
    obtain ⟨a2, dx2, gs, hs, rfl, rfl, rfl, rfl, hB, h1, h2⟩ := exn_inv (w := .none) d
    split at p1
    · rename_i hc
      obtain ⟨c1, c2⟩ := hc
      cases Int.ofNat.inj c1
      cases Int.ofNat.inj c2
      exact ⟨c, cv, b, gs, rfl, hcv, hk, s1.bh _ _ hB, p1 B1 H1 s1 .refl _ (.bl b)⟩
    · exact p1.elim
  · exact p1.elim
/-- isinstance(e, C), C a class of the module -/
theorem x_isO {C2 : Addr} (C : L2.ExcC X.K D) (hz : Zc (.ref D) (some dx) oe) (hf : ∃ vs, oe.data = .fields vs) (hg : Gl X "isinstance") (hm : X.mg "isinstance" = none) (hg2 : Gl X x) (hm2 : X.mg x = some (.ref C2)) (hk : PySem.W.kitOne X.K (.ref D) (.ref C2) = some b)
    (he : PE (X.suite a ((a, oe) :: pn)) e (tT X.K X.mg W m)) (hd : (x == ("__debug__" : Str)) = false := by decide) (h1 : starEach [e, .Name x q] X.env = (false, eval e X.env) :: starEach [.Name x q] X.env := by rfl) (h2 : (backTo pos (starEach [.Name x q] X.env)).any (·.1) = false := by rfl) :
    PE (X.suite a ((a, oe) :: pn)) (.Call (.Name "isinstance" p) [e, .Name x q] [] pos) (tT X.K X.mg W (mIsE a dx b m)) :=
  isE_ok (B := fun _ => none) (p1 := pos) C hz hf hg hm (pe_glob (X := X.suite a ((a, oe) :: pn)) (v := .ref C2) hg2 hm2 rfl hd) (fun u h => h) hk he h1 h2
/-- isinstance(e, T), T a built-in class -/
theorem x_isB {T2 : String} (C : L2.ExcC X.K D) (hz : Zc (.ref D) (some dx) oe) (hf : ∃ vs, oe.data = .fields vs) (hg : Gl X "isinstance") (hm : X.mg "isinstance" = none) (hg2 : Gl X x) (hm2 : X.mg x = none) (hv : bootBuiltins x = some (.type T2)) (hk : PySem.W.kitOne X.K (.ref D) (.type T2) = some b)
    (he : PE (X.suite a ((a, oe) :: pn)) e (tT X.K X.mg W m)) (hn : x ≠ "__name__" := by decide) (hd : (x == ("__debug__" : Str)) = false := by decide) (h1 : starEach [e, .Name x q] X.env = (false, eval e X.env) :: starEach [.Name x q] X.env := by rfl) (h2 : (backTo pos (starEach [.Name x q] X.env)).any (·.1) = false := by rfl) :
    PE (X.suite a ((a, oe) :: pn)) (.Call (.Name "isinstance" p) [e, .Name x q] [] pos) (tT X.K X.mg W (mIsE a dx b m)) :=
  isE_ok (B := fun _ => none) (p1 := pos) C hz hf hg hm (pe_bltn (X := X.suite a ((a, oe) :: pn)) (v := .ty T2) hg2 hm2 hv rfl hn hd) (fun u h => h) hk he h1 h2
end
theorem KB.of {K : PySem.W.Frag} {x qual : Str} {st : Stmt} {f : Addr} {fd : FuncData} {ps ks : List Str} {pm : List Nat} (F : Fun K x qual st f fd)
    (h : ∀ (kV doc pm' : Value) (an : Option Addr) (cdv ct : Value) (ws : List Value), ws.length = ks.length → bindArgs (PySem.W.fnOf x qual (defArgs st) (defBody st) (defScope st) .none kV doc pm' an cdv ct) ⟨[], ks.zip ws⟩ = pure (ps.zip (pick .none pm ws))) : KB fd ps ks pm := by
  obtain ⟨oc, od, kV, doc, pm', an, cdv, ct, osl, rfl, lk, hcd⟩ := F.ex
  exact ⟨fun s ws hl => .of_eq (h kV doc pm' an cdv ct ws hl)⟩
end TL
end
section
set_option Elab.async false
set_option linter.all false
set_option autoImplicit false
set_option maxRecDepth 100000
/-! Defs called where an exception is handled. -/
namespace TL
open PySem PySem.Spec PyProof.Rows L2
/-- where a def raises, nothing is said of it -/
def noX (D : DF) : DF := fun args => match D args with
  | .exc _ _ => .bad
  | r => r
theorem hotC {X : Cx} {C a : Addr} {d : Option Addr} {oe : Obj} {pn : List (Addr × Obj)} (hz : L2N.Zn (.ref C) d oe) (hf : ∃ vs, oe.data = .fields vs) : L2H.HotC (X.suite a ((a, oe) :: pn)) := by
  obtain ⟨vs, hv⟩ := hf
  exact ⟨(a, oe), ⟨rfl, vs, hv, hz.2.2 vs hv⟩, List.mem_cons_self⟩
theorem passN {X : Cx} (σ : L2.St) : PassesAt (L2N.CX X.prog X.w) X σ (WE WN σ) := fun _ _ _ _ _ _ h => by
  obtain ⟨_, _, _, _, _, _, _, _, _, _, _, _, z⟩ := h
  exact z.elim
section
variable {X : Cx} {k : Nat} {f : Addr} {fd : FuncData} {ps : List Str} {D : DF} {x : Str} {p pos : Pos} {a : Expr} {es : List Expr}
theorem x_callH {ms : Ml} (F : L2H.FnH X.prog X.w X.K X.mg X.base (L2N.CX X.prog X.w) k f fd ps (spD X.K X.mg (noX D))) (hr : L2H.RoomH k X.A) (hc : L2H.HotC X) (hg : Gl X x) (hm : X.mg x = some (.ref f)) (hk : PySem.W.keepIn X.K (.ref f) = true) (hb : Binds X.K fd ps [])
    (ha : PA X (a :: es) (tL X.K X.mg WN ms)) (hdb : (x == ("__debug__" : Str)) = false := by decide) (he : starEach (a :: es) X.env = (false, eval a X.env) :: starEach es X.env := by rfl) (hpl : (backTo pos (starEach es X.env)).any (·.1) = false := by rfl) :
    PE X (.Call (.Name x p) (a :: es) [] pos) (tV X.K X.mg WN (mCall (noX D) ms)) := PE.imp (L2H.pe_callH (E := WE WN) F hr hc hg hm hk hb passN ha hdb he hpl) fun σ H Q q => by
  obtain ⟨F, B, e, s, p⟩ := q
  exact ⟨F, B, e, s, (Post.unbind p).mono fun B1 H1 e1 ts s1 g1 p1 vs ds => call_vals s1 ds p1⟩
end
/-- a def's body where an exception is handled -/
theorem def_okH {P : Program} {w : World} {K : PySem.W.Frag} {mg : Str → Option Value} {base : Heap} {x qual : Str} {st : Stmt} {f : Addr} {fd : FuncData} {N ps : List Str} {k : Nat} {keep : List Nat} {m : Ms} (F : Fun K x qual st f fd) (S : FnScope N ps (defScope st))
    (hb : ∀ (cdv : Value) (A : Around) (outer : List Env) (s : Shared) (H : Hp) (E : XK) (pp : Addr × Obj), L2H.Hot1 A pp → L2H.RoomH k (A.deeper (envOfC qual (defScope st) s.heap.objs.size f cdv)) →
      PSs (L2H.cxH (L2N.CX P w) P w K mg base N qual (defScope st) f cdv A outer s H E pp) (defBody st) (tS K mg WN keep m)) :
    L2H.FnH P w K mg base (L2N.CX P w) (k + 1) f fd ps (spD K mg (noX (runDef N.length ps.length keep m))) := by
  have len : ∀ vs H Q E, spD K mg (noX (runDef N.length ps.length keep m)) vs H Q E → vs.length = ps.length := fun vs H Q E h => by
    obtain ⟨F, B, args, hl, s, p⟩ := h
    unfold noX runDef at p
    by_cases ha : args.length = ps.length
    · exact hl.trans ha
    · rw [if_neg ha] at p
      exact p.elim
  obtain ⟨oc, od, kV, doc, pm, an, cdv, ct, osl, e, lk, hcd⟩ := F.ex
  subst e
  refine L2H.fn_ofH lk hcd S len fun A outer s H vs Q E pp hot hr h => ⟨_, hb cdv A outer s H E pp hot hr, ?_⟩
  obtain ⟨F, B, args, hl, s, p⟩ := h
  unfold noX runDef at p
  by_cases ha : args.length = ps.length
  · rw [if_pos ha] at p
    have hlv : vs.length = ps.length := hl.trans ha
    have hNl : ps.length ≤ N.length := by
      have := congrArg List.length S.pre
      rw [List.length_take] at this
      omega
    refine ⟨F, B, args.map some ++ List.replicate (N.length - ps.length) none, ?_, ?_⟩
    · have cut : ∀ (i : Nat) (r : RV), (args.map some ++ List.replicate (N.length - ps.length) none)[i]? = some (some r) → i < args.length ∧ (args.map some)[i]? = some (some r) := fun i r h => by
        have hi : i < args.length := by
          by_cases hi : i < args.length
          · exact hi
          · rw [List.getElem?_append_right (by simpa using hi), List.getElem?_replicate] at h
            split at h <;> cases h
        rw [List.getElem?_append_left (by simpa using hi)] at h
        exact ⟨hi, h⟩
      have at0 : ∀ {i : Nat}, i < args.length → (L2.start N vs)[i]? = (vs.map some)[i]? := fun {i} hi => by
        unfold L2.start
        rw [List.getElem?_append_left (by rw [List.length_map]; omega)]
      refine ⟨s.fh, s.bh, fun i r h => ?_, ?_, fun i j v ts us h1 h2 h3 h4 => ?_⟩
      · obtain ⟨hi, h⟩ := cut i r h
        obtain ⟨v, h1, h2⟩ := s.ent i r h
        exact ⟨v, by rw [at0 hi]; exact h1, h2⟩
      · unfold L2.start
        rw [List.length_append, List.length_append, List.length_map, List.length_map, List.length_replicate, List.length_replicate]
        omega
      · obtain ⟨a1, a2⟩ := cut i _ h1
        obtain ⟨b1, b2⟩ := cut j _ h2
        rw [at0 a1] at h3
        rw [at0 b1] at h4
        exact s.dj i j v ts us a2 b2 h3 h4
    · cases hm : m (args.map some ++ List.replicate (N.length - ps.length) none) with
      | ok o e' =>
        rw [hm] at p
        cases o with
        | nx =>
          intro σ' B' H' s' g k'
          obtain ⟨s2, same⟩ := s'.out hlv k'
          exact p B' H' s2 g .non ⟨.non, fun _ z => nomatch z⟩
        | rt r =>
          intro σ' v B' H' s' g k' o'
          obtain ⟨s2, same⟩ := s'.out hlv k'
          refine p B' H' s2 g v ⟨o'.1, fun ts er i us h1 h2 => ?_⟩
          obtain ⟨q1, q2, q3⟩ := keepE_get h1
          rw [same i q1 q2] at h2
          exact o'.2 ts er i us q3 h2
        | bk => exact p.elim
        | ct => exact p.elim
      | exc x e' =>
        rw [hm] at p
        exact p.elim
      | bad => rw [hm] at p; exact p.elim
  · rw [if_neg ha] at p
    exact p.elim
end TL
end
section
set_option Elab.async false
set_option linter.all false
set_option autoImplicit false
set_option maxRecDepth 100000
/-! A dict made by two clauses: what its block does, turn by turn. -/
namespace TL
open PySem PySem.Spec PyProof.Rows L2
section
variable {prog : Program} {w : World} {A : Around} {R : Result → Shared → Prop} {s : Shared}
/-- the two loops of {k: v for a in x for b in y} -/
structure DC where
  (kx vx a x b y : Expr)
  (fa fb : List Expr)
  (sc : Scope)
  (ps : Pos)
abbrev DC.e (c : DC) : Expr := .DictComp c.kx c.vx [⟨c.a, c.x, c.fa, 0⟩, ⟨c.b, c.y, c.fb, 0⟩] c.sc c.ps
/-- what a raise in the block leads to -/
abbrev Nb (M : Model) (A : Around) (env : Env) (R : Result → Shared → Prop) : Value → Shared → Prop := notedBy M A env fun e s' => R (.error e) s'
abbrev Tests (fs : List Expr) (env : Env) : Sem Bool := forIn fs true fun c r => if r = true then do let ok ← isTrue c env (eval c env); pure (ForInStep.yield ok) else pure (ForInStep.yield r)
theorem dturn0 (c : DC) (it acc : Value) (env : Env) : compTurn c.e 0 it acc env = (do
    standAt c.x.pos
    match ← pyNext it with
    | none => pure (.done .next)
    | some v =>
      letOwnedTupleGo c.a it v
      assign c.a env v
      let mut ok := true
      for t in c.fa do
        if ok then ok ← isTrue t env (eval t env)
      if ok then
        let z ← eval c.y env
        standAt c.y.pos
        let z ← foldedSetIterable c.y env z
        let _ ← runOwn (.compStart c.e 1 (← holding [z] (pyIter z)) acc env) env
      again (.compLoop c.e 0 it acc env)) := by rfl
theorem dturn1 (c : DC) (it : Value) (D : Addr) (env : Env) : compTurn c.e 1 it (.ref D) env = (do
    standAt c.y.pos
    match ← pyNext it with
    | none => pure (.done .next)
    | some v =>
      letOwnedTupleGo c.b it v
      assign c.b env v
      let mut ok := true
      for t in c.fb do
        if ok then ok ← isTrue t env (eval t env)
      if ok then
        (do
          let k ← eval c.kx env
          let u ← holding [k] (eval c.vx env)
          standAt { c.kx.pos with endLine := c.vx.pos.endLine, endCol := c.vx.pos.endCol }
          holding [k, u] (dictSet D k u))
      again (.compLoop c.e 1 it (.ref D) env)) := by rfl
theorem dloop0 {c : DC} {it acc : Value} {env : Env} (hs : ∀ z, foldedSetIterable c.y env z = pure z) (I : Nat → Shared → Prop)
    (turn : ∀ n s, I n s → wpAny (model prog w) A (pyNext it) (fun r s1 => match r with
      | none => R (.ok .next) s1
      | some v => wpAny (model prog w) A (letOwnedTupleGo c.a it v) (fun _ s2 => wpAny (model prog w) A (assign c.a env v) (fun _ s3 => wpAny (model prog w) A (Tests c.fa env) (fun ok s4 =>
          if ok = true then wpAny (model prog w) A (eval c.y env) (fun z s5 => wpAny (model prog w) A (pyIter z) (fun it1 s6 =>
              codeAny (model prog w) A (.compStart c.e 1 it1 acc env) (fun r s' => match r with
                | .ok _ => ∃ m, m < n ∧ I m s'
                | .error _ => False) s6) (Nb (model prog w) A env R) s5) (Nb (model prog w) A env R) s4
          else ∃ m, m < n ∧ I m s4) (Nb (model prog w) A env R) s3) (Nb (model prog w) A env R) s2) (Nb (model prog w) A env R) s1) (Nb (model prog w) A env R) s)
    (n : Nat) (h : I n s) : codeAny (model prog w) A (.compLoop c.e 0 it acc env) R s := by
  refine codeAny_loop rfl I (fun n s hI => ?_) n h
  change wpAny _ A ((compTurn c.e 0 it acc env).onRaise (fun x => do noteFrame x env; theTreesLotGoes x)) _ _ s
  refine wpAny_noted ?_
  rw [dturn0]
  refine wpAny_bind (wpAny_standAt (wpAny_bind (wpAny_mono (turn n s hI) (fun r s1 h1 => ?_) fun _ _ e => e)))
  match r, h1 with
  | none, h1 => exact wpAny_pure h1
  | some v, h1 =>
    refine wpAny_bind (wpAny_mono h1 (fun _ s2 h2 => wpAny_bind (wpAny_mono h2 (fun _ s3 h3 => wpAny_bind (wpAny_mono h3 (fun ok s4 h4 => ?_) fun _ _ e => e)) fun _ _ e => e)) fun _ _ e => e)
    match ok, h4 with
    | false, h4 => exact wpAny_pure ⟨rfl, h4⟩
    | true, h4 =>
      refine wpAny_bind (wpAny_mono h4 (fun z s5 h5 => wpAny_bind (wpAny_standAt (wpAny_bind (wpAny_of_eq (hs z) (wpAny_bind (wpAny_holding (wpAny_mono h5 (fun it1 s6 h6 => wpAny_bind (wpAny_runOwn ?_)) fun _ _ e => e))))))) fun _ _ e => e)
      rw [Around.mark_none]
      refine codeAny_mono h6 fun r s' hr => ?_
      match r, hr with
      | .ok f, hr =>
        first
          | exact wpAny_pure ⟨rfl, hr⟩
          | exact wpAny_bind (wpAny_pure (wpAny_pure ⟨rfl, hr⟩))
      | .error e, hr => exact hr.elim
theorem dloop1 {c : DC} {it : Value} {D : Addr} {env : Env} (I : Nat → Shared → Prop)
    (turn : ∀ n s, I n s → wpAny (model prog w) A (pyNext it) (fun r s1 => match r with
      | none => R (.ok .next) s1
      | some v => wpAny (model prog w) A (letOwnedTupleGo c.b it v) (fun _ s2 => wpAny (model prog w) A (assign c.b env v) (fun _ s3 => wpAny (model prog w) A (Tests c.fb env) (fun ok s4 =>
          if ok = true then wpAny (model prog w) A (eval c.kx env) (fun k s5 => wpAny (model prog w) A (eval c.vx env) (fun u s6 =>
              wpAny (model prog w) A (dictSet D k u) (fun _ s7 => ∃ m, m < n ∧ I m s7) (Nb (model prog w) A env R) s6) (Nb (model prog w) A env R) s5) (Nb (model prog w) A env R) s4
          else ∃ m, m < n ∧ I m s4) (Nb (model prog w) A env R) s3) (Nb (model prog w) A env R) s2) (Nb (model prog w) A env R) s1) (Nb (model prog w) A env R) s)
    (n : Nat) (h : I n s) : codeAny (model prog w) A (.compLoop c.e 1 it (.ref D) env) R s := by
  refine codeAny_loop rfl I (fun n s hI => ?_) n h
  change wpAny _ A ((compTurn c.e 1 it (.ref D) env).onRaise (fun x => do noteFrame x env; theTreesLotGoes x)) _ _ s
  refine wpAny_noted ?_
  rw [dturn1]
  refine wpAny_bind (wpAny_standAt (wpAny_bind (wpAny_mono (turn n s hI) (fun r s1 h1 => ?_) fun _ _ e => e)))
  match r, h1 with
  | none, h1 => exact wpAny_pure h1
  | some v, h1 =>
    refine wpAny_bind (wpAny_mono h1 (fun _ s2 h2 => wpAny_bind (wpAny_mono h2 (fun _ s3 h3 => wpAny_bind (wpAny_mono h3 (fun ok s4 h4 => ?_) fun _ _ e => e)) fun _ _ e => e)) fun _ _ e => e)
    match ok, h4 with
    | false, h4 => exact wpAny_pure ⟨rfl, h4⟩
    | true, h4 =>
      exact wpAny_bind (wpAny_bind (wpAny_mono h4 (fun k s5 h5 => wpAny_bind (wpAny_holding (wpAny_mono h5 (fun u s6 h6 => wpAny_bind (wpAny_standAt (wpAny_holding (wpAny_mono h6 (fun _ s7 h7 => wpAny_pure ⟨rfl, h7⟩) fun _ _ e => e)))) fun _ _ e => e))) fun _ _ e => e))
theorem dstart1 {c : DC} {it acc : Value} {env : Env} (h0 : codeAny (model prog w) A (.compLoop c.e 1 it acc env) R s)
    (h : wpAny (model prog w) A (pyIter it) (fun it' s' => codeAny (model prog w) A (.compLoop c.e 1 it' acc env) R s') (Nb (model prog w) A env R) s) :
    codeAny (model prog w) A (.compStart c.e 1 it acc env) R s := by
  refine codeAny_of_tree ?_
  change wpAny _ _ ((compStart c.e 1 it acc env).onRaise (fun x => do noteFrame x env; standAt theWindowsPlace)) _ _ s
  refine wpAny_notedAt ?_
  unfold compStart
  change wpAny _ _ (ask >>= _) _ _ s
  refine wpAny_bind (wpAny_askSetting (wpAny_ite ?_))
  split
  · first
      | exact wpAny_pure (And.intro rfl h0)
      | exact wpAny_bind (wpAny_pure (wpAny_pure (And.intro rfl h0)))
  · refine wpAny_bind (wpAny_rule ?_)
    change wpAny _ _ (standAt c.y.pos >>= _) _ _ s
    exact wpAny_bind (wpAny_standAt (wpAny_bind (wpAny_mono h (fun it' s' e => wpAny_pure (And.intro rfl e)) fun _ _ e => e)))
end
end TL
end
section
set_option Elab.async false
set_option linter.all false
set_option autoImplicit false
set_option maxRecDepth 100000
namespace TL
open PySem PySem.Spec PyProof.Rows L2
section
variable {X : Cx}
/-- the new dict at D; vs: the block's names, vs1: those of the second target -/
def tDc2 (wi : TI) (g : TG) (tt : TT) (wi1 : TI) (g1 : TG) (tt1 : TT) (tk tv : TE) (vs vs1 : List Nat) : TE := fun σ H Q => wi σ H fun J H1 => ∀ D, H1 D = none →
  ∃ W : Nat → Nat → Hp → Prop, (∃ m, W 0 m (upd H1 D (.dK []))) ∧ ∀ i m H, W i m H →
  (J.stop i H ∧ Q (.ref D) H) ∨ (J.go i H ∧ ∃ Nx : Hp → Prop, (∀ H', Nx H' → ∃ m', m' < m ∧ W (i + 1) m' H') ∧
    ∀ x H', J.yld i H x H' → g x (wipe σ vs) H' fun σ2 H2 => wipe σ2 vs = wipe σ vs ∧ tt σ2 H2 fun b H3 =>
      if b = true then wi1 σ2 H3 fun J1 H4 => ∃ W1 : Nat → Nat → Hp → Prop, (∃ m, W1 0 m H4) ∧ ∀ j k H, W1 j k H →
        (J1.stop j H ∧ Nx H) ∨ (J1.go j H ∧ ∃ Nx1 : Hp → Prop, (∀ H', Nx1 H' → ∃ k', k' < k ∧ W1 (j + 1) k' H') ∧
          ∀ x H', J1.yld j H x H' → g1 x (wipe σ2 vs1) H' fun σ3 H5 => wipe σ3 vs1 = wipe σ2 vs1 ∧ tt1 σ3 H5 fun b H6 =>
            if b = true then tk σ3 H6 fun y H7 => tv σ3 H7 fun z H8 => ∃ kvs k, y = kV k ∧ H8 D = some (.dK kvs) ∧ kvs.length < sizeLine ∧ Nx1 (upd H8 D (.dK (putK kvs k z)))
            else Nx1 H6)
      else Nx H3)
/-- in each block made by this comprehension -/
abbrev InB (X : Cx) (scope : Scope) (P : Cx → Prop) : Prop := ∀ (s : Shared) (H : Hp) (C : Addr) (cl : List (Str × Addr)) (fp : List Addr), P (X.blk s H scope (compEnvC scope cl C X.env) fp)
theorem dc2_core {pins : List (Addr × Obj)} {s : Shared} {σ : L2.St} {H : Hp} {Q : VK} {c : DC} {own : List (Str × Nat)} {vs1 : List Nat} {pos' : Pos} {wi wi1 : TI} {g g1 : TG} {tt tt1 : TT} {tk tv : TE} {use : Option (Value → Sem Unit)} {Qf : Value → Shared → Prop}
    (hc : X.calm = true) (hN : X.N.Nodup) (I : Inv X pins σ H s) (hi : PI X c.a c.x wi) (ok : BlkOk X.N X.env.scope c.sc own) (hv : ∀ i ∈ vs1, i ∈ own.map (·.2))
    (hg : InB X c.sc fun Y => PG Y c.a g) (ht : InB X c.sc fun Y => PTs Y c.fa tt) (hk : InB X c.sc fun Y => PE Y c.kx tk) (he : InB X c.sc fun Y => PE Y c.vx tv) (hs : ∀ z, foldedSetIterable c.x X.env z = pure z)
    (hi1 : InB X c.sc fun Y => PI Y c.b c.y wi1) (hg1 : InB X c.sc fun Y => PG Y c.b g1) (ht1 : InB X c.sc fun Y => PTs Y c.fb tt1) (hs1 : ∀ env z, foldedSetIterable c.y env z = pure z)
    (h : tDc2 wi g tt wi1 g1 tt1 tk tv (own.map (·.2)) vs1 σ H Q)
    (hRR : ∀ D C s' m H', Inv X pins σ H' s' → Q (.ref D) H' → s'.heap.Ns C m → FpOk X pins H' C → compPost (model X.prog X.w) X.A X.xe use Qf (.ref D) C (.ok .next) s') :
    wpAny (model X.prog X.w) X.A (comprehension c.e c.sc X.env pos' newDict false (eval c.x X.env) use) Qf X.xe s := by
  have frees : ∀ y ∈ c.sc.names, y.2 = .free → ∃ b, X.env.cells.lookup y.1 = some b := fun y hy e => (ok.free y hy e).elim (fun k => I.ok.has _ (.inl k)) fun k => I.ok.has _ (.inr k)
  refine wpAny_comprehension_free (use := use) rfl hs (closure_ok frees) ok.kind (fun y hy e => by rw [ok.uniq y hy, e])
    (thn (hi.run pins s σ H _ I h) fun xv s1 hx => thn hx fun itv s2 h2 => ?_)
  obtain ⟨it, fp, tn, J, H2, rfl, I2, T, st2, f2, q⟩ := h2
  refine wpAny_newObj_type (newEnv_comp ?_)
  generalize hD : s2.heap.objs.size = D
  obtain ⟨W, ⟨m0, w0⟩, turn⟩ := q D (I2.hok.fresh (Nat.le_of_eq hD))
  generalize hs3 : ({ s2 with heap := s2.heap.push { cls := .type "dict", data := .dict #[] } } : Shared) = s3
  have h3 : s3.heap = s2.heap.push { cls := .type "dict", data := .dict #[] } := by rw [← hs3]
  have I3 : Inv X pins σ (upd H2 D (.dK [])) s3 := by
    subst hs3
    subst hD
    exact I2.laid (t' := s2.toks) (fun b o e => Heap.get?_push_of_some _ e) (Nat.le_refl _) (dk_empty s2.heap I2.big)
  have low : ∀ b ∈ fp, b < s2.heap.objs.size := fun b hb => let ⟨_, e, _⟩ := T.obj _ _ st2 b hb; Heap.lt_size e
  have f3 : ∀ b ∈ fp, FpOk X pins (upd H2 D (.dK [])) b ∧ b < s3.heap.objs.size := fun b hb =>
    ⟨⟨by rw [upd_ne (by rw [← hD]; exact Nat.ne_of_lt (low b hb))]; exact (f2 b hb).1, (f2 b hb).2⟩, by rw [h3, Heap.size_push]; exact Nat.lt_succ_of_lt (low b hb)⟩
  have st3 : tn 0 s3.heap := T.keep _ _ _ st2 fun b _ o e => by rw [h3]; exact Heap.get?_push_of_some _ e
  have I4 := block_start I3 ok hN f3
  generalize hcl : cellsFrom (s3.heap.objs.size + 1) c.sc.names (cloFrom X.env.cells c.sc.names []) = cl at I4
  have pg := hg s3 (upd H2 D (.dK [])) s3.heap.objs.size cl fp
  have pt := ht s3 (upd H2 D (.dK [])) s3.heap.objs.size cl fp
  have pk := hk s3 (upd H2 D (.dK [])) s3.heap.objs.size cl fp
  have pe := he s3 (upd H2 D (.dK [])) s3.heap.objs.size cl fp
  have pi1 := hi1 s3 (upd H2 D (.dK [])) s3.heap.objs.size cl fp
  have pg1 := hg1 s3 (upd H2 D (.dK [])) s3.heap.objs.size cl fp
  have pt1 := ht1 s3 (upd H2 D (.dK [])) s3.heap.objs.size cl fp
  show codeAny _ _ (.compStart c.e 0 (.ref it) (.ref D) (compEnvC c.sc cl s3.heap.objs.size X.env)) (compPost (model X.prog X.w) X.A X.xe use Qf (.ref D) s3.heap.objs.size) { s3 with heap := pushCells (s3.heap.push { cls := .type "dict", data := .dict #[] }) c.sc.names }
  generalize hce : compEnvC c.sc cl s3.heap.objs.size X.env = ce at I4 pg pt pk pe pi1 pg1 pt1 ⊢
  have cL : ce.locals = s3.heap.objs.size := by rw [← hce]; rfl
  have nfp : ∀ b ∈ fp, (upd H2 D (.dK [])) b = none := fun b hb => (f3 b hb).1.1
  generalize hH3 : upd H2 D (.dK []) = H3 at I3 I4 pg pt pk pe pi1 pg1 pt1 w0 nfp f3
  generalize hs4 : ({ s3 with heap := pushCells (s3.heap.push { cls := .type "dict", data := .dict #[] }) c.sc.names } : Shared) = s4 at I4 ⊢
  have st4 : tn 0 s4.heap := T.keep _ _ _ st3 fun b _ o e => by rw [← hs4]; exact pushCells_keeps _ _ _ _ (Heap.get?_push_of_some _ e)
  -- the iterator's own things in the block
  have own0 : ∀ {σ' : L2.St} {H' : Hp} {s' : Shared}, Inv (X.blk s3 H3 c.sc ce fp) [] σ' H' s' → (∀ b ∈ fp, H' b = none) → ∀ b ∈ fp, FpOk (X.blk s3 H3 c.sc ce fp) [] H' b := fun {σ' H' s'} I' hn b hb =>
    ⟨hn b hb, (I'.ok.exf b hb).1, I'.ok.exfs b hb, .inl hb, fun y d e => (I'.ok.exf b hb).2 y d e, fun p hp => absurd (show p ∈ ([] : List (Addr × Obj)) ++ [] from hp) (by simp)⟩
  let St0 : Nat → Shared → Prop := fun n s' => ∃ i H', Inv (X.blk s3 H3 c.sc ce fp) [] (wipe σ (own.map (·.2))) H' s' ∧ tn i s'.heap ∧ (∀ b ∈ fp, H' b = none) ∧ W i n H'
  refine codeAny_compStart_dict (?loop) (T.self X.A 0 _ _ _ st4 ?loop)
  refine dloop0 (hs1 ce) St0 ?_ m0 ⟨0, H3, I4, st4, nfp, w0⟩
  rintro n s5 ⟨i, H5, I5, st5, n5, w5⟩
  rcases turn i n H5 w5 with ⟨stop, qq⟩ | ⟨go, Nx, hNx, step⟩
  · refine thnF (T.done (X.blk s3 H3 c.sc ce fp) rfl rfl rfl hc i [] s5 _ H5 (fun _ _ => False) I5 (own0 I5 n5) st5 stop) fun r s6 ⟨hr, I6⟩ => ?_
    subst hr
    have I7 : Inv X pins σ H5 s6 := I3.call' (ch := fp) I6.os I6.base I6.hok I6.bare fun b hb => let z := (f3 b hb).1.2; ⟨z.2.2.1, z.1, z.2.2.2.1, z.2.2.2.2⟩
    have free' : H5 ce.locals = none := I6.free
    obtain ⟨m, hn, _⟩ := I6.loc
    have hn' : s6.heap.Ns ce.locals m := hn
    rw [cL] at hn' free'
    exact hRR D s3.heap.objs.size s6 m H5 I7 qq hn' (I3.fpOk (Nat.le_refl _) free')
  · refine thnF (T.item (X.blk s3 H3 c.sc ce fp) rfl rfl rfl hc i [] s5 _ H5 (fun _ _ => False) I5 (own0 I5 n5) st5 go) fun r s6 ⟨u, hr, h6⟩ => ?_
    subst hr
    refine thnF h6 fun _ s7 ⟨x, H7, I7, r7, y7, st7, n7⟩ => ?_
    refine thnF (pg.run _ s7 _ H7 x u _ (I7.pinned (own0 I7 n7) (T.obj _ _ st7)) r7 (step x H7 y7)) fun _ s8 ⟨σ8, H8, I8, hw8, q8⟩ => ?_
    refine thnF (pt.run _ s8 σ8 H8 _ I8 q8) fun b s9 ⟨H9, I9, q9⟩ => ?_
    have fin : ∀ {σ9 : L2.St} {s' : Shared} {H' : Hp}, Inv (X.blk s3 H3 c.sc ce fp) ([] ++ pinsAt fp s7.heap) σ9 H' s' → (wipe σ (own.map (·.2))).length = σ9.length →
        (∀ (j : Nat) v, (wipe σ (own.map (·.2)))[j]? = some (some v) → σ9[j]? = some (some v)) → Nx H' → ∃ m, m < n ∧ St0 m s' := fun {σ9 s' H'} I' hl hkp nx => by
      obtain ⟨m', hm, w'⟩ := hNx H' nx
      have stay : ∀ b ∈ fp, ∀ o, s7.heap.get? b = some o → s'.heap.get? b = some o ∧ H' b = none := fun b hb o e =>
        ⟨(I'.pin (b, o) (List.mem_append_right _ (List.mem_append_right _ (mem_pinsAt hb e)))).1, (I'.pin (b, o) (List.mem_append_right _ (List.mem_append_right _ (mem_pinsAt hb e)))).2.1⟩
      refine ⟨m', hm, i + 1, H', (I'.unpinned (pins := [])).weak hl hkp, T.keep _ _ _ st7 fun b hb o e => (stay b hb o e).1, fun b hb => ?_, w'⟩
      obtain ⟨o, e, _⟩ := T.obj _ _ st7 b hb
      exact (stay b hb o e).2
    have l8 : (wipe σ (own.map (·.2))).length = σ8.length := by rw [← hw8, wipe_length]
    have k8 : ∀ (j : Nat) v, (wipe σ (own.map (·.2)))[j]? = some (some v) → σ8[j]? = some (some v) := fun j v e => by
      rw [← hw8] at e
      exact (wipe_some e).1
    have k9 : ∀ (j : Nat) v, (wipe σ (own.map (·.2)))[j]? = some (some v) → (wipe σ8 vs1)[j]? = some (some v) := fun j v e => by
      rw [← hw8] at e
      rw [wipe_out fun z => (wipe_some e).2 (hv j z)]
      exact (wipe_some e).1
    match b, q9 with
    | false, q9 => exact fin I9 l8 k8 q9
    | true, q9 =>
      refine thnF (pi1.run _ s9 σ8 H9 _ I9 q9) fun xv s10 hx => thnF hx fun itv s11 h11 => ?_
      obtain ⟨it1, fp1, tn1, J1, H11, rfl, I11, T1, st11, f11, W1, ⟨m1, w1⟩, turn1⟩ := h11
      have own1 : ∀ {H' : Hp}, (∀ b ∈ fp1, H' b = none) → ∀ b ∈ fp1, FpOk (X.blk s3 H3 c.sc ce fp) ([] ++ pinsAt fp s7.heap) H' b := fun hn b hb => ⟨hn b hb, (f11 b hb).2⟩
      let St1 : Nat → Shared → Prop := fun k s' => ∃ j H', Inv (X.blk s3 H3 c.sc ce fp) ([] ++ pinsAt fp s7.heap) (wipe σ8 vs1) H' s' ∧ tn1 j s'.heap ∧ (∀ b ∈ fp1, H' b = none) ∧ W1 j k H'
      refine dstart1 (?inner) (T1.self X.A 0 _ _ _ st11 ?inner)
      refine dloop1 St1 ?_ m1 ⟨0, H11, I11.weak (wipe_length _ _) (fun j v e => (wipe_some e).1), st11, fun b hb => (f11 b hb).1, w1⟩
      rintro k s12 ⟨j, H12, I12, st12, n12, w12⟩
      rcases turn1 j k H12 w12 with ⟨stop1, nx1⟩ | ⟨go1, Nx1, hNx1, step1⟩
      · refine thnF (T1.done (X.blk s3 H3 c.sc ce fp) rfl rfl rfl hc j _ s12 (wipe σ8 vs1) H12 (fun _ _ => False) I12 (own1 n12) st12 stop1) fun r s13 ⟨hr, I13⟩ => ?_
        subst hr
        exact fin I13 (l8.trans (wipe_length σ8 vs1).symm) k9 nx1
      · refine thnF (T1.item (X.blk s3 H3 c.sc ce fp) rfl rfl rfl hc j _ s12 (wipe σ8 vs1) H12 (fun _ _ => False) I12 (own1 n12) st12 go1) fun r s13 ⟨u1, hr, h13⟩ => ?_
        subst hr
        refine thnF h13 fun _ s14 ⟨x1, H14, I14, r14, y14, st14, n14⟩ => ?_
        refine thnF (pg1.run _ s14 (wipe σ8 vs1) H14 x1 u1 _ (I14.pinned (own1 n14) (T1.obj _ _ st14)) r14 (step1 x1 H14 y14)) fun _ s15 ⟨σ15, H15, I15, hw15, q15⟩ => ?_
        refine thnF (pt1.run _ s15 σ15 H15 _ I15 q15) fun b1 s16 ⟨H16, I16, q16⟩ => ?_
        have fin1 : ∀ {s' : Shared} {H' : Hp}, Inv (X.blk s3 H3 c.sc ce fp) (([] ++ pinsAt fp s7.heap) ++ pinsAt fp1 s14.heap) σ15 H' s' → Nx1 H' → ∃ m, m < k ∧ St1 m s' := fun {s' H'} I' nx => by
          obtain ⟨m', hm, w'⟩ := hNx1 H' nx
          have stay : ∀ b ∈ fp1, ∀ o, s14.heap.get? b = some o → s'.heap.get? b = some o ∧ H' b = none := fun b hb o e =>
            ⟨(I'.pin (b, o) (List.mem_append_right _ (List.mem_append_right _ (mem_pinsAt hb e)))).1, (I'.pin (b, o) (List.mem_append_right _ (List.mem_append_right _ (mem_pinsAt hb e)))).2.1⟩
          refine ⟨m', hm, j + 1, H', I'.unpinned.weak (by rw [← hw15, wipe_length]) (fun j v e => by rw [← hw15] at e; exact (wipe_some e).1), T1.keep _ _ _ st14 fun b hb o e => (stay b hb o e).1, fun b hb => ?_, w'⟩
          obtain ⟨o, e, _⟩ := T1.obj _ _ st14 b hb
          exact (stay b hb o e).2
        match b1, q16 with
        | false, q16 => exact fin1 I16 q16
        | true, q16 =>
          refine thnF (pk.run _ s16 σ15 H16 _ I16 q16) fun z s17 ⟨yk, H17, I17, r17, q17⟩ => ?_
          refine thnF (pe.run _ s17 σ15 H17 _ I17 q17) fun z2 s18 ⟨yv, H18, I18, r18, kvs, key, ek, hD18, hz18, nx⟩ => ?_
          subst ek
          exact d_dictSet (X := X.blk s3 H3 c.sc ce fp) I18 hD18 hz18 r17 r18 fun s19 I19 => fin1 I19 nx
/-- {k: v for a in x if .. for b in y if ..}, as a value -/
theorem pe_dc2 {c : DC} {own : List (Str × Nat)} {vs1 : List Nat} {wi wi1 : TI} {g g1 : TG} {tt tt1 : TT} {tk tv : TE} (hc : X.calm = true) (hN : X.N.Nodup) (hi : PI X c.a c.x wi) (ok : BlkOk X.N X.env.scope c.sc own) (hv : ∀ i ∈ vs1, i ∈ own.map (·.2))
    (hg : InB X c.sc fun Y => PG Y c.a g) (ht : InB X c.sc fun Y => PTs Y c.fa tt) (hi1 : InB X c.sc fun Y => PI Y c.b c.y wi1) (hg1 : InB X c.sc fun Y => PG Y c.b g1) (ht1 : InB X c.sc fun Y => PTs Y c.fb tt1)
    (hk : InB X c.sc fun Y => PE Y c.kx tk) (he : InB X c.sc fun Y => PE Y c.vx tv) (hs : ∀ z, foldedSetIterable c.x X.env z = pure z := by intro _; rfl) (hs1 : ∀ env z, foldedSetIterable c.y env z = pure z := by intro _ _; rfl) :
    PE X c.e (tDc2 wi g tt wi1 g1 tt1 tk tv (own.map (·.2)) vs1) := by
  refine ⟨fun pins s σ H Q I h => ?_⟩
  rw [show eval c.e X.env = _ from arm_eval_DictComp ..]
  refine dc2_core hc hN I hi ok hv hg ht hk he hs hi1 hg1 ht1 hs1 h fun D C s' m H' I' q hn f => ⟨m, hn, fun h'' sb => ?_⟩
  obtain ⟨f0, f1, f2, f3, f4, f5⟩ := f
  exact ⟨.ref D, H', I'.turned (t' := s'.toks) (fun b o hb e => (sb.2 b hb).trans e) f0 f1 f3 f4 f5, rfl, q⟩
end
end TL
end
section
set_option Elab.async false
set_option linter.all false
set_option autoImplicit false
set_option maxRecDepth 100000
/-! Comprehensions of two clauses over plain data. -/
namespace TL
open PySem PySem.Spec PyProof.Rows L2
section
variable {K : PySem.W.Frag} {mg : Str → Option Value} {W : WX} {F B H : Hp} {σ σ' : L2.St} {e : En}
/-- where a new object D is kept apart from what is laid down -/
theorem grow_off {D : Addr} {o : HO} {B2 B3 : Hp} (fD : F D = none) (bD : B2 D = none) (g : Grow (upd F D o) B2 B3) : Grow F B2 B3 ∧ B3 D = none :=
  ⟨⟨g.ex, fun a h1 h2 => by
    have := g.new a h1 h2
    by_cases ha : a = D
    · rw [ha]; exact fD
    · rw [upd_ne ha] at this
      exact this⟩, g.none bD upd_same⟩
theorem sta_store {D : Addr} {o u : HO} {B2 H2 : Hp} (bD : B2 D = none) (s : Sta K (upd F D o) B2 H2 σ e) : Sta K (upd F D u) B2 (upd H2 D u) σ e := by
  refine ⟨fun a q h => ?_, fun a q h => ?_, fun j r h => ?_, s.ln, s.dj⟩
  · by_cases ha : a = D
    · subst ha
      rw [upd_same] at h ⊢
      exact h
    · rw [upd_ne ha] at h ⊢
      exact s.fh a q (by rw [upd_ne ha]; exact h)
  · rw [upd_ne (ne_of_none h bD)]
    exact s.bh a q h
  · obtain ⟨v, h1, h2⟩ := s.ent j r h
    refine ⟨v, h1, ?_⟩
    cases r with
    | val t => exact h2
    | own us =>
      obtain ⟨a, ys, rfl, q1, q2, q3, q4⟩ := h2
      have hne : a ≠ D := fun z => by
        rw [z, upd_same] at q1
        cases q1
      exact ⟨a, ys, rfl, by rw [upd_ne hne]; rw [upd_ne hne] at q1; exact q1, q2, by rw [upd_ne hne]; exact q3, q4⟩
theorem sta_fresh {D : Addr} {o : HO} {B2 H2 : Hp} (hD : H2 D = none) (s : Sta K F B2 H2 σ e) : Sta K (upd F D o) B2 (upd H2 D o) σ e := by
  refine ⟨s.fh.both, s.bh.trans (Ex.new hD), fun i r h => ?_, s.ln, s.dj⟩
  obtain ⟨v, h1, h2⟩ := s.ent i r h
  refine ⟨v, h1, ?_⟩
  cases r with
  | val t => exact h2
  | own us =>
    obtain ⟨a, xs, rfl, q1, q2, q3, q4⟩ := h2
    have hne : a ≠ D := ne_of_none q3 hD
    exact ⟨a, xs, rfl, by rw [upd_ne hne]; exact q1, q2, by rw [upd_ne hne]; exact q3, q4⟩
/-- D is let go -/
theorem sta_loose {D : Addr} {o : HO} {B2 H2 : Hp} (fD : F D = none) (s : Sta K (upd F D o) B2 H2 σ e) : Sta K F B2 H2 σ e := by
  refine ⟨fun a q h => s.fh a q (by rw [upd_ne (ne_of_none h fD)]; exact h), s.bh, fun i r h => ?_, s.ln, s.dj⟩
  obtain ⟨v, h1, h2⟩ := s.ent i r h
  refine ⟨v, h1, ?_⟩
  cases r with
  | val t => exact h2
  | own us =>
    obtain ⟨a, ys, rfl, q1, q2, q3, q4⟩ := h2
    have hne : a ≠ D := fun z => by
      rw [z, upd_same] at q1
      cases q1
    exact ⟨a, ys, rfl, by rw [upd_ne hne] at q1; exact q1, q2, q3, q4⟩
/-- no name holds D -/
theorem sta_no {D : Addr} {o : HO} {B2 H2 : Hp} (s : Sta K (upd F D o) B2 H2 σ e) (i : Nat) (us : List T) (h : e[i]? = some (some (.own us))) : σ[i]? ≠ some (some (.ref D)) := fun z => by
  obtain ⟨v, h1, a, ys, e1, q1, _⟩ := s.ent i _ h
  rw [z] at h1
  cases h1
  cases e1
  rw [upd_same] at q1
  cases q1
/-- the block's names are given back -/
theorem sta_back {e1 e2 : En} {B1 B2 H1 H2 : Hp} {vs : List Nat} (s1 : Sta K F B1 H1 σ e1) (g : Ex B1 B2) (s2 : Sta K F B2 H2 (wipe σ vs) e2) : Sta K F B2 H2 σ (backE e1 e2 vs) := by
  refine ⟨s2.fh, s2.bh, fun i r h => ?_, ?_, fun i j v ts us h1 h2 h3 h4 => ?_⟩
  · rcases backE_get h with ⟨hn, h⟩ | ⟨t, rfl, hh⟩
    · obtain ⟨v, h1, h2⟩ := s2.ent i r h
      rw [wipe_get hn] at h1
      exact ⟨v, h1, h2⟩
    · obtain ⟨v, h1, h2⟩ := s1.ent i _ hh
      exact ⟨v, h1, dq_ex g _ _ h2⟩
  · rw [backE_len]
    have := s2.ln
    rw [wipe_length] at this
    exact this
  · rcases backE_get h1 with ⟨n1, h1⟩ | ⟨t, z, _⟩
    · rcases backE_get h2 with ⟨n2, h2⟩ | ⟨t, z, _⟩
      · exact s2.dj i j v ts us h1 h2 (by rw [wipe_get n1]; exact h3) (by rw [wipe_get n2]; exact h4)
      · cases z
    · cases z
/-! ### [elt for a in x if .. for b in y if ..] -/
def mCompO (g : Mg) (tt : Mb) (mi1 : Ml) (g1 : Mg) (tt1 : Mb) (te : Mt) (vs vs1 : List Nat) : List T → List T → En → Res (List T)
  | [], acc, e => .ok acc e
  | t :: ts, acc, e => match g t e with
    | none => .bad
    | some e1 => match tt e1 with
      | .ok true e2 => match mi1 e2 with
        | .ok us e3 => match mCompL g1 tt1 te vs1 us acc (wipeE e3 vs1) with
          | .ok acc' e4 => mCompO g tt mi1 g1 tt1 te vs vs1 ts acc' (wipeE e4 vs)
          | _ => .bad
        | _ => .bad
      | .ok false e2 => mCompO g tt mi1 g1 tt1 te vs vs1 ts acc (wipeE e2 vs)
      | _ => .bad
def mComp2 (mi : Ml) (g : Mg) (tt : Mb) (mi1 : Ml) (g1 : Mg) (tt1 : Mb) (te : Mt) (vs vs1 : List Nat) : Mv := fun e => (mi e).bind fun ts e1 => match mCompO g tt mi1 g1 tt1 te vs vs1 ts [] (wipeE e1 vs) with
  | .ok acc e2 => .ok (.own acc) (backE e1 e2 vs)
  | _ => .bad
theorem wipe_sub {vs vs1 : List Nat} (hv : ∀ i ∈ vs1, i ∈ vs) {σ : L2.St} : wipe (wipe σ vs1) vs = wipe σ vs := wipe_off (⟨wipe_length _ _, fun i h => wipe_get fun z => h (hv i z)⟩)
theorem comp2_ok {mi mi1 : Ml} {g g1 : Mg} {sl sl1 vs vs1 : List Nat} {tt tt1 : Mb} {te : Mt} {Q : VK} (hk : (sl.all fun i => vs.contains i) = true) (hk1 : (sl1.all fun i => vs1.contains i) = true) (hv : ∀ i ∈ vs1, i ∈ vs)
    (q : tV K mg W (mComp2 mi g tt mi1 g1 tt1 te vs vs1) σ H Q) : tLc2 (tI K mg W mi) (tG K sl g) (tO K mg W0 tt) (tI K mg W0 mi1) (tG K sl1 g1) (tO K mg W0 tt1) (tT K mg W0 te) vs vs1 σ H Q := by
  have hsub : ∀ i ∈ sl, i ∈ vs := fun i hi => List.contains_iff_mem.mp (List.all_eq_true.mp hk i hi)
  have hsub1 : ∀ i ∈ sl1, i ∈ vs1 := fun i hi => List.contains_iff_mem.mp (List.all_eq_true.mp hk1 i hi)
  obtain ⟨F, B, e, s, p⟩ := q
  refine ⟨F, B, e, s, (Post.unbind p).mono fun B1 H1 e1 ts s1 g1' p1 J tw => fun D hD => ?_⟩
  have fD : F D = none := s1.fh.back hD
  -- what is left to be done, from the i-th item on
  let Left : Nat → Hp → Prop := fun i H' => i ≤ ts.length ∧ ∃ B2 e2 acc xs, H' D = some (.lst xs) ∧ DqAll K B2 xs acc ∧ B2 D = none ∧ Sta K (upd F D (.lst xs)) B2 H' (wipe σ vs) e2 ∧ Grow F B1 B2 ∧
      Post K mg W F B1 σ (fun B' H' e' r => ∀ v, RvOk K F B' H' σ e' v r → Q v H') (match mCompO g tt mi1 g1 tt1 te vs vs1 (ts.drop i) acc e2 with
        | .ok acc e2 => .ok (.own acc) (backE e1 e2 vs)
        | _ => .bad)
  refine ⟨fun i m H' => m = ts.length - i ∧ Left i H', ⟨ts.length, rfl, Nat.zero_le _, B1, wipeE e1 vs, [], [], upd_same, .nil, s1.bh.back hD, sta_fresh hD (s1.wiped (vs := vs) (σ' := σ) rfl rfl), .refl, p1⟩, ?_⟩
  rintro i m H' ⟨rfl, hi, B2, e2, acc, xs, hx, hd, bD, s2, g2, p2⟩
  by_cases hlt : i < ts.length
  · have ht : ts[i]? = some ts[i] := List.getElem?_eq_getElem hlt
    rw [List.drop_eq_getElem_cons hlt] at p2
    have p2' : Post K mg W F B1 σ (fun B' H' e' r => ∀ v, RvOk K F B' H' σ e' v r → Q v H') (match (match g ts[i] e2 with
        | none => Res.bad
        | some e1 => match tt e1 with
          | .ok true e2 => match mi1 e2 with
            | .ok us e3 => match mCompL g1 tt1 te vs1 us acc (wipeE e3 vs1) with
              | .ok acc' e4 => mCompO g tt mi1 g1 tt1 te vs vs1 (ts.drop (i + 1)) acc' (wipeE e4 vs)
              | _ => .bad
            | _ => .bad
          | .ok false e2 => mCompO g tt mi1 g1 tt1 te vs vs1 (ts.drop (i + 1)) acc (wipeE e2 vs)
          | _ => .bad) with
      | .ok acc e2 => .ok (.own acc) (backE e1 e2 vs)
      | _ => .bad) := p2
    refine .inr ⟨tw.goes i H' hlt (g2.ex.trans s2.bh), fun H'' => Left (i + 1) H'', fun H'' p' => ⟨ts.length - (i + 1), by omega, rfl, p'⟩, fun x H3 y => ?_⟩
    obtain ⟨B3, n3, d3⟩ := tw.yields i H' B2 x H3 ts[i] ht g2.ex s2.bh y
    have s3 := s2.news n3
    obtain ⟨gB3, bD3⟩ := grow_off fD bD (n3.grow s2.fh)
    cases hg : g ts[i] e2 with
    | none => rw [hg] at p2'; exact p2'.elim
    | some e3 =>
      rw [hg] at p2'
      dsimp only at p2'
      refine ⟨upd F D (.lst xs), B3, e2, ts[i], e3, s3, d3, hg, fun σ2 s4 o4 => ?_⟩
      have ow : Off vs (wipe σ vs) σ2 := o4.mono hsub
      have ww : wipe σ2 vs = wipe σ vs := (wipe_off ow).trans wipe_wipe
      have wl : σ2.length = σ.length := by rw [ow.1, wipe_length]
      refine ⟨ww, upd F D (.lst xs), B3, e3, s4, ?_⟩
      cases htt : tt e3 with
      | ok b e4 =>
        rw [htt] at p2'
        intro B4 H4 s5 g5
        obtain ⟨gB4, bD4⟩ := grow_off fD bD3 g5
        cases b with
        | false =>
          refine ⟨hlt, B4, wipeE e4 vs, acc, xs, s5.fh D _ upd_same, dqs_ex (gB3.ex.trans gB4.ex) _ _ hd, bD4, ?_, (g2.trans gB3).trans gB4, p2'⟩
          have := s5.wiped (vs := vs) (σ' := σ) ww wl
          exact this
        | true =>
          refine ⟨upd F D (.lst xs), B4, e4, s5, ?_⟩
          dsimp only at p2'
          cases hm1 : mi1 e4 with
          | ok us e5 =>
            rw [hm1] at p2'
            dsimp only at p2'
            intro B5 H5 s6 g6 J1 tw1
            obtain ⟨gB5, bD5⟩ := grow_off fD bD4 g6
            -- the inner loop
            refine ⟨fun j k H' => k = us.length - j ∧ j ≤ us.length ∧ ∃ B6 e6 acc6 xs6, H' D = some (.lst xs6) ∧ DqAll K B6 xs6 acc6 ∧ B6 D = none ∧ Sta K (upd F D (.lst xs6)) B6 H' (wipe σ2 vs1) e6 ∧ Grow F B1 B6 ∧ Ex B5 B6 ∧
              Post K mg W F B1 σ (fun B' H' e' r => ∀ v, RvOk K F B' H' σ e' v r → Q v H') (match (match mCompL g1 tt1 te vs1 (us.drop j) acc6 e6 with
                  | .ok acc' e4 => mCompO g tt mi1 g1 tt1 te vs vs1 (ts.drop (i + 1)) acc' (wipeE e4 vs)
                  | _ => .bad) with
                | .ok acc e2 => .ok (.own acc) (backE e1 e2 vs)
                | _ => .bad), ⟨us.length, rfl, Nat.zero_le _, B5, wipeE e5 vs1, acc, xs, s6.fh D _ upd_same, dqs_ex ((gB3.ex.trans gB4.ex).trans gB5.ex) _ _ hd, bD5, s6.wiped (vs := vs1) (σ' := σ2) rfl rfl, ((g2.trans gB3).trans gB4).trans gB5, Ex.refl _, p2'⟩, ?_⟩
            rintro j k H6 ⟨rfl, hj, B6, e6, acc6, xs6, hx6, hd6, bD6, s7, g7, x7, p7⟩
            by_cases hjl : j < us.length
            · have hu : us[j]? = some us[j] := List.getElem?_eq_getElem hjl
              rw [List.drop_eq_getElem_cons hjl] at p7
              have p7' : Post K mg W F B1 σ (fun B' H' e' r => ∀ v, RvOk K F B' H' σ e' v r → Q v H') (match (match (match g1 us[j] e6 with
                    | none => Res.bad
                    | some e1 => match tt1 e1 with
                      | .ok true e2 => match te e2 with
                        | .ok y e3 => if acc6.length < 100000 then mCompL g1 tt1 te vs1 (us.drop (j + 1)) (acc6 ++ [y]) (wipeE e3 vs1) else .bad
                        | _ => .bad
                      | .ok false e2 => mCompL g1 tt1 te vs1 (us.drop (j + 1)) acc6 (wipeE e2 vs1)
                      | _ => .bad) with
                  | .ok acc' e4 => mCompO g tt mi1 g1 tt1 te vs vs1 (ts.drop (i + 1)) acc' (wipeE e4 vs)
                  | _ => .bad) with
                | .ok acc e2 => .ok (.own acc) (backE e1 e2 vs)
                | _ => .bad) := p7
              refine .inr ⟨tw1.goes j H6 hjl (x7.trans s7.bh), fun H'' => j + 1 ≤ us.length ∧ ∃ B6 e6 acc6 xs6, H'' D = some (.lst xs6) ∧ DqAll K B6 xs6 acc6 ∧ B6 D = none ∧ Sta K (upd F D (.lst xs6)) B6 H'' (wipe σ2 vs1) e6 ∧ Grow F B1 B6 ∧ Ex B5 B6 ∧
                Post K mg W F B1 σ (fun B' H' e' r => ∀ v, RvOk K F B' H' σ e' v r → Q v H') (match (match mCompL g1 tt1 te vs1 (us.drop (j + 1)) acc6 e6 with
                    | .ok acc' e4 => mCompO g tt mi1 g1 tt1 te vs vs1 (ts.drop (i + 1)) acc' (wipeE e4 vs)
                    | _ => .bad) with
                  | .ok acc e2 => .ok (.own acc) (backE e1 e2 vs)
                  | _ => .bad), fun H'' p' => ⟨us.length - (j + 1), by omega, rfl, p'⟩, fun x1 H7 y1 => ?_⟩
              obtain ⟨B7, n7, d7⟩ := tw1.yields j H6 B6 x1 H7 us[j] hu x7 s7.bh y1
              have s8 := s7.news n7
              obtain ⟨gB7, bD7⟩ := grow_off fD bD6 (n7.grow s7.fh)
              cases hg1 : g1 us[j] e6 with
              | none => rw [hg1] at p7'; exact p7'.elim
              | some e7 =>
                rw [hg1] at p7'
                dsimp only at p7'
                refine ⟨upd F D (.lst xs6), B7, e6, us[j], e7, s8, d7, hg1, fun σ3 s9 o9 => ?_⟩
                have ow1 : Off vs1 (wipe σ2 vs1) σ3 := o9.mono hsub1
                have ww1 : wipe σ3 vs1 = wipe σ2 vs1 := (wipe_off ow1).trans wipe_wipe
                have wl1 : σ3.length = σ2.length := by rw [ow1.1, wipe_length]
                refine ⟨ww1, upd F D (.lst xs6), B7, e7, s9, ?_⟩
                cases htt1 : tt1 e7 with
                | ok b e8 =>
                  rw [htt1] at p7'
                  intro B8 H8 s10 g10
                  obtain ⟨gB8, bD8⟩ := grow_off fD bD7 g10
                  cases b with
                  | false =>
                    exact ⟨hjl, B8, wipeE e8 vs1, acc6, xs6, s10.fh D _ upd_same, dqs_ex (gB7.ex.trans gB8.ex) _ _ hd6, bD8, s10.wiped (vs := vs1) (σ' := σ2) ww1 wl1, (g7.trans gB7).trans gB8, (x7.trans gB7.ex).trans gB8.ex, p7'⟩
                  | true =>
                    refine ⟨upd F D (.lst xs6), B8, e8, s10, ?_⟩
                    dsimp only at p7'
                    cases hte : te e8 with
                    | ok yt e9 =>
                      rw [hte] at p7'
                      dsimp only at p7'
                      intro B9 H9 s11 g11 y9 d9
                      obtain ⟨gB9, bD9⟩ := grow_off fD bD8 g11
                      by_cases hz : acc6.length < 100000
                      · rw [if_pos hz] at p7'
                        have hd9 := dqs_ex ((gB7.ex.trans gB8.ex).trans gB9.ex) _ _ hd6
                        exact ⟨xs6, s11.fh D _ upd_same, bigL (by rw [hd6.len]; exact hz), hjl, B9, wipeE e9 vs1, acc6 ++ [yt], xs6 ++ [y9], upd_same, hd9.app (.one d9), bD9, sta_store bD9 (s11.wiped (vs := vs1) (σ' := σ2) ww1 wl1), ((g7.trans gB7).trans gB8).trans gB9, ((x7.trans gB7.ex).trans gB8.ex).trans gB9.ex, p7'⟩
                      · rw [if_neg hz] at p7'
                        exact p7'.elim
                    | exc x e9 => rw [hte] at p7'; exact p7'.elim
                    | bad => rw [hte] at p7'; exact p7'.elim
                | exc x e8 => rw [htt1] at p7'; exact p7'.elim
                | bad => rw [htt1] at p7'; exact p7'.elim
            · have ej : j = us.length := by omega
              subst ej
              rw [List.drop_length] at p7
              refine .inl ⟨tw1.stops H6 (x7.trans s7.bh), hlt, B6, wipeE e6 vs, acc6, xs6, hx6, hd6, bD6, ?_, g7, p7⟩
              exact s7.wiped (vs := vs) (σ' := σ) ((wipe_sub hv).trans ww) (by rw [wipe_length]; exact wl)
          | exc x e5 => rw [hm1] at p2'; exact p2'.elim
          | bad => rw [hm1] at p2'; exact p2'.elim
      | exc x e4 => rw [htt] at p2'; exact p2'.elim
      | bad => rw [htt] at p2'; exact p2'.elim
  · have ei : i = ts.length := by omega
    subst ei
    rw [List.drop_length] at p2
    refine .inl ⟨tw.stops H' (g2.ex.trans s2.bh), p2 B2 H' (sta_back s1 g2.ex (sta_loose fD s2)) g2 _ ⟨⟨D, xs, rfl, fD, bD, hx, hd⟩, fun ts' _ i us h1 h2 => ?_⟩⟩
    rcases backE_get h1 with ⟨n1, h1⟩ | ⟨t, z, _⟩
    · exact sta_no s2 i us h1 (by rw [wipe_get n1]; exact h2)
    · cases z
end
section
variable {X : Cx} {W : WX}
theorem x_lc2 {elt tg iter tg1 iter1 : Expr} {ifs ifs1 : List Expr} {scope : Scope} {own : List (Str × Nat)} {pos : Pos} {mi mi1 : Ml} {g g1 : Mg} {sl sl1 vs1 : List Nat} {tt tt1 : Mb} {te : Mt} (hc : X.calm = true) (hN : X.N.Nodup) (hi : PI X tg iter (tI X.K X.mg W mi)) (ok : BlkOk X.N X.env.scope scope own)
    (hk : (sl.all fun i => (own.map (·.2)).contains i) = true) (hk1 : (sl1.all fun i => vs1.contains i) = true) (hv : (vs1.all fun i => (own.map (·.2)).contains i) = true)
    (hg : InB X scope fun Y => PG Y tg (tG X.K sl g)) (ht : InB X scope fun Y => PTs Y ifs (tO X.K X.mg W0 tt))
    (hi1 : InB X scope fun Y => PI Y tg1 iter1 (tI X.K X.mg W0 mi1)) (hg1 : InB X scope fun Y => PG Y tg1 (tG X.K sl1 g1)) (ht1 : InB X scope fun Y => PTs Y ifs1 (tO X.K X.mg W0 tt1))
    (he : InB X scope fun Y => PE Y elt (tT X.K X.mg W0 te))
    (hs : ∀ x, foldedSetIterable iter X.env x = pure x := by intro _; rfl) (hs1 : ∀ env x, foldedSetIterable iter1 env x = pure x := by intro _ _; rfl) :
    PE X (.ListComp elt [⟨tg, iter, ifs, 0⟩, ⟨tg1, iter1, ifs1, 0⟩] scope pos) (tV X.K X.mg W (mComp2 mi g tt mi1 g1 tt1 te (own.map (·.2)) vs1)) :=
  have hv' : ∀ i ∈ vs1, i ∈ own.map (·.2) := fun i hi => List.contains_iff_mem.mp (List.all_eq_true.mp hv i hi)
  PE.imp (pe_lc2 hc hN hi ok hv' hg ht hi1 hg1 ht1 he hs hs1) fun _ _ _ => comp2_ok hk hk1 hv'
theorem s_setLc2 {keep : List Nat} {i : Nat} {y : Str} {py spos : Pos} {elt tg iter tg1 iter1 : Expr} {ifs ifs1 : List Expr} {scope : Scope} {own : List (Str × Nat)} {pos : Pos} {mi mi1 : Ml} {g g1 : Mg} {sl sl1 vs1 : List Nat} {tt tt1 : Mb} {te : Mt} (hc : X.calm = true) (hN : X.N.Nodup) (hy : X.N[i]? = some y) (hyl : X.env.scope.names.lookup y = some .local) (hkeep : keep.contains i = false)
    (hsw : swapsWith (.ListComp elt [⟨tg, iter, ifs, 0⟩, ⟨tg1, iter1, ifs1, 0⟩] scope pos) (some (.Name y py)) spos.line X.env = pure true) (hi : PI X tg iter (tI X.K X.mg W mi)) (ok : BlkOk X.N X.env.scope scope own)
    (hk : (sl.all fun i => (own.map (·.2)).contains i) = true) (hk1 : (sl1.all fun i => vs1.contains i) = true) (hv : (vs1.all fun i => (own.map (·.2)).contains i) = true)
    (hg : InB X scope fun Y => PG Y tg (tG X.K sl g)) (ht : InB X scope fun Y => PTs Y ifs (tO X.K X.mg W0 tt))
    (hi1 : InB X scope fun Y => PI Y tg1 iter1 (tI X.K X.mg W0 mi1)) (hg1 : InB X scope fun Y => PG Y tg1 (tG X.K sl1 g1)) (ht1 : InB X scope fun Y => PTs Y ifs1 (tO X.K X.mg W0 tt1))
    (he : InB X scope fun Y => PE Y elt (tT X.K X.mg W0 te))
    (hs : ∀ x, foldedSetIterable iter X.env x = pure x := by intro _; rfl) (hs1 : ∀ env x, foldedSetIterable iter1 env x = pure x := by intro _ _; rfl) :
    PS X (.Assign [.Name y py] (.ListComp elt [⟨tg, iter, ifs, 0⟩, ⟨tg1, iter1, ifs1, 0⟩] scope pos) spos) (tS X.K X.mg W keep (mSet i (mComp2 mi g tt mi1 g1 tt1 te (own.map (·.2)) vs1))) :=
  have hv' : ∀ i ∈ vs1, i ∈ own.map (·.2) := fun i hi => List.contains_iff_mem.mp (List.all_eq_true.mp hv i hi)
  PS.imp (ps_setLc2 hc hN hy hyl hsw hi ok hv' hg ht hi1 hg1 ht1 he hs hs1) fun D σ H q => by
  have hk' : i ∉ keep := fun z => by
    rw [List.contains_iff_mem.mpr z] at hkeep
    cases hkeep
  refine comp2_ok hk hk1 hv' (σ := σ) (H := H) (Q := fun x H1 => gName i x σ H1 D.nx) ?_
  obtain ⟨F, B, e, s, p⟩ := q
  exact ⟨F, B, e, s, (PostS.unbind p).mono fun B' H' e' r s' g p' v o => p' _ B' H' (s'.put o) .refl (.set hk')⟩
end
end TL
end
section
set_option Elab.async false
set_option linter.all false
set_option autoImplicit false
set_option maxRecDepth 100000
/-! More operations over plain data. -/
namespace TL
open PySem PySem.Spec PyProof.Rows L2
/-! ### division by a number of either sign; the order of tuples -/
def fDivG : T → T → Option RV
  | .int i, .int j => if j ≠ 0 ∧ small j = true then some (.val (.int (i.fdiv j))) else none
  | _, _ => none
def intsL : List T → Option (List Int)
  | [] => some []
  | .int i :: r => (intsL r).map (i :: ·)
  | _ => none
theorem intsL_ok : ∀ {ts : List T} {ns : List Int}, intsL ts = some ns → ts = ns.map .int
  | [], _, h => by cases h; rfl
  | t :: ts, ns, h => by
    cases t with
    | int i =>
      have h' : (intsL ts).map (i :: ·) = some ns := h
      cases q : intsL ts with
      | none => rw [q] at h'; cases h'
      | some r =>
        rw [q] at h'
        cases h'
        rw [List.map_cons, intsL_ok q]
    | _ => cases h
theorem intsL_map : ∀ ns : List Int, intsL (ns.map PyData.int) = some ns
  | [] => rfl
  | n :: ns => by
    show (intsL (ns.map PyData.int)).map (n :: ·) = _
    rw [intsL_map ns]
    rfl
theorem dq_intsV {K : PySem.W.Frag} {B : Hp} : ∀ {ns : List Int} {vs : List V}, DqAll K B vs (ns.map .int) → vs = ns.map V.int
  | [], _, h => by cases h; rfl
  | n :: ns, _, h => by
    cases h with
    | cons h1 h2 =>
      cases h1
      rw [dq_intsV h2]
      rfl
def fLtA : T → T → Option RV
  | .int i, .int j => some (.val (.bool (decide (i < j))))
  | .tuple ts, .tuple us => match intsL ts, intsL us with
    | some ns, some ms => some (.val (.bool (HT.lexLt ns ms)))
    | _, _ => none
  | _, _ => none
section
variable {X : Cx}
theorem op_fdivG : OpR X (binaryOp .FloorDiv) (rI (fun _ j => j ≠ 0 ∧ small j = true) fun i j => .int (i.fdiv j)) := opI fun _ _ _ _ _ _ _ hc q => by
  refine floordiv_int hc.1 q (.inl (PyProof.noPylong_of_log2 ?_))
  have := of_decide_eq_true hc.2
  omega
theorem f_divG : Op2 X.K fDivG (rI (fun _ j => j ≠ 0 ∧ small j = true) fun i j => .int (i.fdiv j)) := fun x y t u z B H Q ex d1 d2 hf k => by
  unfold fDivG at hf
  split at hf
  · split at hf
    · cases hf
      cases d1
      cases d2
      exact ⟨_, _, rfl, rfl, by assumption, k _ B H (.val ex (.int _))⟩
    · cases hf
  · cases hf
theorem f_ltA : Op2 X.K fLtA (fun x y H Q => (rI0 fun i j => .bl (decide (i < j))) x y H Q ∨ rLtT X.K x y H Q) := fun x y t u z B H Q ex d1 d2 hf k => by
  unfold fLtA at hf
  split at hf
  · cases hf
    cases d1
    cases d2
    exact .inl ⟨_, _, rfl, rfl, k _ B H (.val ex (.bl _))⟩
  · rename_i ts us
    split at hf
    · rename_i ns ms e1 e2
      cases hf
      have q1 := intsL_ok e1
      have q2 := intsL_ok e2
      subst q1
      subst q2
      cases d1 with
      | tup h1 h2 =>
        cases d2 with
        | tup g1 g2 =>
          have z1 := dq_intsV h2
          have z2 := dq_intsV g2
          subst z1
          subst z2
          exact .inr ⟨_, _, ns, ms, rfl, rfl, ex_t ex h1.t, ex_t ex g1.t, k _ B H (.val ex (.bl _))⟩
    · cases hf
  · cases hf
/-! ### min, max of three -/
def fMin3 : List T → Option RV
  | [.int i, .int j, .int k] => some (.val (.int (if k < (if j < i then j else i) then k else (if j < i then j else i))))
  | _ => none
theorem f_min3 : OpN X.K fMin3 (rNuC3 nuMin3) := fun xs ts z B H Q ex d hf k => by
  unfold fMin3 at hf
  split at hf
  · rename_i a b c
    cases hf
    cases d with
    | cons d1 dn => cases dn with
      | cons d2 dn => cases dn with
        | cons d3 dn =>
          cases dn
          cases d1
          cases d2
          cases d3
          refine ⟨_, _, _, .int (if c < (if b < a then b else a) then c else (if b < a then b else a)), rfl, ?_, k _ B H (.val ex (.int _))⟩
          by_cases h1 : b < a
          · by_cases h2 : c < b <;> simp [nuMin3, nuMin2, nuLt, nuCB, h1, h2]
          · by_cases h2 : c < a <;> simp [nuMin3, nuMin2, nuLt, nuCB, h1, h2]
  · cases hf
/-! ### sorted of a list of ints -/
def insI (k : Int) : List Int → List Int
  | [] => [k]
  | x :: xs => if k ≤ x then k :: x :: xs else x :: insI k xs
def isort (ns : List Int) : List Int := ns.foldr insI []
theorem insI_perm (k : Int) : ∀ xs : List Int, (insI k xs).Perm (k :: xs)
  | [] => .refl _
  | x :: xs => by
    unfold insI
    split
    · exact .refl _
    · exact ((insI_perm k xs).cons x).trans (.swap k x xs)
theorem isort_perm : ∀ ns : List Int, (isort ns).Perm ns
  | [] => .refl _
  | n :: ns => (insI_perm n _).trans ((isort_perm ns).cons n)
theorem insI_sorted (k : Int) : ∀ {xs : List Int}, xs.Pairwise (· ≤ ·) → (insI k xs).Pairwise (· ≤ ·)
  | [], _ => by simp [insI]
  | x :: xs, h => by
    have h' := List.pairwise_cons.mp h
    unfold insI
    split
    · rename_i hk
      refine List.pairwise_cons.mpr ⟨fun y hy => ?_, h⟩
      rcases List.mem_cons.mp hy with rfl | hy
      · exact hk
      · have := h'.1 y hy
        omega
    · rename_i hk
      refine List.pairwise_cons.mpr ⟨fun y hy => ?_, insI_sorted k h'.2⟩
      rcases List.mem_cons.mp ((insI_perm k xs).mem_iff.mp hy) with rfl | hy
      · omega
      · exact h'.1 y hy
theorem isort_sorted : ∀ ns : List Int, (isort ns).Pairwise (· ≤ ·)
  | [] => List.Pairwise.nil
  | n :: ns => insI_sorted n (isort_sorted ns)
theorem isort_uniq {ns ms : List Int} (hp : ms.Perm ns) (hs : ms.Pairwise (· ≤ ·)) : ms = isort ns :=
  List.Perm.eq_of_pairwise (fun a b _ _ h1 h2 => by omega) hs (isort_sorted ns) (hp.trans (isort_perm ns).symm)
def fSort : List T → Option RV
  | [.list ts] => (intsL ts).map fun ns => .own ((isort ns).map .int)
  | _ => none
theorem f_sort : OpN X.K fSort (rSortedI X.K) := fun xs ts z B H Q ex d hf k => by
  unfold fSort at hf
  split at hf
  · rename_i us
    cases q : intsL us with
    | none => rw [q] at hf; cases hf
    | some ns =>
      rw [q] at hf
      cases hf
      have e := intsL_ok q
      subst e
      cases d with
      | cons d1 dn =>
        cases dn
        cases d1 with
        | lst h1 h2 =>
          have z1 := dq_intsV h2
          subst z1
          refine ⟨_, ns, rfl, ex_l ex (.inl h1), fun ms p hp hs hn => ?_⟩
          rw [isort_uniq hp hs]
          exact k _ B _ (NewOk.lst ex hn (dq_ints _))
  · cases hf
/-! ### sorted(set(x)) of a tuple of ints -/
def insD (k : Int) : List Int → List Int
  | [] => [k]
  | x :: xs => if k < x then k :: x :: xs else if k = x then x :: xs else x :: insD k xs
def dsort (ns : List Int) : List Int := ns.foldr insD []
theorem mem_insD (k j : Int) : ∀ xs : List Int, j ∈ insD k xs ↔ j = k ∨ j ∈ xs
  | [] => by simp [insD]
  | x :: xs => by
    unfold insD
    split
    · simp
    · split
      · rename_i h
        subst h
        simp
      · rw [List.mem_cons, mem_insD k j xs, List.mem_cons]
        constructor
        · rintro (h | h | h) <;> simp [h]
        · rintro (h | h | h) <;> simp [h]
theorem mem_dsort (j : Int) : ∀ ns : List Int, j ∈ dsort ns ↔ j ∈ ns
  | [] => by simp [dsort]
  | n :: ns => by
    show j ∈ insD n (dsort ns) ↔ _
    rw [mem_insD, mem_dsort j ns, List.mem_cons]
theorem insD_asc (k : Int) : ∀ {xs : List Int}, xs.Pairwise (· < ·) → (insD k xs).Pairwise (· < ·)
  | [], _ => by simp [insD]
  | x :: xs, h => by
    have h' := List.pairwise_cons.mp h
    unfold insD
    split
    · rename_i hk
      refine List.pairwise_cons.mpr ⟨fun y hy => ?_, h⟩
      rcases List.mem_cons.mp hy with rfl | hy
      · exact hk
      · have := h'.1 y hy
        omega
    · split
      · exact h
      · refine List.pairwise_cons.mpr ⟨fun y hy => ?_, insD_asc k h'.2⟩
        rcases (mem_insD k y xs).mp hy with rfl | hy
        · omega
        · exact h'.1 y hy
theorem dsort_asc : ∀ ns : List Int, (dsort ns).Pairwise (· < ·)
  | [] => List.Pairwise.nil
  | n :: ns => insD_asc n (dsort_asc ns)
theorem asc_uniq : ∀ {xs ys : List Int}, xs.Pairwise (· < ·) → ys.Pairwise (· < ·) → (∀ k, k ∈ xs ↔ k ∈ ys) → xs = ys
  | [], [], _, _, _ => rfl
  | [], y :: ys, _, _, h => absurd ((h y).mpr (by simp)) (by simp)
  | x :: xs, [], _, _, h => absurd ((h x).mp (by simp)) (by simp)
  | x :: xs, y :: ys, h1, h2, h => by
    have a := List.pairwise_cons.mp h1
    have b := List.pairwise_cons.mp h2
    have exy : x = y := by
      rcases List.mem_cons.mp ((h x).mp (by simp)) with e | e
      · exact e
      · rcases List.mem_cons.mp ((h y).mpr (by simp)) with e' | e'
        · exact e'.symm
        · have := a.1 y e'
          have := b.1 x e
          omega
    subst exy
    rw [asc_uniq a.2 b.2 fun k => ?_]
    have hk := h k
    rw [List.mem_cons, List.mem_cons] at hk
    constructor
    · intro hm
      rcases hk.mp (.inr hm) with e | e
      · have := a.1 k hm
        omega
      · exact e
    · intro hm
      rcases hk.mpr (.inr hm) with e | e
      · have := b.1 k hm
        omega
      · exact e
def rSetI (K : PySem.W.Frag) (w : World) : List V → Hp → VK → Prop := fun vs H Q => ∃ (l : Addr) (ns : List Int), vs = [.ref l] ∧ SqT K H l (ns.map V.int) ∧ ns.length ≤ 4000 ∧
  ∀ (p : Addr) (c : Nat), H p = none → c ≤ ns.length → Q (.ref p) (upd H p (SetO w p (fun j => decide (j ∈ ns)) c))
theorem cr_setI (hc : X.calm = true) : CallR X (.type "set") (rSetI X.K X.w) := by
  intro pins s σ H vs us Q I r h
  obtain ⟨l, ns, rfl, hs, hn, q⟩ := h
  rw [Vals.ref1 r]
  obtain ⟨its, rv, pt, _⟩ := I.tuple hs
  refine call_set_tupI ns (I.ok.hd hc) (show s.heap.IsTuple l its.toArray from pt) (ints_of_vals rv) (by unfold scanBound; omega) fun h' tk c R1 hcn k => ?_
  exact ⟨.ref _, _, I.laid (t' := tk) (fun b u e => k b u e) (Nat.le_refl _) (setO_new R1), rfl, q _ c (I.hok.fresh (Nat.le_refl _)) hcn⟩
end
section
variable {X : Cx} {W : WX} {a : Expr} {pos p p2 q : Pos}
def mSortSet (m : Mt) : Mv := fun e => (m e).bind fun t e1 => match t with
  | .tuple ts => match intsL ts with
    | some ns => if ns.length < 64 then .ok (.own ((dsort ns).map .int)) e1 else .bad
    | none => .bad
  | _ => .bad
theorem x_sortSet {m : Mt} (hc : X.calm = true) (hg : Gl X "sorted") (hm : X.mg "sorted" = none) (hg2 : Gl X "set") (hm2 : X.mg "set" = none) (ha : PE X a (tT X.K X.mg W m))
    (h1 : starEach [a] X.env = (false, eval a X.env) :: starEach [] X.env := by rfl) (h2 : (backTo q (starEach [] X.env)).any (·.1) = false := by rfl)
    (h3 : starEach [Expr.Call (.Name "set" p2) [a] [] q] X.env = (false, eval (Expr.Call (.Name "set" p2) [a] [] q) X.env) :: starEach [] X.env := by rfl) (h4 : (backTo pos (starEach [] X.env)).any (·.1) = false := by rfl) :
    PE X (.Call (.Name "sorted" p) [.Call (.Name "set" p2) [a] [] q] [] pos) (tV X.K X.mg W (mSortSet m)) :=
  PE.imp (pe_callB (cr_sortedSet hc) hg hm rfl (pa_cons (pe_callTy (cr_setI hc) hg2 hm2 rfl (pa_cons ha pa_nil h1) (by decide) (by decide) h1 h2) pa_nil h3) (by decide) (by decide) h3 h4) fun σ H Q q => by
  obtain ⟨F, B, e, s, p⟩ := q
  refine ⟨F, B, e, s, (Post.unbind p).mono fun B1 H1 e1 t s1 g1 p1 v d => ?_⟩
  cases t with
  | tuple ts =>
    dsimp only at p1
    cases hi : intsL ts with
    | none => rw [hi] at p1; exact p1.elim
    | some ns =>
      rw [hi] at p1
      dsimp only at p1
      have e := intsL_ok hi
      subst e
      by_cases hl : ns.length < 64
      · rw [if_pos hl] at p1
        cases d with
        | tup k1 k2 =>
          have z := dq_intsV k2
          subst z
          refine ⟨_, ns, rfl, ex_t s1.bh k1.t, by omega, fun p0 c hp0 hcn => ⟨p0, _, c, rfl, upd_same, by omega, fun ms p1' hs hmem _ hn => ?_⟩⟩
          have em : ms = dsort ns := asc_uniq hs (dsort_asc ns) fun j => by
            rw [hmem j, decide_eq_true_iff, mem_dsort]
          subst em
          have s2 := s1.news (News.lone (p := p0) (o := SetO X.w p0 (fun j => decide (j ∈ ns)) c) s1.bh hp0)
          obtain ⟨s3, g3, o3⟩ := (NewOk.lst s2.bh hn (dq_ints (dsort ns))).rv s2
          exact p1 _ _ s3 g3 _ o3
      · rw [if_neg hl] at p1
        exact p1.elim
  | _ => exact p1.elim
/-! ### *x in a display -/
def mStar (m : Mt) (ms : Ml) : Ml := fun e => (m e).bind fun t e1 => match items t with
  | some ts => (ms e1).bind fun us e2 => .ok (ts ++ us) e2
  | none => .bad
theorem x_star {es : List Expr} {m : Mt} {ms : Ml} (ha : PE X a (tT X.K X.mg W m)) (hr : PA X es (tL X.K X.mg W ms)) (hs : starEach (.Starred a p :: es) X.env = (true, eval a X.env) :: starEach es X.env := by rfl) :
    PA X (.Starred a p :: es) (tL X.K X.mg W (mStar m ms)) := PA.imp (StX.pa_star ha hr hs) fun σ H Q q => by
  obtain ⟨F, B, e, s, p⟩ := q
  refine ⟨F, B, e, s, (Post.unbind p).mono fun B1 H1 e1 t s1 g1 p1 v d => ?_⟩
  cases hi : items t with
  | none => rw [hi] at p1; exact p1.elim
  | some ts =>
    rw [hi] at p1
    dsimp only at p1
    obtain ⟨b, xs, rfl, hd, hq⟩ := items_ok d hi
    refine ⟨b, xs, rfl, ?_, F, B1, e1, s1, (Post.unbind p1).mono fun B2 H2 e2 us s2 g2 p2 vs ds => p2 B2 H2 s2 .refl _ ((dqs_ex g2.ex _ _ hd).app ds)⟩
    rcases hq with hq | hq
    · exact .inr (hq H1 s1.bh)
    · exact .inl (hq H1 s1.bh)
/-! ### list(range(n)) -/
def mListRg (m : Mt) : Mv := fun e => (m e).bind fun t e1 => match t with
  | .int n => if 0 ≤ n ∧ n ≤ 100000 then .ok (.own (rngT 0 n.toNat)) e1 else .bad
  | _ => .bad
theorem dq_rng {K : PySem.W.Frag} {B : Hp} {n : Nat} : DqAll K B ((List.range n).map fun i => V.int (0 + (i : Nat))) (rngT 0 n) := by
  refine DqAll.of (by unfold rngT; simp) fun i v d h1 h2 => ?_
  unfold rngT at h2
  rw [List.getElem?_map] at h1 h2
  cases h : (List.range n)[i]? with
  | none => rw [h] at h1; cases h1
  | some j =>
    rw [h] at h1 h2
    cases h1
    cases h2
    exact .int _
theorem x_listRg {m : Mt} (hc : X.calm = true) (hg : Gl X "list") (hm : X.mg "list" = none) (hg2 : Gl X "range") (hm2 : X.mg "range" = none) (ha : PE X a (tT X.K X.mg W m))
    (n1 : starEach [a] X.env = (false, eval a X.env) :: starEach [] X.env := by rfl) (n2 : starEach [Expr.Call (.Name "range" p2) [a] [] q] X.env = (false, eval (Expr.Call (.Name "range" p2) [a] [] q) X.env) :: starEach [] X.env := by rfl) :
    PE X (.Call (.Name "list" p) [.Call (.Name "range" p2) [a] [] q] [] pos) (tV X.K X.mg W (mListRg m)) := PE.imp (pe_listRg hc hg hm (prg_1 hg2 hm2 ha n1) n2) fun σ H Q q => by
  obtain ⟨F, B, e, s, p⟩ := q
  refine ⟨F, B, e, s, (Post.unbind p).mono fun B1 H1 e1 t s1 g1 p1 v d => ?_⟩
  cases t with
  | int n =>
    cases d
    dsimp only at p1
    by_cases hz : 0 ≤ n ∧ n ≤ 100000
    · rw [if_pos hz] at p1
      refine ⟨n, rfl, RgOk.of_le (Int.le_refl _) (by omega) (by omega) (by omega), fun q hq => ?_⟩
      obtain ⟨s3, g3, o3⟩ := (NewOk.lst s1.bh hq (dq_rng (n := n.toNat))).rv s1
      have e1' : rgV 0 n = (List.range n.toNat).map fun i => V.int (0 + (i : Nat)) := by
        unfold rgV
        rw [show (n - 0).toNat = n.toNat by omega]
      rw [e1']
      exact p1 _ _ s3 g3 _ o3
    · rw [if_neg hz] at p1
      exact p1.elim
  | _ => exact p1.elim
end
end TL
end
section
set_option Elab.async false
set_option linter.all false
set_option autoImplicit false
set_option maxRecDepth 100000
/-! Places gathered by a dict of lists; a dict of numbers made by two clauses. -/
namespace TL
open PySem PySem.Spec PyProof.Rows L2
/-! ### states without own lists -/
def NoOwn (e : En) : Prop := ∀ (i : Nat) us, e[i]? ≠ some (some (.own us))
theorem Sta.move {K : PySem.W.Frag} {F F' B H H' : Hp} {σ σ' : L2.St} {e e' : En} (s : Sta K F B H σ e) (ho : NoOwn e') (hs : ∀ (i : Nat) r, e'[i]? = some (some r) → e[i]? = some (some r) ∧ σ'[i]? = σ[i]?) (hl : e'.length ≤ σ'.length) (hf : Ex F' H') (hb : Ex B H') : Sta K F' B H' σ' e' := by
  refine ⟨hf, hb, fun i r h => ?_, hl, fun i j v ts us h => absurd h (ho i ts)⟩
  obtain ⟨h1, h2⟩ := hs i r h
  obtain ⟨v, h3, h4⟩ := s.ent i r h1
  refine ⟨v, by rw [h2]; exact h3, ?_⟩
  cases r with
  | val t => exact h4
  | own us => exact absurd h (ho i us)
theorem Ex.put {F H : Hp} {a : Addr} {o : HO} (e : Ex F H) (h : F a = none) : Ex F (upd H a o) := e.mut h
theorem enumT_at : ∀ (ts : List T) (k i : Nat), (enumT k ts)[i]? = (ts[i]?).map fun t => pair (.int ((k + i : Nat) : Int)) t
  | [], k, i => by simp [enumT]
  | t :: ts, k, 0 => by simp [enumT, pair]
  | t :: ts, k, i + 1 => by
    have := enumT_at ts (k + 1) i
    simp only [enumT, List.getElem?_cons_succ]
    rw [this]
    rw [show k + 1 + i = k + (i + 1) by omega]
/-! ### places by their number -/
def gadd (k p : Int) : List (Int × List Int) → List (Int × List Int)
  | [] => [(k, [p])]
  | (j, ps) :: r => if j = k then (j, ps ++ [p]) :: r else (j, ps) :: gadd k p r
def grpTo (ns : List Int) : Nat → List (Int × List Int)
  | 0 => []
  | i + 1 => gadd (ns.getD i 0) (i : Int) (grpTo ns i)
theorem gadd_len (k p : Int) : ∀ acc : List (Int × List Int), (gadd k p acc).length ≤ acc.length + 1
  | [] => Nat.le_refl _
  | (j, ps) :: r => by
    unfold gadd
    split
    · simp
    · have := gadd_len k p r
      simp only [List.length_cons]
      omega
theorem grpTo_len (ns : List Int) : ∀ i, (grpTo ns i).length ≤ i
  | 0 => Nat.le_refl _
  | i + 1 => by
    have := gadd_len (ns.getD i 0) (i : Int) (grpTo ns i)
    have := grpTo_len ns i
    show (gadd _ _ _).length ≤ _
    omega
theorem gadd_most (k p : Int) (m : Nat) : ∀ acc : List (Int × List Int), (∀ g ∈ acc, g.2.length ≤ m) → ∀ g ∈ gadd k p acc, g.2.length ≤ m + 1
  | [], _, g, hg => by
    simp [gadd] at hg
    subst hg
    simp
  | (j, ps) :: r, h, g, hg => by
    unfold gadd at hg
    split at hg
    · rcases List.mem_cons.mp hg with rfl | hg
      · have := h (j, ps) (by simp)
        simp at this ⊢
        omega
      · have := h g (by simp [hg])
        omega
    · rcases List.mem_cons.mp hg with rfl | hg
      · have := h (j, ps) (by simp)
        omega
      · exact gadd_most k p m r (fun g hg => h g (by simp [hg])) g hg
theorem grpTo_most (ns : List Int) : ∀ i, ∀ g ∈ grpTo ns i, g.2.length ≤ i
  | 0, g, h => by cases h
  | i + 1, g, h => gadd_most _ _ i _ (grpTo_most ns i) g h
/-- the dict at D holds, for each key, a list of its own -/
def GR (H F B : Hp) (D : Addr) : List (Key × V) → List (Int × List Int) → List Addr → Prop
  | [], [], [] => True
  | (k, v) :: gs, (n, ps) :: acc, b :: bs => k = .inl n ∧ v = .ref b ∧ H b = some (.lst (ps.map V.int)) ∧ F b = none ∧ B b = none ∧ b ≠ D ∧ b ∉ bs ∧ GR H F B D gs acc bs
  | _, _, _ => False
theorem GR.len {H F B : Hp} {D : Addr} : ∀ {gs : List (Key × V)} {acc : List (Int × List Int)} {bs : List Addr}, GR H F B D gs acc bs → gs.length = acc.length
  | [], [], [], _ => rfl
  | _ :: gs, _ :: acc, b :: bs, h => by
    simp only [List.length_cons]
    rw [GR.len h.2.2.2.2.2.2.2]
  | [], [], _ :: _, h => h.elim
  | [], _ :: _, _, h => h.elim
  | _ :: _, [], _, h => h.elim
  | _ :: _, _ :: _, [], h => h.elim
theorem GR.keep {H F B H' B' : Hp} {D : Addr} : ∀ {gs : List (Key × V)} {acc : List (Int × List Int)} {bs : List Addr}, GR H F B D gs acc bs → (∀ b ∈ bs, ∀ o, H b = some o → H' b = some o) → (∀ b ∈ bs, ∀ o, H b = some o → B b = none → B' b = none) → GR H' F B' D gs acc bs
  | [], [], [], _, _, _ => True.intro
  | (k, v) :: gs, (n, ps) :: acc, b :: bs, h, h1, h2 => by
    obtain ⟨a1, a2, a3, a4, a5, a6, a7, a8⟩ := h
    exact ⟨a1, a2, h1 b (by simp) _ a3, a4, h2 b (by simp) _ a3 a5, a6, a7, a8.keep (fun c hc => h1 c (by simp [hc])) (fun c hc => h2 c (by simp [hc]))⟩
  | [], [], _ :: _, h, _, _ => h.elim
  | [], _ :: _, _, h, _, _ => h.elim
  | _ :: _, [], _, h, _, _ => h.elim
  | _ :: _, _ :: _, [], h, _, _ => h.elim
theorem GR.held {H F B : Hp} {D : Addr} : ∀ {gs : List (Key × V)} {acc : List (Int × List Int)} {bs : List Addr}, GR H F B D gs acc bs → ∀ b ∈ bs, ∃ o, H b = some o ∧ F b = none ∧ B b = none ∧ b ≠ D
  | [], [], [], _, b, hb => by cases hb
  | (k, v) :: gs, (n, ps) :: acc, c :: bs, h, b, hb => by
    obtain ⟨a1, a2, a3, a4, a5, a6, a7, a8⟩ := h
    rcases List.mem_cons.mp hb with rfl | hb
    · exact ⟨_, a3, a4, a5, a6⟩
    · exact a8.held b hb
  | [], [], _ :: _, h, _, _ => h.elim
  | [], _ :: _, _, h, _, _ => h.elim
  | _ :: _, [], _, h, _, _ => h.elim
  | _ :: _, _ :: _, [], h, _, _ => h.elim
theorem GR.at {H F B : Hp} {D : Addr} : ∀ {gs : List (Key × V)} {acc : List (Int × List Int)} {bs : List Addr} {j : Nat} {k : Key} {x : V}, GR H F B D gs acc bs → gs[j]? = some (k, x) → ∃ g b, acc[j]? = some g ∧ x = .ref b ∧ H b = some (.lst (g.2.map V.int))
  | [], [], [], j, _, _, _, e => by simp at e
  | (k, v) :: gs, (n, ps) :: acc, c :: bs, 0, _, _, h, e => by
    obtain ⟨a1, a2, a3, a4, a5, a6, a7, a8⟩ := h
    simp at e
    obtain ⟨rfl, rfl⟩ := e
    exact ⟨(n, ps), c, rfl, a2, a3⟩
  | (k, v) :: gs, (n, ps) :: acc, c :: bs, j + 1, _, _, h, e => by
    obtain ⟨g, b, h1, h2⟩ := GR.at h.2.2.2.2.2.2.2 (by simpa using e)
    exact ⟨g, b, by simpa using h1, h2⟩
  | [], [], _ :: _, _, _, _, h, _ => h.elim
  | [], _ :: _, _, _, _, _, h, _ => h.elim
  | _ :: _, [], _, _, _, _, h, _ => h.elim
  | _ :: _, _ :: _, [], _, _, _, h, _ => h.elim
/-- a key that stands: its list, and what a place more makes of it -/
theorem GR.hit {H F B : Hp} {D : Addr} {n p : Int} : ∀ {gs : List (Key × V)} {acc : List (Int × List Int)} {bs : List Addr} {v : V}, GR H F B D gs acc bs → valV gs (Sum.inl n : Key) = some v →
    ∃ b ps, v = .ref b ∧ b ∈ bs ∧ (∃ j : Int, (j, ps) ∈ acc) ∧ H b = some (.lst (ps.map V.int)) ∧ ∀ H', H' b = some (.lst (ps.map V.int ++ [V.int p])) → (∀ c ∈ bs, c ≠ b → ∀ o, H c = some o → H' c = some o) → GR H' F B D gs (gadd n p acc) bs
  | [], [], [], v, _, e => by cases e
  | (k, v) :: gs, (m, ps) :: acc, c :: bs, w, h, e => by
    obtain ⟨rfl, rfl, a3, a4, a5, a6, a7, a8⟩ := h
    by_cases hm : m = n
    · subst hm
      rw [valV_pos rfl] at e
      cases e
      refine ⟨c, ps, rfl, by simp, ⟨m, by simp⟩, a3, fun H' h1 h2 => ?_⟩
      unfold gadd
      rw [if_pos rfl]
      refine ⟨rfl, rfl, by rw [List.map_append]; exact h1, a4, a5, a6, a7, a8.keep (fun b hb o ho => h2 b (by simp [hb]) (fun z => a7 (z ▸ hb)) o ho) (fun _ _ _ _ z => z)⟩
    · rw [valV_neg (by intro z; cases z; exact hm rfl)] at e
      obtain ⟨b, qs, e1, hb, ⟨j, hj⟩, h1, h2⟩ := a8.hit (p := p) e
      refine ⟨b, qs, e1, by simp [hb], ⟨j, by simp [hj]⟩, h1, fun H' g1 g2 => ?_⟩
      unfold gadd
      rw [if_neg hm]
      have hne : c ≠ b := fun z => a7 (z ▸ hb)
      exact ⟨rfl, rfl, g2 c (by simp) hne _ a3, a4, a5, a6, a7, h2 H' g1 fun d hd => g2 d (by simp [hd])⟩
  | [], [], _ :: _, _, h, _ => h.elim
  | [], _ :: _, _, _, h, _ => h.elim
  | _ :: _, [], _, _, h, _ => h.elim
  | _ :: _, _ :: _, [], _, h, _ => h.elim
/-- a key that is new -/
theorem GR.miss {H F B : Hp} {D : Addr} {n p : Int} {b : Addr} : ∀ {gs : List (Key × V)} {acc : List (Int × List Int)} {bs : List Addr}, GR H F B D gs acc bs → valV gs (Sum.inl n : Key) = none → H b = some (.lst [V.int p]) → F b = none → B b = none → b ≠ D → b ∉ bs →
    GR H F B D (gs ++ [(.inl n, .ref b)]) (gadd n p acc) (bs ++ [b])
  | [], [], [], _, _, h1, h2, h3, h4, _ => ⟨rfl, rfl, h1, h2, h3, h4, by simp, True.intro⟩
  | (k, v) :: gs, (m, ps) :: acc, c :: bs, h, e, h1, h2, h3, h4, h5 => by
    obtain ⟨rfl, rfl, a3, a4, a5, a6, a7, a8⟩ := h
    by_cases hm : m = n
    · subst hm
      rw [valV_pos rfl] at e
      cases e
    · rw [valV_neg (by intro z; cases z; exact hm rfl)] at e
      simp only [List.mem_cons, not_or] at h5
      unfold gadd
      rw [if_neg hm]
      refine ⟨rfl, rfl, a3, a4, a5, a6, fun z => ?_, a8.miss e h1 h2 h3 h4 h5.2⟩
      rcases List.mem_append.mp z with z | z
      · exact a7 z
      · rw [List.mem_singleton] at z
        exact h5.1 z.symm
  | [], [], _ :: _, h, _, _, _, _, _, _ => h.elim
  | [], _ :: _, _, h, _, _, _, _, _, _ => h.elim
  | _ :: _, [], _, h, _, _, _, _, _, _ => h.elim
  | _ :: _, _ :: _, [], h, _, _, _, _, _, _ => h.elim
end TL
end
section
set_option Elab.async false
set_option linter.all false
set_option autoImplicit false
set_option maxRecDepth 100000
set_option maxHeartbeats 1000000
namespace TL
open PySem PySem.Spec PyProof.Rows L2
def mBlocks : Ms := fun e => match e with
  | [some (.val (.tuple ts)), none, none, none, none] => match intsL ts with
    | some ns => if ns.length ≤ 1000 then .ok (.rt (.val (.tuple ((grpTo ns ns.length).map fun g => .tuple (g.2.map .int))))) e else .bad
    | none => .bad
  | _ => .bad
section
variable (K : PySem.W.Frag) (mg : Str → Option Value) (W : WX)
/-- what the lines of such a def do, read -/
def rdBlocks : TS := tSeq (tAsg tDNewK (gName 1))
  (tSeq (tFor (tI K mg W (mEnum (mCons (mVar 0) mNil))) (tG K ([2] ++ ([3] ++ [])) (gT (gsCons (gN 2) (gsCons (gN 3) gsNil)) 2))
    (tDrop (tBM K "list" rAppend (tDSetd (tVar 1) (tVar 3) (tLst L2.tNil)) (L2.tCons (tVar 2) L2.tNil))))
  (tRet (tCB (rTupX K) (L2.tCons (tLockE (tLc (iVals (tVar 1)) (gName 4) tYes (tCB (rTupX K) (L2.tCons (tVar 4) L2.tNil)) [4])) L2.tNil))))
end
theorem noOwn0 {t : T} : NoOwn [some (.val t), none, none, none, none] := fun i us h => by
  match i, h with
  | 0, h => cases h
  | 1, h => cases h
  | 2, h => cases h
  | 3, h => cases h
  | 4, h => cases h
  | i + 5, h => simp at h
theorem only0 {t : T} {i : Nat} {r : RV} (h : ([some (.val t), none, none, none, none] : En)[i]? = some (some r)) : i = 0 := by
  match i, h with
  | 0, _ => rfl
  | 1, h => cases h
  | 2, h => cases h
  | 3, h => cases h
  | 4, h => cases h
  | i + 5, h => simp at h
theorem blocks_ok {K : PySem.W.Frag} {mg : Str → Option Value} {W : WX} {keep : List Nat} {D : Ends} {σ : L2.St} {H : Hp} (hkp : keep = [0]) (q : tS K mg W keep mBlocks D σ H) : rdBlocks K mg W D σ H := by
  obtain ⟨F, B, e, s, p⟩ := q
  unfold mBlocks at p
  split at p
  case h_2 => exact p.elim
  rename_i ts
  split at p
  case h_2 => exact p.elim
  rename_i ns hns
  by_cases hlen : ns.length ≤ 1000
  case neg => rw [if_neg hlen] at p; exact p.elim
  rw [if_pos hlen] at p
  have ets := intsL_ok hns
  subst ets
  have hln := s.ln
  simp only [List.length_cons, List.length_nil] at hln
  generalize he0 : ([some (.val (.tuple (ns.map .int))), none, none, none, none] : En) = e0 at *
  have no0 : NoOwn e0 := by rw [← he0]; exact noOwn0
  have on0 : ∀ {i : Nat} {r : RV}, e0[i]? = some (some r) → i = 0 := by rw [← he0]; exact only0
  have len0 : e0.length = 5 := by rw [← he0]; rfl
  intro Da hDa
  have fD : F Da = none := s.fh.back hDa
  have bD : B Da = none := s.bh.back hDa
  -- the list that is gone through
  refine ⟨upd F Da (.dK []), B, e0, (sta_fresh (o := .dK []) hDa s).move no0 (fun i r h => ⟨h, ?_⟩) (by rw [len0, List.length_set]; omega) ((sta_fresh (o := .dK []) hDa s).fh) ((sta_fresh (o := .dK []) hDa s).bh), ?_⟩
  · rw [on0 h, List.getElem?_set_ne (by decide)]
  rw [show mEnum (mCons (mVar 0) mNil) e0 = .ok (enumT 0 (ns.map .int)) e0 by rw [← he0]; rfl]
  intro B1 H1 s1 g1 J tw
  obtain ⟨g1', bD1⟩ := grow_off fD bD g1
  let Inv1 : Nat → L2.St → Hp → Prop := fun i σ' H' => i ≤ ns.length ∧ ∃ (B2 : Hp) (gs : List (Key × V)) (bs : List Addr), Sta K F B2 H' σ' e0 ∧ σ'.length = σ.length ∧ σ'[0]? = σ[0]? ∧ σ'[1]? = some (some (.ref Da)) ∧ H' Da = some (.dK gs) ∧ GR H' F B2 Da gs (grpTo ns i) bs ∧ Ex B1 B2 ∧ Grow F B B2 ∧ B2 Da = none
  refine ⟨fun i m σ' H' => m = ns.length - i ∧ Inv1 i σ' H', ⟨ns.length, rfl, Nat.zero_le _, B1, [], [], sta_loose fD s1, by rw [List.length_set], by rw [List.getElem?_set_ne (by decide)], List.getElem?_set_self (by omega), s1.fh Da _ upd_same, True.intro, Ex.refl _, g1', bD1⟩, ?_⟩
  rintro i m σ' H' ⟨rfl, hi, B2, gs, bs, s2, hl2, h02, h12, hD2, hG, x12, g2, bD2⟩
  have hgl := hG.len
  have hgl2 := grpTo_len ns i
  by_cases hlt : i < ns.length
  · refine .inr ⟨tw.goes i H' (by rw [enumT_len, List.length_map]; exact hlt) (x12.trans s2.bh), Inv1 (i + 1), fun σ'' H'' h => ⟨ns.length - (i + 1), by omega, rfl, h⟩, fun x H3 y => ?_⟩
    have hn : ns[i]? = some (ns.getD i 0) := by rw [List.getElem?_eq_getElem hlt, List.getD_eq_getElem?_getD, List.getElem?_eq_getElem hlt]; rfl
    have ht : (enumT 0 (ns.map .int))[i]? = some (pair (.int ((i : Nat) : Int)) (.int (ns.getD i 0))) := by
      rw [enumT_at, List.getElem?_map, hn]
      simp
    obtain ⟨B3, n3, d3⟩ := tw.yields i H' B2 x H3 _ ht x12 s2.bh y
    have s3 := s2.news n3
    have g3 := n3.grow s2.fh
    have bD3 : B3 Da = none := by
      cases h : B3 Da with
      | none => rfl
      | some o =>
        have := n3.new Da bD2 (by rw [h]; exact fun z => nomatch z)
        rw [hD2] at this
        cases this
    have hD3 : H3 Da = some (.dK gs) := n3.hh _ _ hD2
    have hG3 : GR H3 F B3 Da gs (grpTo ns i) bs := hG.keep (fun b _ o ho => n3.hh _ _ ho) fun b _ o ho hb => by
      cases h : B3 b with
      | none => rfl
      | some u =>
        have := n3.new b hb (by rw [h]; exact fun z => nomatch z)
        rw [ho] at this
        cases this
    refine ⟨F, B3, e0, pair (.int ((i : Nat) : Int)) (.int (ns.getD i 0)), (e0.set 2 (some (.val (.int ((i : Nat) : Int))))).set 3 (some (.val (.int (ns.getD i 0)))), s3, d3, rfl, fun σ2 s4 o4 => ?_⟩
    obtain ⟨v2, q2, r2⟩ := s4.ent 2 (.val (.int ((i : Nat) : Int))) (by rw [← he0]; rfl)
    obtain ⟨v3, q3, r3⟩ := s4.ent 3 (.val (.int (ns.getD i 0))) (by rw [← he0]; rfl)
    cases r2
    cases r3
    have q0 : σ2[0]? = σ[0]? := by rw [o4.2 0 (by decide)]; exact h02
    have q1 : σ2[1]? = some (some (.ref Da)) := by rw [o4.2 1 (by decide)]; exact h12
    have ql : σ2.length = σ.length := by rw [o4.1]; exact hl2
    have s5 : ∀ {Hx : Hp}, Ex F Hx → Ex B3 Hx → Sta K F B3 Hx σ2 e0 := fun {Hx} a b => s3.move no0 (fun j r h => ⟨h, by rw [on0 h, q0, h02]⟩) (by rw [len0, ql]; omega) a b
    refine ⟨.ref Da, q1, Da, rfl, .inl ⟨gs, .inl hD3⟩, .int (ns.getD i 0), q3, Nat.zero_le _, fun p hp => ?_⟩
    have hDp : Da ≠ p := ne_of_none hD3 hp
    have fp : F p = none := s3.fh.back hp
    have bp : B3 p = none := s3.bh.back hp
    have hpb : p ∉ bs := fun z => by
      obtain ⟨o, ho, _⟩ := hG3.held p z
      rw [hp] at ho
      cases ho
    refine ⟨gs, .inl (ns.getD i 0), by rw [upd_ne hDp]; exact hD3, rfl, Nat.lt_of_lt_of_le (by omega : gs.length < 2000) (by decide), fun v hv => ?_, fun hv => ?_⟩
    · obtain ⟨b, ps, rfl, hb, ⟨j, hj⟩, hHb, hnew⟩ := hG3.hit (p := ((i : Nat) : Int)) hv
      obtain ⟨o, ho, fb, bb, hbD⟩ := hG3.held b hb
      have hbp : b ≠ p := fun z => hpb (z ▸ hb)
      have hHb' : upd H3 p (.lst []) b = some (.lst (ps.map V.int)) := by rw [upd_ne hbp]; exact hHb
      have hpl := grpTo_most ns i _ hj
      refine ⟨.inl ⟨rfl, _, .inl (.inl hHb')⟩, .int ((i : Nat) : Int), q2, b, ps.map V.int, _, rfl, rfl, hHb', ?_, ?_⟩
      · rw [List.length_map]
        simp only at hpl
        exact Nat.lt_of_lt_of_le (by omega : ps.length < 2000) (by decide)
      · refine ⟨hlt, B3, gs, bs, s5 ((s3.fh.put fp).put fb) ((s3.bh.put bp).put bb), ql, q0, q1, ?_, ?_, x12.trans n3.ex, g2.trans g3, bD3⟩
        · rw [upd_ne hbD.symm, upd_ne hDp]
          exact hD3
        · refine hnew _ upd_same fun c hc hne o ho => ?_
          have hcp : c ≠ p := fun z => hpb (z ▸ hc)
          rw [upd_ne hne, upd_ne hcp]
          exact ho
    · have hz : upd (upd H3 p (.lst [])) Da (.dK (putK gs (.inl (ns.getD i 0)) (.ref p))) p = some (.lst []) := by rw [upd_ne hDp.symm, upd_same]
      refine ⟨.inl ⟨rfl, _, .inl (.inl hz)⟩, .int ((i : Nat) : Int), q2, p, [], _, rfl, rfl, hz, by decide, ?_⟩
      refine ⟨hlt, B3, gs ++ [(.inl (ns.getD i 0), .ref p)], bs ++ [p], s5 (((s3.fh.put fp).put fD).put fp) (((s3.bh.put bp).put bD3).put bp), ql, q0, q1, ?_, ?_, x12.trans n3.ex, g2.trans g3, bD3⟩
      · rw [upd_ne hDp, upd_same, putK_new _ hv]
      · have hk : GR (upd (upd (upd H3 p (.lst [])) Da (.dK (putK gs (.inl (ns.getD i 0)) (.ref p)))) p (.lst ([] ++ [V.int ((i : Nat) : Int)]))) F B3 Da gs (grpTo ns i) bs := hG3.keep (fun c hc o ho => by
          obtain ⟨u, _, _, _, hcD⟩ := hG3.held c hc
          have hcp : c ≠ p := fun z => hpb (z ▸ hc)
          rw [upd_ne hcp, upd_ne hcD, upd_ne hcp]
          exact ho) (fun _ _ _ _ z => z)
        exact hk.miss hv upd_same fp bp hDp.symm hpb
  · have ei : i = ns.length := by omega
    subst ei
    refine .inl ⟨?_, ?_⟩
    · have := tw.stops H' (x12.trans s2.bh)
      rw [enumT_len, List.length_map] at this
      exact this
    -- the answer
    refine ⟨Da, .dK gs, hD2, True.intro, fun od => ?_⟩
    refine ⟨.ref Da, h12, Da, od, gs, rfl, upd_same, fun L hL => ?_⟩
    have hLD : L ≠ Da := fun z => by rw [z, upd_same] at hL; cases hL
    have hL' : H' L = none := by rw [upd_ne hLD] at hL; exact hL
    have fL : F L = none := s2.fh.back hL'
    have bL : B2 L = none := s2.bh.back hL'
    have hLb : L ∉ bs := fun z => by
      obtain ⟨o, ho, _⟩ := hG.held L z
      rw [hL'] at ho
      cases ho
    let Inv2 : Nat → Hp → Prop := fun j H'' => j ≤ gs.length ∧ ∃ (B3 : Hp) (vs : List V), H'' L = some (.lst vs) ∧ DqAll K B3 vs (((grpTo ns ns.length).take j).map fun g => .tuple (g.2.map .int)) ∧ Sta K F B3 H'' σ' e0 ∧ Grow F B B3 ∧ Ex B2 B3 ∧ H'' Da = some (.frz od (.dK gs)) ∧ GR H'' F B3 Da gs (grpTo ns ns.length) bs ∧ B3 L = none ∧ B3 Da = none
    refine ⟨fun j m H'' => m = gs.length - j ∧ Inv2 j H'', ⟨gs.length, rfl, Nat.zero_le _, B2, [], upd_same, .nil, s2.move no0 (fun j r h => ⟨h, rfl⟩) (by rw [len0, hl2]; omega) ((s2.fh.put fD).put fL) ((s2.bh.put bD2).put bL), g2, Ex.refl _, by rw [upd_ne hLD.symm, upd_same], ?_, bL, bD2⟩, ?_⟩
    · refine hG.keep (fun c hc o ho => ?_) fun _ _ _ _ z => z
      obtain ⟨u, _, _, _, hcD⟩ := hG.held c hc
      have hcL : c ≠ L := fun z => hLb (z ▸ hc)
      rw [upd_ne hcL, upd_ne hcD]
      exact ho
    rintro j m H2 ⟨rfl, hj, B3, vs, hvL, hvd, s3, g3, x23, hDz, hG3, bL3, bD3⟩
    have hvl := hvd.len
    by_cases hjl : j < gs.length
    · refine .inr ⟨⟨hDz, hjl⟩, Inv2 (j + 1), fun H'' h => ⟨gs.length - (j + 1), by omega, rfl, h⟩, fun x H3 y => ?_⟩
      obtain ⟨rfl, k, hk⟩ := y
      obtain ⟨g, b, hga, rfl, hHb⟩ := hG3.at hk
      refine ⟨?_, ?_⟩
      · exact wipe_off ⟨by rw [List.length_set, wipe_length], fun c hc => by rw [List.getElem?_set_ne (by intro z; exact hc (by rw [z]; exact List.mem_singleton_self _))]⟩ |>.trans wipe_wipe
      · refine ⟨.ref b, List.getElem?_set_self (by rw [wipe_length, hl2]; omega), b, g.2.map V.int, rfl, .inl ⟨.inl (.inl hHb), fun l o hl ho => ?_⟩⟩
        obtain ⟨s4, g4, r4⟩ := (NewOk.tup s3.bh hl ho (dq_ints g.2)).rv s3
        have hlL : L ≠ l := ne_of_none hvL hl
        have hlD : Da ≠ l := ne_of_none hDz hl
        have hb4 : ∀ c, c ≠ l → B3 c = none → upd B3 l (.frz o (.tup (g.2.map V.int))) c = none := fun c hc h => by rw [upd_ne hc]; exact h
        refine ⟨vs, by rw [upd_ne hlL]; exact hvL, ?_, hjl, upd B3 l (.frz o (.tup (g.2.map V.int))), vs ++ [.ref l], upd_same, ?_, ?_, g3.trans g4, x23.trans g4.ex, ?_, ?_, hb4 L hlL bL3, hb4 Da hlD bD3⟩
        · rw [hvl, List.length_map]
          have := List.length_take_le j (grpTo ns ns.length)
          have := grpTo_len ns ns.length
          exact Nat.lt_of_lt_of_le (by omega : _ < 2000) (by decide)
        · rw [List.take_add_one, hga, List.map_append]
          exact (dqs_ex g4.ex _ _ hvd).app (.one r4.1)
        · exact s4.move no0 (fun c r h => ⟨h, rfl⟩) (by rw [len0, hl2]; omega) (s4.fh.put fL) (s4.bh.put (hb4 L hlL bL3))
        · rw [upd_ne hLD.symm, upd_ne hlD]
          exact hDz
        · refine hG3.keep (fun c hc u hu => ?_) fun c hc u hu h => hb4 c (ne_of_none hu hl) h
          have hcL : c ≠ L := fun z => hLb (z ▸ hc)
          rw [upd_ne hcL, upd_ne (ne_of_none hu hl)]
          exact hu
    · have ej : j = gs.length := by omega
      subst ej
      refine .inl ⟨⟨hDz, Nat.le_refl _⟩, hDz, ?_⟩
      refine ⟨L, vs, rfl, .inl ⟨.inl (.inl (by rw [upd_ne hLD]; exact hvL)), fun l o hl ho => ?_⟩⟩
      have s4 : Sta K F B3 (upd H2 Da (.dK gs)) σ' e0 := s3.move no0 (fun c r h => ⟨h, rfl⟩) (by rw [len0, hl2]; omega) (s3.fh.put fD) (s3.bh.put bD3)
      obtain ⟨s5, g5, r5⟩ := (NewOk.tup s4.bh hl ho hvd).rv s4
      rw [hgl, List.take_length] at r5
      refine p σ' _ _ _ s5 (g3.trans g5) (fun c hc => ?_) r5
      rw [hkp, List.mem_singleton] at hc
      rw [hc]
      exact h02
end TL
end
section
set_option Elab.async false
set_option linter.all false
set_option autoImplicit false
set_option maxRecDepth 100000
set_option maxHeartbeats 1000000
namespace TL
open PySem PySem.Spec PyProof.Rows L2
/-! ### a dict of numbers -/
def dput (k v : Int) (acc : List (Int × Int)) : List (Int × Int) :=
  if (acc.any fun p => decide (p.1 = k)) = true then acc.map (fun p => if p.1 = k then (p.1, v) else p) else acc ++ [(k, v)]
def dget (k : Int) (acc : List (Int × Int)) : Option Int := (acc.find? fun p => decide (p.1 = k)).map (·.2)
def dk (acc : List (Int × Int)) : List (Key × V) := acc.map fun p => (Sum.inl p.1, V.int p.2)
theorem dk_any (k : Int) : ∀ acc : List (Int × Int), ((dk acc).any fun kv => decide (kv.1 = (Sum.inl k : Key))) = acc.any fun p => decide (p.1 = k)
  | [] => rfl
  | p :: acc => by
    show (decide ((Sum.inl p.1 : Key) = .inl k) || (dk acc).any _) = _
    rw [dk_any k acc, List.any_cons]
    congr 1
    by_cases h : p.1 = k
    · rw [h]; simp
    · rw [decide_eq_false h, decide_eq_false]
      intro z
      cases z
      exact h rfl
theorem dk_put (k v : Int) (acc : List (Int × Int)) : putK (dk acc) (.inl k) (.int v) = dk (dput k v acc) := by
  unfold putK dput
  rw [dk_any]
  split
  · unfold dk
    rw [List.map_map, List.map_map]
    refine List.map_congr_left fun p _ => ?_
    show (if (Sum.inl p.1 : Key) = .inl k then ((Sum.inl p.1 : Key), V.int v) else (Sum.inl p.1, V.int p.2)) = _
    by_cases h : p.1 = k
    · rw [if_pos (by rw [h])]
      show _ = ((Sum.inl (if p.1 = k then (p.1, v) else p).1 : Key), V.int (if p.1 = k then (p.1, v) else p).2)
      rw [if_pos h]
    · rw [if_neg (fun z => h (by cases z; rfl))]
      show _ = ((Sum.inl (if p.1 = k then (p.1, v) else p).1 : Key), V.int (if p.1 = k then (p.1, v) else p).2)
      rw [if_neg h]
  · unfold dk
    rw [List.map_append]
    rfl
theorem dk_get (k : Int) : ∀ acc : List (Int × Int), valV (dk acc) (.inl k) = (dget k acc).map V.int
  | [] => rfl
  | p :: acc => by
    by_cases h : p.1 = k
    · show valV ((Sum.inl p.1, V.int p.2) :: dk acc) _ = _
      rw [valV_pos (by rw [h])]
      simp [dget, List.find?_cons, h]
    · show valV ((Sum.inl p.1, V.int p.2) :: dk acc) _ = _
      rw [valV_neg (fun z => h (by cases z; rfl)), dk_get k acc]
      simp [dget, List.find?_cons, h]
theorem dput_len (k v : Int) (acc : List (Int × Int)) : (dput k v acc).length ≤ acc.length + 1 := by
  unfold dput
  split
  · rw [List.length_map]; omega
  · simp
/-- each place of a lot gets the lot's first -/
def lotD (v : Int) : List Int → List (Int × Int) → List (Int × Int)
  | [], acc => acc
  | p :: ps, acc => lotD v ps (dput p v acc)
def leastD : List (List Int) → List (Int × Int) → List (Int × Int)
  | [], acc => acc
  | l :: ls, acc => leastD ls (lotD (l.headD 0) l acc)
theorem lotD_len (v : Int) : ∀ (ps : List Int) (acc : List (Int × Int)), (lotD v ps acc).length ≤ acc.length + ps.length
  | [], acc => Nat.le_refl _
  | p :: ps, acc => by
    have := lotD_len v ps (dput p v acc)
    have := dput_len p v acc
    simp only [lotD, List.length_cons]
    omega
theorem lotD_snoc (v p : Int) : ∀ (ps : List Int) (acc : List (Int × Int)), lotD v (ps ++ [p]) acc = dput p v (lotD v ps acc)
  | [], acc => rfl
  | q :: ps, acc => lotD_snoc v p ps (dput q v acc)
theorem leastD_snoc (l : List Int) : ∀ (ls : List (List Int)) (acc : List (Int × Int)), leastD (ls ++ [l]) acc = lotD (l.headD 0) l (leastD ls acc)
  | [], acc => rfl
  | m :: ls, acc => leastD_snoc l ls (lotD (m.headD 0) m acc)
theorem leastD_len : ∀ (ls : List (List Int)) (acc : List (Int × Int)), (leastD ls acc).length ≤ acc.length + ls.flatten.length
  | [], acc => by simp [leastD]
  | l :: ls, acc => by
    have := leastD_len ls (lotD (l.headD 0) l acc)
    have := lotD_len (l.headD 0) l acc
    simp only [leastD, List.flatten_cons, List.length_append]
    omega
def intsLL : List T → Option (List (List Int))
  | [] => some []
  | .tuple ts :: r => match intsL ts, intsLL r with
    | some l, some ls => some (l :: ls)
    | _, _ => none
  | _ => none
theorem intsLL_ok : ∀ {ts : List T} {ls : List (List Int)}, intsLL ts = some ls → ts = ls.map fun l => .tuple (l.map .int)
  | [], _, h => by cases h; rfl
  | t :: ts, ls, h => by
    cases t with
    | tuple us =>
      have h' : (match intsL us, intsLL ts with
        | some l, some ls => some (l :: ls)
        | _, _ => none) = some ls := h
      cases q : intsL us with
      | none => rw [q] at h'; cases h'
      | some l =>
        cases q2 : intsLL ts with
        | none => rw [q, q2] at h'; cases h'
        | some r =>
          rw [q, q2] at h'
          cases h'
          rw [List.map_cons, intsL_ok q, intsLL_ok q2]
    | _ => cases h
theorem intsLL_map : ∀ ls : List (List Int), intsLL (ls.map fun l => PyData.tuple (l.map .int)) = some ls
  | [] => rfl
  | l :: ls => by
    show (match intsL (l.map .int), intsLL (ls.map fun l => PyData.tuple (l.map .int)) with
      | some l, some ls => some (l :: ls)
      | _, _ => none) = _
    rw [intsL_map, intsLL_map ls]
def mJoin : Ms := fun e => match e with
  | [some (.val (.int m)), some (.val (.tuple ts)), none, none, none] => match intsLL ts with
    | some ls => if 0 ≤ m ∧ m ≤ 1000 ∧ ls.flatten.length ≤ 1000 ∧ ((List.range m.toNat).all fun p => (dget (p : Nat) (leastD ls [])).isSome) = true then
        .ok (.rt (.val (.tuple ((List.range m.toNat).map fun p => .int ((dget (p : Nat) (leastD ls [])).getD 0))))) e else .bad
    | none => .bad
  | _ => .bad
section
variable (K : PySem.W.Frag) (mg : Str → Option Value) (W : WX)
def rdJoin : TS := tSeq (tAsg (tDc2 (tI K mg W (mSeq1 (mVar 1))) (tG K [3] (gN 3)) tYes (tI K mg W0 (mSeq1 (mVar 3))) (gName 4) tYes (tVar 4) (tT K mg W0 (mIxV 3 (mC (.int 0)))) [3, 4] [4]) (gName 2))
  (tRet (tCB (rTupX K) (L2.tCons (tLc (tI K mg W (mRng (mCons (mVar 0) mNil))) (gName 4) tYes (tDGet (tVar 2) (tVar 4)) [4]) L2.tNil)))
end
theorem noOwn2 {t u : T} : NoOwn [some (.val t), some (.val u), none, none, none] := fun i us h => by
  match i, h with
  | 0, h => cases h
  | 1, h => cases h
  | 2, h => cases h
  | 3, h => cases h
  | 4, h => cases h
  | i + 5, h => simp at h
theorem only2 {t u : T} {i : Nat} {r : RV} (h : ([some (.val t), some (.val u), none, none, none] : En)[i]? = some (some r)) : i = 0 ∨ i = 1 := by
  match i, h with
  | 0, _ => exact .inl rfl
  | 1, _ => exact .inr rfl
  | 2, h => cases h
  | 3, h => cases h
  | 4, h => cases h
  | i + 5, h => simp at h
theorem News.still {B H B' H' : Hp} {a : Addr} {o : HO} (n : News B H B' H') (hb : B a = none) (ho : H a = some o) : B' a = none := by
  cases h : B' a with
  | none => rfl
  | some u =>
    have := n.new a hb (by rw [h]; exact fun z => nomatch z)
    rw [ho] at this
    cases this
theorem join_ok {K : PySem.W.Frag} {mg : Str → Option Value} {W : WX} {keep : List Nat} {E : Ends} {σ : L2.St} {H : Hp} (hkp : keep = [0, 1]) (q : tS K mg W keep mJoin E σ H) : rdJoin K mg W E σ H := by
  obtain ⟨F, B, e, s, p⟩ := q
  unfold mJoin at p
  split at p
  case h_2 => exact p.elim
  rename_i m ts
  split at p
  case h_2 => exact p.elim
  rename_i ls hls
  split at p
  case isFalse => exact p.elim
  rename_i hz
  obtain ⟨hm0, hm1, hfl, hall⟩ := hz
  have ets := intsLL_ok hls
  subst ets
  have hln := s.ln
  simp only [List.length_cons, List.length_nil] at hln
  generalize he0 : ([some (.val (.int m)), some (.val (.tuple (ls.map fun l => .tuple (l.map .int)))), none, none, none] : En) = e0 at *
  have no0 : NoOwn e0 := by rw [← he0]; exact noOwn2
  have on0 : ∀ {i : Nat} {r : RV}, e0[i]? = some (some r) → i = 0 ∨ i = 1 := by rw [← he0]; exact only2
  have len0 : e0.length = 5 := by rw [← he0]; rfl
  -- the lots that are gone through
  refine ⟨F, B, e0, s, ?_⟩
  rw [show mSeq1 (mVar 1) e0 = .ok (ls.map fun l => .tuple (l.map .int)) e0 by rw [← he0]; rfl]
  intro B1 H1 s1 g1 J tw D hD
  have fD : F D = none := s1.fh.back hD
  have bD1 : B1 D = none := s1.bh.back hD
  have same : ∀ {σ' : L2.St}, σ'[0]? = σ[0]? → σ'[1]? = σ[1]? → ∀ (i : Nat) (r : RV), e0[i]? = some (some r) → σ'[i]? = σ[i]? := fun h0 h1 i r h => by
    rcases on0 h with rfl | rfl
    · exact h0
    · exact h1
  have w0 : ∀ {τ : L2.St} {vs : List Nat}, (0 : Nat) ∉ vs → (wipe τ vs)[0]? = τ[0]? := fun h => wipe_get h
  let Inv0 : Nat → Hp → Prop := fun i H' => i ≤ ls.length ∧ ∃ B2, Sta K F B2 H' σ e0 ∧ Grow F B B2 ∧ Ex B1 B2 ∧ B2 D = none ∧ H' D = some (.dK (dk (leastD (ls.take i) [])))
  refine ⟨fun i k H' => k = ls.length - i ∧ Inv0 i H', ⟨ls.length, rfl, Nat.zero_le _, B1, s1.move no0 (fun j r h => ⟨h, rfl⟩) (by rw [len0]; omega) (s1.fh.put fD) (s1.bh.put bD1), g1, Ex.refl _, bD1, by rw [upd_same]; rfl⟩, ?_⟩
  rintro i k H2 ⟨rfl, hi, B2, s2, g2, x12, bD2, hD2⟩
  by_cases hlt : i < ls.length
  · refine .inr ⟨tw.goes i H2 (by rw [List.length_map]; exact hlt) (x12.trans s2.bh), Inv0 (i + 1), fun H'' h => ⟨ls.length - (i + 1), by omega, rfl, h⟩, fun x H3 y => ?_⟩
    have hl : ls[i]? = some ls[i] := List.getElem?_eq_getElem hlt
    generalize hlg : ls[i] = l at hl
    have ht : (ls.map fun l => PyData.tuple (l.map .int))[i]? = some (.tuple (l.map .int)) := by rw [List.getElem?_map, hl]; rfl
    obtain ⟨B3, n3, d3⟩ := tw.yields i H2 B2 x H3 _ ht x12 s2.bh y
    have s3 := s2.news n3
    have g3 := n3.grow s2.fh
    have bD3 := n3.still bD2 hD2
    have hD3 := n3.hh _ _ hD2
    have htake : ls.take (i + 1) = ls.take i ++ [l] := by rw [List.take_add_one, hl]; rfl
    have hacc : (leastD (ls.take i) []).length + l.length ≤ 1000 := by
      have := leastD_len (ls.take i) []
      have h2 : (ls.take (i + 1)).flatten.length ≤ ls.flatten.length := by
        have := congrArg (fun z => z.flatten.length) (List.take_append_drop (i + 1) ls)
        simp only [List.flatten_append, List.length_append] at this
        omega
      rw [htake, List.flatten_append, List.length_append] at h2
      have h3 : ([l] : List (List Int)).flatten.length = l.length := by simp
      have h4 : ([] : List (Int × Int)).length = 0 := rfl
      omega
    -- the lot stored
    refine ⟨upd F D (.dK (dk (leastD (ls.take i) []))), B3, e0, .tuple (l.map .int), e0.set 3 (some (.val (.tuple (l.map .int)))), ?_, d3, rfl, fun σ2 s4 o4 => ?_⟩
    · refine s3.move (σ' := wipe σ [3, 4]) no0 (fun j r h => ⟨h, ?_⟩) (by rw [len0, wipe_length]; omega) (fun a o h => ?_) s3.bh
      · rcases on0 h with rfl | rfl
        · exact wipe_get (vs := [3, 4]) (by decide)
        · exact wipe_get (vs := [3, 4]) (by decide)
      · by_cases ha : a = D
        · subst ha
          rw [upd_same] at h
          cases h
          exact hD3
        · rw [upd_ne ha] at h
          exact s3.fh a o h
    have o0 : σ2[0]? = σ[0]? := by exact (o4.2 0 (by decide)).trans (wipe_get (vs := [3, 4]) (by decide))
    have o1 : σ2[1]? = σ[1]? := by exact (o4.2 1 (by decide)).trans (wipe_get (vs := [3, 4]) (by decide))
    have ol : σ2.length = σ.length := by rw [o4.1, wipe_length]
    refine ⟨(wipe_off (vs := [3, 4]) (o4.mono (by decide))).trans wipe_wipe, ?_⟩
    -- its places
    let e3 : En := e0.set 3 (some (.val (.tuple (l.map .int))))
    have e3g : ∀ {j : Nat} {r : RV}, e3[j]? = some (some r) → (j = 3 ∧ r = .val (.tuple (l.map .int))) ∨ e0[j]? = some (some r) := fun {j r} h => by
      by_cases hj : 3 = j
      · subst hj
        rw [List.getElem?_set_self (by rw [len0]; decide)] at h
        cases h
        exact .inl ⟨rfl, rfl⟩
      · rw [List.getElem?_set_ne hj] at h
        exact .inr h
    have no3 : NoOwn e3 := fun j us h => by
      rcases e3g h with ⟨_, z⟩ | z
      · cases z
      · exact no0 j us z
    have len3 : e3.length = 5 := by rw [List.length_set]; exact len0
    refine ⟨upd F D (.dK (dk (leastD (ls.take i) []))), B3, e3, s4, ?_⟩
    rw [show mSeq1 (mVar 3) e3 = .ok (l.map .int) e3 by simp only [e3, ← he0]; rfl]
    intro B4 H4 s5 g4 J1 tw1
    obtain ⟨g4', bD4⟩ := grow_off fD bD3 g4
    let Inv1 : Nat → Hp → Prop := fun j H' => j ≤ l.length ∧ ∃ B5, Sta K F B5 H' σ2 e3 ∧ Grow F B B5 ∧ Ex B4 B5 ∧ B5 D = none ∧ H' D = some (.dK (dk (lotD (l.headD 0) (l.take j) (leastD (ls.take i) []))))
    refine ⟨fun j k H' => k = l.length - j ∧ Inv1 j H', ⟨l.length, rfl, Nat.zero_le _, B4, sta_loose fD s5, (g2.trans g3).trans g4', Ex.refl _, bD4, s5.fh D _ upd_same⟩, ?_⟩
    rintro j k H5 ⟨rfl, hj, B5, s6, g5, x45, bD5, hD5⟩
    by_cases hjl : j < l.length
    · refine .inr ⟨tw1.goes j H5 (by rw [List.length_map]; exact hjl) (x45.trans s6.bh), Inv1 (j + 1), fun H'' h => ⟨l.length - (j + 1), by omega, rfl, h⟩, fun x1 H6 y1 => ?_⟩
      have hp : l[j]? = some l[j] := List.getElem?_eq_getElem hjl
      generalize hpg : l[j] = pl at hp
      have ht1 : (l.map PyData.int)[j]? = some (.int pl) := by rw [List.getElem?_map, hp]; rfl
      obtain ⟨B6, n6, d6⟩ := tw1.yields j H5 B5 x1 H6 _ ht1 x45 s6.bh y1
      cases d6
      have s7 := s6.news n6
      have bD6 := n6.still bD5 hD5
      have hD6 := n6.hh _ _ hD5
      have hl4 : (wipe σ2 [4]).length = σ.length := by rw [wipe_length]; exact ol
      refine ⟨?_, .int pl, List.getElem?_set_self (by omega), ?_⟩
      · exact (wipe_off (⟨by rw [List.length_set, wipe_length], fun c hc => by rw [List.getElem?_set_ne (by intro z; exact hc (by rw [z]; exact List.mem_singleton_self _)), wipe_get hc]⟩))
      -- the lot's first
      have hh : l ≠ [] := fun z => by rw [z] at hjl; simp at hjl
      have hv : mIxV 3 (mC (.int 0)) e3 = .ok (.int (l.headD 0)) e3 := by
        have ha : atI (l.map PyData.int) 0 = some (.int (l.headD 0)) := by
          match l, hh with
          | z :: zs, _ => simp [atI, ixN]
        have h3 : e3[3]? = some (some (.val (.tuple (l.map .int)))) := List.getElem?_set_self (by rw [len0]; decide)
        simp only [mIxV, h3, mC, Res.bind, peek, items, ha]
      have s8 : Sta K (upd F D (.dK (dk (lotD (l.headD 0) (l.take j) (leastD (ls.take i) []))))) B6 H6 ((wipe σ2 [4]).set 4 (some (.int pl))) e3 := by
        refine s7.move no3 (fun c r h => ⟨h, ?_⟩) (by rw [len3, List.length_set, hl4]; omega) (fun a o h => ?_) s7.bh
        · have hc4 : c ≠ 4 := fun z => by
            subst z
            rcases e3g h with ⟨z, _⟩ | z
            · cases z
            · rcases on0 z with z | z <;> cases z
          rw [List.getElem?_set_ne (Ne.symm hc4), wipe_get (by simp [hc4])]
        · by_cases ha : a = D
          · subst ha
            rw [upd_same] at h
            cases h
            exact hD6
          · rw [upd_ne ha] at h
            exact s7.fh a o h
      refine ⟨_, B6, e3, s8, ?_⟩
      rw [hv]
      intro B7 H7 s9 g7 v d7
      cases d7
      obtain ⟨g7', bD7⟩ := grow_off fD bD6 g7
      have hD7 := s9.fh D _ upd_same
      have hsnoc : l.take (j + 1) = l.take j ++ [pl] := by rw [List.take_add_one, hp]; rfl
      refine ⟨_, .inl pl, rfl, hD7, ?_, hjl, B7, ?_, (g5.trans (n6.grow s6.fh)).trans g7', (x45.trans n6.ex).trans g7'.ex, bD7, ?_⟩
      · have := lotD_len (l.headD 0) (l.take j) (leastD (ls.take i) [])
        have := List.length_take_le j l
        unfold dk
        rw [List.length_map]
        exact Nat.lt_of_lt_of_le (by omega : _ < 2000) (by decide)
      · refine (sta_loose fD s9).move no3 (fun c r h => ⟨h, ?_⟩) (by rw [len3, ol]; omega) ((sta_loose fD s9).fh.put fD) ((sta_loose fD s9).bh.put bD7)
        have hc4 : c ≠ 4 := fun z => by
          subst z
          rcases e3g h with ⟨z, _⟩ | z
          · cases z
          · rcases on0 z with z | z <;> cases z
        rw [List.getElem?_set_ne (Ne.symm hc4), wipe_get (by simp [hc4])]
      · rw [upd_same, dk_put, hsnoc, lotD_snoc]
    · have ej : j = l.length := by omega
      subst ej
      refine .inl ⟨?_, hlt, B5, s6.move no0 (fun c r h => ⟨?_, (same o0 o1 c r h).symm⟩) (by rw [len0]; omega) s6.fh s6.bh, g5, ((x12.trans n3.ex).trans g4'.ex).trans x45, bD5, ?_⟩
      · have := tw1.stops H5 (x45.trans s6.bh)
        rw [List.length_map] at this
        exact this
      · show (e0.set 3 _)[c]? = _
        rw [List.getElem?_set_ne]
        · exact h
        · intro z
          subst z
          rcases on0 h with z | z <;> cases z
      · rw [hD5, htake, leastD_snoc, List.take_length]
  · have ei : i = ls.length := by omega
    subst ei
    refine .inl ⟨?_, ?_⟩
    · have := tw.stops H2 (x12.trans s2.bh)
      rw [List.length_map] at this
      exact this
    rw [List.take_length] at hD2
    generalize hacc : leastD ls [] = acc at *
    -- the answer
    have l2 : (σ.set 2 (some (.ref D))).length = σ.length := List.length_set
    have mv : ∀ {Bx Hx : Hp}, Sta K F Bx Hx σ e0 → ∀ {Fy Hy : Hp}, Ex Fy Hy → Ex Bx Hy → Sta K Fy Bx Hy (σ.set 2 (some (.ref D))) e0 := fun {Bx Hx} s {Fy Hy} a b => by
      refine ⟨a, b, fun i r h => ?_, by rw [len0, l2]; omega, fun i j v ts us h => absurd h (no0 i ts)⟩
      obtain ⟨v, h3, h4⟩ := s.ent i r h
      refine ⟨v, ?_, ?_⟩
      · rcases on0 h with rfl | rfl <;> (rw [List.getElem?_set_ne (by decide)]; exact h3)
      · cases r with
        | val t => exact h4
        | own us => exact absurd h (no0 i us)
    have fD' : Ex (upd F D (.dK (dk acc))) H2 := fun a o h => by
      by_cases ha : a = D
      · subst ha
        rw [upd_same] at h
        cases h
        exact hD2
      · rw [upd_ne ha] at h
        exact s2.fh a o h
    refine ⟨upd F D (.dK (dk acc)), B2, e0, mv s2 fD' s2.bh, ?_⟩
    rw [show mRng (mCons (mVar 0) mNil) e0 = .ok (rngT 0 m.toNat) e0 by
      rw [← he0]
      show (if m ≤ 100000 ∧ -100000 ≤ m then Res.ok (rngT 0 m.toNat) _ else .bad) = _
      rw [if_pos (by omega)]]
    intro B3 H3 s3 g3 J2 tw2 L hL
    obtain ⟨g3', bD3⟩ := grow_off fD bD2 g3
    have hD3 := s3.fh D _ upd_same
    have s3' := sta_loose fD s3
    have fL : F L = none := s3'.fh.back hL
    have bL : B3 L = none := s3'.bh.back hL
    have hLD : L ≠ D := fun z => by rw [z, hD3] at hL; cases hL
    have hσ2 : (σ.set 2 (some (.ref D)))[2]? = some (some (.ref D)) := List.getElem?_set_self (by omega)
    let Inv2 : Nat → Hp → Prop := fun j H' => j ≤ m.toNat ∧ ∃ B4, Sta K F B4 H' (σ.set 2 (some (.ref D))) e0 ∧ Grow F B B4 ∧ Ex B3 B4 ∧ B4 D = none ∧ B4 L = none ∧ H' D = some (.dK (dk acc)) ∧ H' L = some (.lst ((List.range j).map fun p => V.int ((dget (p : Nat) acc).getD 0)))
    have rl : (rngT 0 m.toNat).length = m.toNat := by unfold rngT; simp
    refine ⟨fun j k H' => k = m.toNat - j ∧ Inv2 j H', ⟨m.toNat, rfl, Nat.zero_le _, B3, s3'.move no0 (fun j r h => ⟨h, rfl⟩) (by rw [len0, l2]; omega) (s3'.fh.put fL) (s3'.bh.put bL), g2.trans g3', Ex.refl _, bD3, bL, by rw [upd_ne hLD.symm]; exact hD3, upd_same⟩, ?_⟩
    rintro j k H4 ⟨rfl, hj, B4, s4, g4, x34, bD4, bL4, hD4, hL4⟩
    by_cases hjl : j < m.toNat
    · refine .inr ⟨tw2.goes j H4 (by rw [rl]; exact hjl) (x34.trans s4.bh), Inv2 (j + 1), fun H'' h => ⟨m.toNat - (j + 1), by omega, rfl, h⟩, fun x H5 y => ?_⟩
      have ht : (rngT 0 m.toNat)[j]? = some (.int (0 + (j : Nat))) := by
        unfold rngT
        rw [List.getElem?_map, List.getElem?_range hjl]
        rfl
      obtain ⟨B5, n5, d5⟩ := tw2.yields j H4 B4 x H5 _ ht x34 s4.bh y
      cases d5
      have s5 := s4.news n5
      have hD5 := n5.hh _ _ hD4
      have hL5 := n5.hh _ _ hL4
      obtain ⟨u, hu⟩ := Option.isSome_iff_exists.mp (List.all_eq_true.mp hall j (List.mem_range.mpr hjl))
      have hw4 : (wipe (σ.set 2 (some (.ref D))) [4])[2]? = some (some (.ref D)) := by rw [wipe_get (by decide)]; exact hσ2
      have hwl : (wipe (σ.set 2 (some (.ref D))) [4]).length = σ.length := by rw [wipe_length, l2]
      refine ⟨(wipe_off (⟨by rw [List.length_set, wipe_length], fun c hc => by rw [List.getElem?_set_ne (by intro z; exact hc (by rw [z]; exact List.mem_singleton_self _)), wipe_get hc]⟩)), ?_⟩
      refine ⟨.ref D, by rw [List.getElem?_set_ne (by decide)]; exact hw4, .int (0 + (j : Nat)), List.getElem?_set_self (by omega), D, .int u, rfl, ?_, ?_⟩
      · have := DGet.k (k := .inl (0 + (j : Nat))) hD5
        rw [dk_get] at this
        rw [show (0 + ((j : Nat) : Int)) = ((j : Nat) : Int) by omega] at this ⊢
        rw [hu] at this
        exact this
      · refine ⟨_, hL5, ?_, hjl, B5, s5.move no0 (fun c r h => ⟨h, rfl⟩) (by rw [len0, l2]; omega) (s5.fh.put fL) (s5.bh.put (n5.still bL4 hL4)), g4.trans (n5.grow s4.fh), x34.trans n5.ex, n5.still bD4 hD4, n5.still bL4 hL4, by rw [upd_ne hLD.symm]; exact hD5, ?_⟩
        · rw [List.length_map, List.length_range]
          exact Nat.lt_of_lt_of_le (by omega : j < 2000) (by decide)
        · rw [upd_same, List.range_succ, List.map_append, List.map_cons, hu]
          rfl
    · have ej : j = m.toNat := by omega
      subst ej
      refine .inl ⟨?_, ?_⟩
      · have := tw2.stops H4 (x34.trans s4.bh)
        rw [rl] at this
        exact this
      refine ⟨L, _, rfl, .inl ⟨.inl (.inl hL4), fun a o ha ho => ?_⟩⟩
      have hd : DqAll K B4 ((List.range m.toNat).map fun p => V.int ((dget (p : Nat) acc).getD 0)) ((List.range m.toNat).map fun p => PyData.int ((dget (p : Nat) acc).getD 0)) := by
        have := dq_ints (K := K) (B := B4) ((List.range m.toNat).map fun p => (dget (p : Nat) acc).getD 0)
        rw [List.map_map, List.map_map] at this
        exact this
      obtain ⟨s6, g6, r6⟩ := (NewOk.tup s4.bh ha ho hd).rv s4
      refine p _ _ _ _ s6 (g4.trans g6) (fun c hc => ?_) r6
      rw [hkp] at hc
      have : c = 0 ∨ c = 1 := by simpa using hc
      rcases this with rfl | rfl <;> exact List.getElem?_set_ne (by decide)
section
variable {X : Cx}
theorem pe_dcc {kx vx a x b y : Expr} {fa fb : List Expr} {sc : Scope} {pos : Pos} {own : List (Str × Nat)} {vs1 : List Nat} {wi wi1 : TI} {g g1 : TG} {tt tt1 : TT} {tk tv : TE} (hc : X.calm = true) (hN : X.N.Nodup) (hi : PI X a x wi) (ok : BlkOk X.N X.env.scope sc own) (hv : (vs1.all fun i => (own.map (·.2)).contains i) = true)
    (hg : InB X sc fun Y => PG Y a g) (ht : InB X sc fun Y => PTs Y fa tt) (hi1 : InB X sc fun Y => PI Y b y wi1) (hg1 : InB X sc fun Y => PG Y b g1) (ht1 : InB X sc fun Y => PTs Y fb tt1)
    (hk : InB X sc fun Y => PE Y kx tk) (he : InB X sc fun Y => PE Y vx tv) (hs : ∀ z, foldedSetIterable x X.env z = pure z := by intro _; rfl) (hs1 : ∀ env z, foldedSetIterable y env z = pure z := by intro _ _; rfl) :
    PE X (.DictComp kx vx [⟨a, x, fa, 0⟩, ⟨b, y, fb, 0⟩] sc pos) (tDc2 wi g tt wi1 g1 tt1 tk tv (own.map (·.2)) vs1) :=
  pe_dc2 (c := ⟨kx, vx, a, x, b, y, fa, fb, sc, pos⟩) hc hN hi ok (fun i hi => List.contains_iff_mem.mp (List.all_eq_true.mp hv i hi)) hg ht hi1 hg1 ht1 hk he hs hs1
end
end TL
end
section
set_option Elab.async false
set_option linter.all false
set_option autoImplicit false
set_option maxRecDepth 100000
/-! What is done with a caught exception doesn't depend on where it stands. -/
namespace TL
open PySem PySem.Spec PyProof.Rows L2
section
variable {n i a dx : Nat} {fs : List (Str × T)}
/-- the same answer, the same environment but for the exception at slot i -/
def RelR (n i a dx : Nat) (fs : List (Str × T)) {α : Type} (r r' : Res α) : Prop := match r, r' with
  | .ok x e, .ok x' e' => x = x' ∧ ∃ d : En, d.length = n ∧ e = d.set i (some (.val (exnT a dx fs))) ∧ e' = d.set i (some (.val (exnT 0 0 fs)))
  | .exc _ _, .exc _ _ => True
  | .bad, .bad => True
  | _, _ => False
def RelM (n i a dx : Nat) (fs : List (Str × T)) {α : Type} (m m' : En → Res α) : Prop := ∀ e : En, e.length = n → RelR n i a dx fs (m (e.set i (some (.val (exnT a dx fs))))) (m' (e.set i (some (.val (exnT 0 0 fs)))))
theorem RelR.ok {α : Type} {x : α} {d : En} (h : d.length = n) : RelR n i a dx fs (.ok x (d.set i (some (.val (exnT a dx fs))))) (.ok x (d.set i (some (.val (exnT 0 0 fs))))) := ⟨rfl, d, h, rfl, rfl⟩
theorem RelR.bind {α β : Type} {r r' : Res α} {f f' : α → En → Res β} (h : RelR n i a dx fs r r') (k : ∀ x, RelM n i a dx fs (f x) (f' x)) : RelR n i a dx fs (r.bind f) (r'.bind f') := by
  cases r with
  | ok x e => cases r' with
    | ok x' e' =>
      obtain ⟨rfl, d, hd, rfl, rfl⟩ := h
      exact k x d hd
    | exc y e' => exact h.elim
    | bad => exact h.elim
  | exc y e => cases r' with
    | ok x' e' => exact h.elim
    | exc y e' => exact True.intro
    | bad => exact h.elim
  | bad => cases r' with
    | ok x' e' => exact h.elim
    | exc y e' => exact h.elim
    | bad => exact True.intro
theorem RelM.bind {α β : Type} {m m' : En → Res α} {f f' : α → En → Res β} (h : RelM n i a dx fs m m') (k : ∀ x, RelM n i a dx fs (f x) (f' x)) : RelM n i a dx fs (fun e => (m e).bind f) (fun e => (m' e).bind f') := fun e he => (h e he).bind k
theorem RelM.pure {α : Type} (x : α) : RelM n i a dx fs (fun e => .ok x e) (fun e => .ok x e) := fun e he => RelR.ok he
theorem RelM.no {α : Type} : RelM n i a dx fs (fun _ => (.bad : Res α)) (fun _ => .bad) := fun e he => True.intro
theorem RelM.opt {z : Option RV} : RelM n i a dx fs (give z) (give z) := fun e he => by
  cases z with
  | none => exact True.intro
  | some r => exact RelR.ok he
theorem RelM.ite {α : Type} {b : Bool} {m m' k k' : En → Res α} (h : RelM n i a dx fs m m') (h2 : RelM n i a dx fs k k') : RelM n i a dx fs (fun e => if b = true then m e else k e) (fun e => if b = true then m' e else k' e) := fun e he => by
  cases b with
  | true => exact h e he
  | false => exact h2 e he
theorem rel_C {t : T} : RelM n i a dx fs (mC t) (mC t) := RelM.pure t
theorem set_comm {e : En} {i j : Nat} {x y : Option RV} (h : j ≠ i) : (e.set i x).set j y = (e.set j y).set i x := List.set_comm _ _ (Ne.symm h)
theorem rel_var {j : Nat} (h : j ≠ i) : RelM n i a dx fs (mVar j) (mVar j) := fun e he => by
  unfold mVar
  rw [List.getElem?_set_ne (Ne.symm h), List.getElem?_set_ne (Ne.symm h)]
  cases e[j]? with
  | none => exact True.intro
  | some o => cases o with
    | none => exact True.intro
    | some r => cases r with
      | val t => exact RelR.ok he
      | own ts =>
        show RelR n i a dx fs (.ok _ ((e.set i _).set j _)) (.ok _ ((e.set i _).set j _))
        rw [set_comm h, set_comm h]
        exact RelR.ok (by rw [List.length_set]; exact he)
theorem exn_at {e : En} (hi : i < n) (he : e.length = n) {x : Option RV} : (e.set i x)[i]? = some x := List.getElem?_set_self (by omega)
theorem rel_fld {f : Str} (hi : i < n) : RelM n i a dx fs (mFldE a dx f (mVar i)) (mFldE 0 0 f (mVar i)) := fun e he => by
  simp only [mFldE, mVar, exn_at hi he, Res.bind, exnT]
  cases h : look f (fs.map fun p => (PyData.str p.1, p.2)) with
  | none => simp [h]; exact True.intro
  | some t =>
    simp [h]
    exact RelR.ok he
theorem rel_isE {b : Bool} (hi : i < n) : RelM n i a dx fs (mIsE a dx b (mVar i)) (mIsE 0 0 b (mVar i)) := fun e he => by
  simp only [mIsE, mVar, exn_at hi he, Res.bind, exnT]
  simp
  exact RelR.ok he
theorem rel_tree {m m' : Mv} (h : RelM n i a dx fs m m') : RelM n i a dx fs (mTree m) (mTree m') := h.bind fun r => RelM.pure _
theorem rel_val {m m' : Mt} (h : RelM n i a dx fs m m') : RelM n i a dx fs (mVal m) (mVal m') := h.bind fun r => RelM.pure _
theorem rel_tst {m m' : Mt} (h : RelM n i a dx fs m m') : RelM n i a dx fs (mTst m) (mTst m') := h.bind fun t => by
  cases t <;> first | exact RelM.no | exact RelM.pure _
theorem rel_and {m m' k k' : Mt} (h : RelM n i a dx fs m m') (h2 : RelM n i a dx fs k k') : RelM n i a dx fs (mAndV m k) (mAndV m' k') := (rel_tst h).bind fun b => RelM.ite h2 (RelM.pure _)
theorem rel_or {m m' k k' : Mt} (h : RelM n i a dx fs m m') (h2 : RelM n i a dx fs k k') : RelM n i a dx fs (mOrV m k) (mOrV m' k') := (rel_tst h).bind fun b => RelM.ite (RelM.pure _) h2
theorem rel_not {m m' : Mt} (h : RelM n i a dx fs m m') : RelM n i a dx fs (mNotV m) (mNotV m') := (rel_tst h).bind fun b => RelM.pure _
theorem rel_andT {m m' k k' : Mb} (h : RelM n i a dx fs m m') (h2 : RelM n i a dx fs k k') : RelM n i a dx fs (mAndT m k) (mAndT m' k') := h.bind fun b => RelM.ite h2 (RelM.pure _)
theorem rel_orT {m m' k k' : Mb} (h : RelM n i a dx fs m m') (h2 : RelM n i a dx fs k k') : RelM n i a dx fs (mOrT m k) (mOrT m' k') := h.bind fun b => RelM.ite (RelM.pure _) h2
theorem rel_notT {m m' : Mb} (h : RelM n i a dx fs m m') : RelM n i a dx fs (mNotT m) (mNotT m') := h.bind fun b => RelM.pure _
theorem rel_isi {y : Ty} {m m' : Mt} (h : RelM n i a dx fs m m') : RelM n i a dx fs (mIsi y m) (mIsi y m') := h.bind fun t => by
  cases isK y t with
  | none => exact RelM.no
  | some b => exact RelM.pure _
theorem rel_nil : RelM n i a dx fs mNil mNil := RelM.pure _
theorem rel_cons {m m' : Mt} {ms ms' : Ml} (h : RelM n i a dx fs m m') (h2 : RelM n i a dx fs ms ms') : RelM n i a dx fs (mCons m ms) (mCons m' ms') := h.bind fun t => h2.bind fun ts => RelM.pure _
theorem rel_2 {f : T → T → Option RV} {m m' k k' : Mt} (h : RelM n i a dx fs m m') (h2 : RelM n i a dx fs k k') : RelM n i a dx fs (m2 f m k) (m2 f m' k') := h.bind fun t => h2.bind fun u => RelM.opt
theorem rel_1 {f : T → Option RV} {m m' : Mt} (h : RelM n i a dx fs m m') : RelM n i a dx fs (m1 f m) (m1 f m') := h.bind fun t => RelM.opt
theorem rel_N {f : List T → Option RV} {m m' : Ml} (h : RelM n i a dx fs m m') : RelM n i a dx fs (mN f m) (mN f m') := h.bind fun t => RelM.opt
theorem rel_tup {m m' : Ml} (h : RelM n i a dx fs m m') : RelM n i a dx fs (mTup m) (mTup m') := h.bind fun t => by
  by_cases hl : t.length ≤ 100000
  · simp only [hl, if_true]; exact RelM.pure _
  · simp only [hl, if_false]; exact RelM.no
theorem rel_lst {m m' : Ml} (h : RelM n i a dx fs m m') : RelM n i a dx fs (mLst m) (mLst m') := h.bind fun t => by
  by_cases hl : t.length ≤ 100000
  · simp only [hl, if_true]; exact RelM.pure _
  · simp only [hl, if_false]; exact RelM.no
theorem rel_call {D : DF} {m m' : Ml} (h : RelM n i a dx fs m m') : RelM n i a dx fs (mCall D m) (mCall D m') := h.bind fun t => by
  cases D (t.map .val) with
  | ok r e => exact RelM.pure _
  | exc x e => exact fun e he => True.intro
  | bad => exact RelM.no
theorem rel_ret {m m' : Mv} (h : RelM n i a dx fs m m') : RelM n i a dx fs (mRet m) (mRet m') := h.bind fun r => RelM.pure _
theorem rel_drop {m m' : Mv} (h : RelM n i a dx fs m m') : RelM n i a dx fs (mDrop m) (mDrop m') := h.bind fun r => RelM.pure _
theorem rel_nx : RelM n i a dx fs mNx mNx := RelM.pure _
theorem rel_set {j : Nat} {m m' : Mv} (hj : j ≠ i) (h : RelM n i a dx fs m m') : RelM n i a dx fs (mSet j m) (mSet j m') := h.bind fun r e he => by
  show RelR n i a dx fs (.ok _ ((e.set i _).set j _)) (.ok _ ((e.set i _).set j _))
  rw [set_comm hj, set_comm hj]
  exact RelR.ok (by rw [List.length_set]; exact he)
theorem rel_if {c c' : Mb} {m m' k k' : Ms} (h : RelM n i a dx fs c c') (h1 : RelM n i a dx fs m m') (h2 : RelM n i a dx fs k k') : RelM n i a dx fs (mIfS c m k) (mIfS c' m' k') := h.bind fun b => RelM.ite h1 h2
theorem rel_seq {m m' k k' : Ms} (h : RelM n i a dx fs m m') (h2 : RelM n i a dx fs k k') : RelM n i a dx fs (mSeq m k) (mSeq m' k') := fun e he => by
  have z := h e he
  unfold mSeq
  generalize m (e.set i _) = r at z ⊢
  generalize m' (e.set i _) = r' at z ⊢
  cases r with
  | ok x e1 => cases r' with
    | ok x' e1' =>
      obtain ⟨rfl, d, hd, rfl, rfl⟩ := z
      cases x with
      | nx => exact h2 d hd
      | rt r => exact RelR.ok hd
      | bk => exact RelR.ok hd
      | ct => exact RelR.ok hd
    | exc y e' => exact z.elim
    | bad => exact z.elim
  | exc y e1 => cases r' with
    | ok x' e1' => exact z.elim
    | exc y e' => exact True.intro
    | bad => exact z.elim
  | bad => cases r' with
    | ok x' e1' => exact z.elim
    | exc y e' => exact z.elim
    | bad => exact True.intro
theorem RelM.fgt {m m' : Ms} (h : RelM n i a dx fs m m') (e : En) (he : e.length = n) : TL.fgt i (m (e.set i (some (.val (exnT a dx fs))))) = TL.fgt i (m' (e.set i (some (.val (exnT 0 0 fs))))) := by
  have z := h e he
  generalize m (e.set i _) = r at z ⊢
  generalize m' (e.set i _) = r' at z ⊢
  cases r with
  | ok x e1 => cases r' with
    | ok x' e1' =>
      obtain ⟨rfl, d, hd, rfl, rfl⟩ := z
      show Res.ok x ((d.set i _).set i none) = Res.ok x ((d.set i _).set i none)
      rw [List.set_set, List.set_set]
    | exc y e' => exact z.elim
    | bad => exact z.elim
  | exc y e1 => cases r' with
    | ok x' e1' => exact z.elim
    | exc y e' => rfl
    | bad => exact z.elim
  | bad => cases r' with
    | ok x' e1' => exact z.elim
    | exc y e' => exact z.elim
    | bad => rfl
end
theorem takesN {X : Cx} : L2N.Takes X W0 := fun u s' h => by
  obtain ⟨a, B, sI, pins, σ, H, cls, d, _, _, _, _, _, _, _, _, z⟩ := h
  exact z.elim
end TL
end
section
set_option Elab.async false
set_option linter.all false
set_option autoImplicit false
set_option maxRecDepth 100000
set_option maxHeartbeats 1000000
set_option exponentiation.threshold 10000
/-! Steps of mirrors over plain data. -/
namespace TL
open PySem PySem.Spec PyProof.Rows L2
def Is (r : Res RV) (t : T) : Prop := ∃ e, r = .ok (.val t) e
theorem compL_ok {g : Mg} {tt : Mb} {te : Mt} {vs : List Nat} {f : T → T} {p : T → Bool} {e : En} : ∀ (ts acc : List T)
    (h : ∀ t ∈ ts, ∃ e1 e2, g t e = some e1 ∧ tt e1 = .ok (p t) e2 ∧ (p t = true → ∃ e3, te e2 = .ok (f t) e3 ∧ wipeE e3 vs = e) ∧ (p t = false → wipeE e2 vs = e)) (hl : acc.length + ts.length ≤ 100000),
    mCompL g tt te vs ts acc e = .ok (acc ++ (ts.filter p).map f) e
  | [], acc, _, _ => by simp [mCompL]
  | t :: ts, acc, h, hl => by
    obtain ⟨e1, e2, h1, h2, h3, h4⟩ := h t (by simp)
    rw [List.length_cons] at hl
    unfold mCompL
    rw [h1]
    dsimp only
    rw [h2]
    cases hp : p t with
    | true =>
      obtain ⟨e3, h5, h6⟩ := h3 hp
      dsimp only
      rw [h5]
      dsimp only
      rw [if_pos (by omega), h6, compL_ok ts (acc ++ [f t]) (fun u hu => h u (by simp [hu])) (by rw [List.length_append]; simp; omega)]
      simp [hp]
    | false =>
      dsimp only
      rw [h4 hp, compL_ok ts acc (fun u hu => h u (by simp [hu])) (by omega)]
      simp [hp]
theorem comp_eq {mi : Ml} {g : Mg} {tt : Mb} {te : Mt} {vs : List Nat} {f : T → T} {p : T → Bool} {e e1 : En} {ts : List T} (hi : mi e = .ok ts e1) (hl : ts.length ≤ 100000)
    (h : ∀ t ∈ ts, ∃ e2 e3, g t (wipeE e1 vs) = some e2 ∧ tt e2 = .ok (p t) e3 ∧ (p t = true → ∃ e4, te e3 = .ok (f t) e4 ∧ wipeE e4 vs = wipeE e1 vs) ∧ (p t = false → wipeE e3 vs = wipeE e1 vs)) :
    mComp mi g tt te vs e = .ok (.own ((ts.filter p).map f)) (backE e1 (wipeE e1 vs) vs) := by
  unfold mComp
  rw [hi]
  show (match mCompL g tt te vs ts [] (wipeE e1 vs) with | .ok acc e2 => _ | _ => _) = _
  rw [compL_ok ts [] h (by simpa using hl)]
  rfl
theorem comp_yes {mi : Ml} {g : Mg} {te : Mt} {vs : List Nat} {f : T → T} {e e1 : En} {ts : List T} (hi : mi e = .ok ts e1) (hl : ts.length ≤ 100000)
    (h : ∀ t ∈ ts, ∃ e2 e3, g t (wipeE e1 vs) = some e2 ∧ te e2 = .ok (f t) e3 ∧ wipeE e3 vs = wipeE e1 vs) :
    mComp mi g mYes te vs e = .ok (.own (ts.map f)) (backE e1 (wipeE e1 vs) vs) := by
  rw [comp_eq (p := fun _ => true) (f := f) hi hl fun t ht => ?_]
  · rw [List.filter_eq_self.mpr fun _ _ => rfl]
  · obtain ⟨e2, e3, h1, h2, h3⟩ := h t ht
    exact ⟨e2, e2, h1, rfl, fun _ => ⟨e3, h2, h3⟩, fun z => by cases z⟩
theorem bools_map {α : Type} (f : α → Bool) : ∀ ts : List α, bools (ts.map fun t => .bool (f t)) = some (ts.map f)
  | [] => rfl
  | t :: ts => by
    show (bools (ts.map fun t => .bool (f t))).map (f t :: ·) = _
    rw [bools_map f ts]
    rfl
theorem all_eq {mi : Ml} {g : Mg} {te : Mt} {vs : List Nat} {f : T → Bool} {e e1 : En} {ts : List T} (hi : mi e = .ok ts e1) (hl : ts.length ≤ 100000)
    (h : ∀ t ∈ ts, ∃ e2 e3, g t (wipeE e1 vs) = some e2 ∧ te e2 = .ok (.bool (f t)) e3 ∧ wipeE e3 vs = wipeE e1 vs) :
    mN fAll (mCons (mTree (mComp mi g mYes te vs)) mNil) e = .ok (.val (.bool (ts.all f))) (backE e1 (wipeE e1 vs) vs) := by
  have q := comp_yes (f := fun t => .bool (f t)) hi hl h
  simp only [mN, mCons, mTree, mNil, q, Res.bind, RV.tree, give, fAll, bools_map, Option.map]
  simp [List.all_map]
theorem run_ret {n np : Nat} {keep : List Nat} {m : Mt} {args : List RV} {t : T} {e : En} (hl : args.length = np) (h : m (args.map some ++ List.replicate (n - np) none) = .ok t e) : Is (runDef n np keep (mRet (mVal m)) args) t := by
  unfold Is runDef
  rw [if_pos hl]
  simp [mRet, mVal, Res.bind, h]
theorem run_retV {n np : Nat} {keep : List Nat} {m : Mv} {args : List RV} {t : T} {e : En} (hl : args.length = np) (h : m (args.map some ++ List.replicate (n - np) none) = .ok (.val t) e) : Is (runDef n np keep (mRet m) args) t := by
  unfold Is runDef
  rw [if_pos hl]
  simp [mRet, Res.bind, h]
theorem and_t {m n : Mt} {e e1 : En} (h : m e = .ok (.bool true) e1) : mAndV m n e = n e1 := by
  simp [mAndV, mTst, Res.bind, h]
theorem and_f {m n : Mt} {e e1 : En} (h : m e = .ok (.bool false) e1) : mAndV m n e = .ok (.bool false) e1 := by
  simp [mAndV, mTst, Res.bind, h]
theorem tree_ok {m : Mv} {r : RV} {e e1 : En} (h : m e = .ok r e1) : mTree m e = .ok r.tree e1 := by
  simp [mTree, Res.bind, h]
theorem call1 {D : DF} {m : Mt} {e e1 : En} {t u : T} (hm : m e = .ok t e1) (h : Is (D [.val t]) u) : (mTree (mCall D (mCons m mNil))) e = .ok u e1 := by
  obtain ⟨e2, h⟩ := h
  simp [mTree, mCall, mCons, mNil, Res.bind, hm, h, RV.tree]
theorem call2 {D : DF} {m n : Mt} {e e1 e2 : En} {t s u : T} (hm : m e = .ok t e1) (hn : n e1 = .ok s e2) (h : Is (D [.val t, .val s]) u) : (mTree (mCall D (mCons m (mCons n mNil)))) e = .ok u e2 := by
  obtain ⟨e3, h⟩ := h
  simp [mTree, mCall, mCons, mNil, Res.bind, hm, hn, h, RV.tree]
theorem if_ret {c : Mb} {m : Mv} {rest : Ms} {e e1 : En} {b : Bool} (h : c e = .ok b e1) : mSeq (mIfS c (mRet m) mNx) rest e = if b = true then mRet m e1 else rest e1 := by
  cases b with
  | true =>
    simp only [mSeq, mIfS, h, Res.bind, if_pos]
    unfold mRet
    cases m e1 <;> rfl
  | false => simp [mSeq, mIfS, h, Res.bind, mNx]
theorem run_if {n np : Nat} {keep : List Nat} {c : Mb} {m : Mt} {rest : Ms} {args : List RV} {t : T} {e1 : En} {b : Bool} (hl : args.length = np) (h : c (args.map some ++ List.replicate (n - np) none) = .ok b e1) (h1 : b = true → ∃ e, m e1 = .ok t e)
    (h2 : b = false → ∃ e2, rest e1 = .ok (.rt (.val t)) e2) : Is (runDef n np keep (mSeq (mIfS c (mRet (mVal m)) mNx) rest) args) t := by
  unfold Is runDef
  rw [if_pos hl, if_ret h]
  cases b with
  | true =>
    obtain ⟨e, h1⟩ := h1 rfl
    simp [mRet, mVal, Res.bind, h1]
  | false =>
    obtain ⟨e2, h3⟩ := h2 rfl
    simp [h3]
theorem run_body {n np : Nat} {keep : List Nat} {m : Ms} {args : List RV} {t : T} {e : En} (hl : args.length = np) (h : m (args.map some ++ List.replicate (n - np) none) = .ok (.rt (.val t)) e) : Is (runDef n np keep m args) t := by
  unfold Is runDef
  rw [if_pos hl, h]
  exact ⟨_, rfl⟩
theorem ret_eq {m : Mv} {r : RV} {e e1 : En} (h : m e = .ok r e1) : mRet m e = .ok (.rt r) e1 := by
  simp [mRet, Res.bind, h]
theorem seq_if_t {c : Mb} {b rest : Ms} {e e1 e2 : En} {r : RV} (h : c e = .ok true e1) (h2 : b e1 = .ok (.rt r) e2) : mSeq (mIfS c b mNx) rest e = .ok (.rt r) e2 := by
  simp [mSeq, mIfS, h, Res.bind, h2]
theorem seq_if_f {c : Mb} {b rest : Ms} {e e1 : En} (h : c e = .ok false e1) : mSeq (mIfS c b mNx) rest e = rest e1 := by
  simp [mSeq, mIfS, h, Res.bind, mNx]
theorem seq_nx {m n : Ms} {e e1 : En} (h : m e = .ok .nx e1) : mSeq m n e = n e1 := by
  simp [mSeq, h]
theorem seq_rt {m n : Ms} {e e1 : En} {r : RV} (h : m e = .ok (.rt r) e1) : mSeq m n e = .ok (.rt r) e1 := by
  simp [mSeq, h]
theorem notT_ok {c : Mb} {e e1 : En} {b : Bool} (h : c e = .ok b e1) : mNotT c e = .ok (!b) e1 := by
  simp [mNotT, Res.bind, h]
theorem tst_eq {m : Mt} {e e1 : En} {b : Bool} (h : m e = .ok (.bool b) e1) : mTst m e = .ok b e1 := by
  simp [mTst, Res.bind, h]
theorem rng_cons (lo : Int) (n : Nat) : rngT lo (n + 1) = .int lo :: rngT (lo + 1) n := by
  unfold rngT
  rw [List.range_succ_eq_map, List.map_cons, List.map_map]
  congr 1
  · simp
  · refine List.map_congr_left fun i _ => ?_
    simp only [Function.comp]
    congr 1
    simp
    omega
theorem at0 {a b c : T} : atI [a, b, c] 0 = some a := rfl
theorem at1 {a b c : T} : atI [a, b, c] 1 = some b := rfl
theorem at2 {a b c : T} : atI [a, b, c] 2 = some c := rfl
theorem bt0 {a b : T} : atI [a, b] 0 = some a := rfl
theorem bt1 {a b : T} : atI [a, b] 1 = some b := rfl
theorem seq_set {i : Nat} {m : Mv} {rest : Ms} {e e1 : En} {r : RV} (h : m e = .ok r e1) : mSeq (mSet i m) rest e = rest (e1.set i (some r)) := by
  simp [mSeq, mSet, Res.bind, h]
theorem callV2 {D : DF} {m n : Mt} {e e1 e2 : En} {t s u : T} (hm : m e = .ok t e1) (hn : n e1 = .ok s e2) (h : Is (D [.val t, .val s]) u) : mCall D (mCons m (mCons n mNil)) e = .ok (.val u) e2 := by
  obtain ⟨e3, h⟩ := h
  simp [mCall, mCons, mNil, Res.bind, hm, hn, h]
theorem callV1 {D : DF} {m : Mt} {e e1 : En} {t u : T} (hm : m e = .ok t e1) (h : Is (D [.val t]) u) : mCall D (mCons m mNil) e = .ok (.val u) e1 := by
  obtain ⟨e3, h⟩ := h
  simp [mCall, mCons, mNil, Res.bind, hm, h]
theorem callV3 {D : DF} {m n k : Mt} {e e1 e2 e3 : En} {t s r u : T} (hm : m e = .ok t e1) (hn : n e1 = .ok s e2) (hk : k e2 = .ok r e3) (h : Is (D [.val t, .val s, .val r]) u) : mCall D (mCons m (mCons n (mCons k mNil))) e = .ok (.val u) e3 := by
  obtain ⟨e4, h⟩ := h
  simp [mCall, mCons, mNil, Res.bind, hm, hn, hk, h]
theorem seq_if_nx {c : Mb} {b rest : Ms} {e e1 e2 : En} (h : c e = .ok true e1) (h2 : b e1 = .ok .nx e2) : mSeq (mIfS c b mNx) rest e = rest e2 := by
  simp [mSeq, mIfS, h, Res.bind, h2]
theorem set_eq {i : Nat} {m : Mv} {e e1 : En} {r : RV} (h : m e = .ok r e1) : mSet i m e = .ok .nx (e1.set i (some r)) := by
  simp [mSet, Res.bind, h]
theorem cons_ok {m : Mt} {ms : Ml} {e e1 e2 : En} {t : T} {ts : List T} (h : m e = .ok t e1) (h2 : ms e1 = .ok ts e2) : mCons m ms e = .ok (t :: ts) e2 := by
  simp [mCons, Res.bind, h, h2]
theorem tup_ok {ms : Ml} {e e1 : En} {ts : List T} (h : ms e = .ok ts e1) (hl : ts.length ≤ 100000) : mTup ms e = .ok (.tuple ts) e1 := by
  simp [mTup, Res.bind, h, hl]
theorem val_ok {m : Mt} {e e1 : En} {t : T} (h : m e = .ok t e1) : mVal m e = .ok (.val t) e1 := by
  simp [mVal, Res.bind, h]
theorem callK1 {D : DF} {m : Mt} {e e1 : En} {t u : T} (hm : m e = .ok t e1) (h : Is (D [.val t]) u) : mTree (mCallKW D [0] 1 (mCons m mNil)) e = .ok u e1 := by
  obtain ⟨e2, h⟩ := h
  simp [mTree, mCallKW, mCallK, pick, mCons, mNil, Res.bind, hm, h, RV.tree]
theorem callK2 {D : DF} {m n : Mt} {e e1 e2 : En} {t s u : T} (hm : m e = .ok t e1) (hn : n e1 = .ok s e2) (h : Is (D [.val s, .val t]) u) : mTree (mCallKW D [1, 0] 2 (mCons m (mCons n mNil))) e = .ok u e2 := by
  obtain ⟨e3, h⟩ := h
  simp [mTree, mCallKW, mCallK, pick, mCons, mNil, Res.bind, hm, hn, h, RV.tree]
def tn (ns : List Nat) : List T := ns.map fun k => .int (k : Nat)
theorem rng_tn (m : Nat) : rngT 0 m = tn (List.range m) := by
  simp [rngT, tn]
def pn (ns : List Int) : List T := ns.map PyData.int
def PL (D : DF) (args : List RV) (P : T → Prop) : Prop := ∀ ns, ∃ r ns' e', D (.own (pn ns) :: args) = .ok (.val r) e' ∧ e'[0]? = some (some (.own (pn ns'))) ∧ P r
theorem PL.imp {D : DF} {args : List RV} {P Q : T → Prop} (h : PL D args P) (f : ∀ r, P r → Q r) : PL D args Q := fun ns => by
  obtain ⟨r, ns', e', h1, h2, h3⟩ := h ns
  exact ⟨r, ns', e', h1, h2, f r h3⟩
theorem callP {D : DF} {ts : List T} {P : T → Prop} (h : PL D (ts.map .val) P) {i : Nat} {ms : Ml} {e : En} {ns : List Int} (he : e[i]? = some (some (.own (pn ns)))) (hm : ms e = .ok ts e) : ∃ r ns', mCallP D i ms e = .ok (.val r) (e.set i (some (.own (pn ns')))) ∧ P r := by
  obtain ⟨r, ns', e', h1, h2, h3⟩ := h ns
  refine ⟨r, ns', ?_, h3⟩
  simp only [mCallP, he, hm, Res.bind, afterP, h1, h2, Option.join]
  rfl
def Rg (lo hi : Int) (t : T) : Prop := ∃ i : Int, t = .int i ∧ lo ≤ i ∧ i < hi
theorem run_po {n : Nat} {np : Nat} {keep : List Nat} {m : Ms} {args : List RV} {P : T → Prop} (hl : args.length + 1 = np) (hk : keep.contains 0 = true)
    (h : ∀ ns, ∃ r ns' e, m (some (.own (pn ns)) :: args.map some ++ List.replicate (n - np) none) = .ok (.rt (.val r)) (some (.own (pn ns')) :: e) ∧ P r) : PL (runDef n np keep m) args P := fun ns => by
  obtain ⟨r, ns', e, h1, h2⟩ := h ns
  refine ⟨r, ns', keepE keep np (some (.own (pn ns')) :: e), ?_, ?_, h2⟩
  · unfold runDef
    rw [if_pos (by simpa using hl)]
    rw [show m (List.map some (RV.own (pn ns) :: args) ++ List.replicate (n - np) none) = _ from h1]
  · unfold keepE
    rw [List.getElem?_map, List.getElem?_range (by omega)]
    simp only [Option.map, hk, if_true, List.getElem?_cons_zero, Option.join]
    rfl
theorem add_ok {m : Mt} {j i : Int} {e e1 : En} (h : m e = .ok (.int i) e1) : m2 fAdd (mC (.int j)) m e = .ok (.val (.int (j + i))) e1 := by
  simp [m2, mC, Res.bind, h, fAdd, give]
theorem app_pn (xs : List Int) (x : Int) : pn xs ++ [.int x] = pn (xs ++ [x]) := by simp [pn]
theorem len_pn (xs : List Int) : (pn xs).length = xs.length := by simp [pn]
def scrT (ns : List Int) : T := .dict (ns.map fun n => (.int n, .none))
theorem ints_map : ∀ ns : List Int, ints? (ns.map fun n => (PyData.int n, PyData.none)) = some ns
  | [] => rfl
  | n :: ns => by
    show (ints? (ns.map fun n => (PyData.int n, PyData.none))).map (n :: ·) = _
    rw [ints_map ns]
    rfl
theorem items_scr (ns : List Int) : items (scrT ns) = some (pn ns) := by
  unfold scrT
  show (ints? _).map _ = _
  rw [ints_map]
  rfl
def PV (D : DF) (args : List RV) (P : T → Prop) : Prop := ∀ ns, ∃ r ns' e', D (.own (pn ns) :: args) = .ok r e' ∧ e'[0]? = some (some (.own (pn ns'))) ∧ P r.tree
theorem callPV {D : DF} {ts : List T} {P : T → Prop} (h : PV D (ts.map .val) P) {i : Nat} {ms : Ml} {e e1 : En} {ns ns0 : List Int} (he0 : e[i]? = some (some (.own (pn ns0)))) (he : e1[i]? = some (some (.own (pn ns)))) (hm : ms e = .ok ts e1) : ∃ r ns', mCallP D i ms e = .ok r (e1.set i (some (.own (pn ns')))) ∧ P r.tree := by
  obtain ⟨r, ns', e', h1, h2, h3⟩ := h ns
  refine ⟨r, ns', ?_, h3⟩
  simp only [mCallP, he0, hm, Res.bind, afterP, he, h1, h2, Option.join]
  rfl
theorem run_pv {n : Nat} {np : Nat} {keep : List Nat} {m : Ms} {args : List RV} {P : T → Prop} (hl : args.length + 1 = np) (hk : keep.contains 0 = true)
    (h : ∀ ns, ∃ r ns' e, m (some (.own (pn ns)) :: args.map some ++ List.replicate (n - np) none) = .ok (.rt r) (some (.own (pn ns')) :: e) ∧ P r.tree) : PV (runDef n np keep m) args P := fun ns => by
  obtain ⟨r, ns', e, h1, h2⟩ := h ns
  refine ⟨r, ns', keepE keep np (some (.own (pn ns')) :: e), ?_, ?_, h2⟩
  · unfold runDef
    rw [if_pos (by simpa using hl)]
    rw [show m (List.map some (RV.own (pn ns) :: args) ++ List.replicate (n - np) none) = _ from h1]
  · unfold keepE
    rw [List.getElem?_map, List.getElem?_range (by omega)]
    simp only [Option.map, hk, if_true, List.getElem?_cons_zero, Option.join]
    rfl
theorem cut_sub {xs : List T} {a b : Option Int} : (∀ x ∈ cutT xs a b, x ∈ xs) ∧ (cutT xs a b).length ≤ xs.length := by
  unfold cutT
  refine ⟨fun x hx => List.mem_of_mem_drop (List.mem_of_mem_take hx), ?_⟩
  rw [List.length_take, List.length_drop]
  omega
theorem PL.pv {D : DF} {args : List RV} {P : T → Prop} (h : PL D args P) : PV D args P := fun ns => by
  obtain ⟨r, ns', e', h1, h2, h3⟩ := h ns
  exact ⟨.val r, ns', e', h1, h2, h3⟩
theorem compI {g : Mg} {tt : Mb} {te : Mt} {vs : List Nat} {I : En → Prop} {P : T → Prop} : ∀ (ts acc : List T) (e : En), I e →
    (∀ t ∈ ts, ∀ e, I e → ∃ e1 b e2, g t e = some e1 ∧ tt e1 = .ok b e2 ∧ (b = true → ∃ y e3, te e2 = .ok y e3 ∧ P y ∧ I (wipeE e3 vs)) ∧ (b = false → I (wipeE e2 vs))) →
    (∀ x ∈ acc, P x) → acc.length + ts.length ≤ 100000 → ∃ ys e', mCompL g tt te vs ts acc e = .ok ys e' ∧ I e' ∧ (∀ y ∈ ys, P y) ∧ ys.length ≤ acc.length + ts.length
  | [], acc, e, hI, _, ha, _ => ⟨acc, e, rfl, hI, ha, by simp⟩
  | t :: ts, acc, e, hI, h, ha, hl => by
    rw [List.length_cons] at hl
    obtain ⟨e1, b, e2, h1, h2, h3, h4⟩ := h t (by simp) e hI
    cases b with
    | true =>
      obtain ⟨y, e3, h5, hP, h6⟩ := h3 rfl
      obtain ⟨ys, e', r1, r2, r3, r4⟩ := compI ts (acc ++ [y]) _ h6 (fun u hu => h u (by simp [hu])) (fun x hx => by
        rcases List.mem_append.mp hx with hx | hx
        · exact ha x hx
        · rw [List.mem_singleton] at hx
          rw [hx]; exact hP) (by rw [List.length_append]; simp; omega)
      refine ⟨ys, e', ?_, r2, r3, by rw [List.length_append] at r4; simp at r4 ⊢; omega⟩
      unfold mCompL
      rw [h1]
      dsimp only
      rw [h2]
      dsimp only
      rw [h5]
      dsimp only
      rw [if_pos (by omega)]
      exact r1
    | false =>
      obtain ⟨ys, e', r1, r2, r3, r4⟩ := compI ts acc _ (h4 rfl) (fun u hu => h u (by simp [hu])) ha (by omega)
      refine ⟨ys, e', ?_, r2, r3, by simp at r4 ⊢; omega⟩
      unfold mCompL
      rw [h1]
      dsimp only
      rw [h2]
      exact r1
theorem comp_inv {mi : Ml} {g : Mg} {tt : Mb} {te : Mt} {vs : List Nat} {I : En → Prop} {P : T → Prop} {e e1 : En} {ts : List T} (hi : mi e = .ok ts e1) (hl : ts.length ≤ 100000) (hI : I (wipeE e1 vs))
    (h : ∀ t ∈ ts, ∀ e, I e → ∃ e1 b e2, g t e = some e1 ∧ tt e1 = .ok b e2 ∧ (b = true → ∃ y e3, te e2 = .ok y e3 ∧ P y ∧ I (wipeE e3 vs)) ∧ (b = false → I (wipeE e2 vs))) :
    ∃ ys e', mComp mi g tt te vs e = .ok (.own ys) (backE e1 e' vs) ∧ I e' ∧ (∀ y ∈ ys, P y) ∧ ys.length ≤ ts.length := by
  obtain ⟨ys, e', r1, r2, r3, r4⟩ := compI ts [] _ hI h (by simp) (by simpa using hl)
  refine ⟨ys, e', ?_, r2, r3, by simpa using r4⟩
  unfold mComp
  rw [hi]
  show (match mCompL g tt te vs ts [] (wipeE e1 vs) with | .ok acc e2 => _ | _ => _) = _
  rw [r1]
theorem call4 {D : DF} {m n k j : Mt} {e e1 e2 e3 e4 : En} {t s r q u : T} (hm : m e = .ok t e1) (hn : n e1 = .ok s e2) (hk : k e2 = .ok r e3) (hj : j e3 = .ok q e4) (h : Is (D [.val t, .val s, .val r, .val q]) u) : mTree (mCall D (mCons m (mCons n (mCons k (mCons j mNil))))) e = .ok u e4 := by
  obtain ⟨e5, h⟩ := h
  simp [mTree, mCall, mCons, mNil, Res.bind, hm, hn, hk, hj, h, RV.tree]
theorem set_self {α : Type} : ∀ {l : List α} {i : Nat} {x : α}, l[i]? = some x → l.set i x = l
  | [], i, x, h => by simp at h
  | y :: l, 0, x, h => by
    simp at h
    rw [h]; rfl
  | y :: l, i + 1, x, h => by
    have h' : l[i]? = some x := by simpa using h
    show y :: l.set i x = y :: l
    rw [set_self h']
theorem var_rv {i : Nat} {e : En} {r : RV} (h : e[i]? = some (some r)) : mVar i e = .ok r.tree (e.set i (some (.val r.tree))) := by
  cases r with
  | val t =>
    rw [show (RV.val t).tree = t from rfl, set_self h]
    simp only [mVar, h]
  | own ts => simp only [mVar, h, RV.tree]
def bk (x : Option RV) : Option RV := match some x with
  | some (some (.val t)) => some (.val t)
  | _ => none
theorem small_200 {n : Int} (h : n.natAbs < 2 ^ 200) : small n = true := by
  unfold small
  rw [decide_eq_true_iff]
  by_cases hz : n.natAbs = 0
  · rw [hz]; decide
  · have := (Nat.log2_lt hz).mpr h
    omega
theorem p200 : (10000000000000000000000000000000000000 : Nat) < 2 ^ 200 := by decide
theorem mul_ok {m k : Mt} {i j : Int} {e e1 e2 : En} (h : m e = .ok (.int i) e1) (h2 : k e1 = .ok (.int j) e2) (hi : i.natAbs < 2 ^ 200) (hj : j.natAbs < 2 ^ 200) : mTree (m2 fMul m k) e = .ok (.int (i * j)) e2 := by
  refine tree_ok (r := .val (.int (i * j))) ?_
  simp only [m2, h, h2, Res.bind, fMul, small_200 hi, small_200 hj]
  rfl
theorem sub_ok {m k : Mt} {i j : Int} {e e1 e2 : En} (h : m e = .ok (.int i) e1) (h2 : k e1 = .ok (.int j) e2) : mTree (m2 fSub m k) e = .ok (.int (i - j)) e2 := by
  refine tree_ok (r := .val (.int (i - j))) ?_
  simp only [m2, h, h2, Res.bind]
  rfl
theorem adds_ok {m k : Mt} {i j : Int} {e e1 e2 : En} (h : m e = .ok (.int i) e1) (h2 : k e1 = .ok (.int j) e2) : mTree (m2 fAdd m k) e = .ok (.int (i + j)) e2 := by
  refine tree_ok (r := .val (.int (i + j))) ?_
  simp only [m2, h, h2, Res.bind]
  rfl
end TL
end
section
set_option Elab.async false
set_option linter.all false
set_option autoImplicit false
set_option maxRecDepth 100000
set_option maxHeartbeats 4000000
namespace G
open PySem PySem.Spec PyProof.Rows L2 TL
def topS (i : Nat) : Stmt := PySem.Challenge.pw_howeverled_k01_whole_quotients_and_joini.main.body.getD i (.Pass ⟨0, 0, 0, 0⟩)
def inC (i j : Nat) : Stmt := match topS i with
  | .ClassDef _ _ _ body .. => body.getD j (.Pass ⟨0, 0, 0, 0⟩)
  | _ => .Pass ⟨0, 0, 0, 0⟩
abbrev s_is_integer : Stmt := topS 7
abbrev N_is_integer : List Str := ["thing"]
theorem sc_is_integer : FnScope N_is_integer ["thing"] (defScope s_is_integer) := ⟨rfl, rfl, rfl, by decide +kernel, rfl, by decide +kernel, by decide +kernel⟩
abbrev s_is_number : Stmt := topS 8
abbrev N_is_number : List Str := ["thing"]
theorem sc_is_number : FnScope N_is_number ["thing"] (defScope s_is_number) := ⟨rfl, rfl, rfl, by decide +kernel, rfl, by decide +kernel, by decide +kernel⟩
abbrev s_is_positive : Stmt := topS 9
abbrev N_is_positive : List Str := ["thing"]
theorem sc_is_positive : FnScope N_is_positive ["thing"] (defScope s_is_positive) := ⟨rfl, rfl, rfl, by decide +kernel, rfl, by decide +kernel, by decide +kernel⟩
abbrev s_is_tuple_of : Stmt := topS 11
abbrev N_is_tuple_of : List Str := ["many", "thing"]
theorem sc_is_tuple_of : FnScope N_is_tuple_of ["many", "thing"] (defScope s_is_tuple_of) := ⟨rfl, rfl, rfl, by decide +kernel, rfl, by decide +kernel, by decide +kernel⟩
abbrev s_is_quotient : Stmt := topS 10
abbrev N_is_quotient : List Str := ["thing", "top", "bottom"]
theorem sc_is_quotient : FnScope N_is_quotient ["thing"] (defScope s_is_quotient) := ⟨rfl, rfl, rfl, by decide +kernel, rfl, by decide +kernel, by decide +kernel⟩
abbrev s_are_below : Stmt := topS 12
abbrev N_are_below : List Str := ["size", "thing", "one"]
theorem sc_are_below : FnScope N_are_below ["size", "thing"] (defScope s_are_below) := ⟨rfl, rfl, rfl, by decide +kernel, rfl, by decide +kernel, by decide +kernel⟩
abbrev s_is_lot : Stmt := topS 13
abbrev N_is_lot : List Str := ["size", "thing", "one", "other"]
theorem sc_is_lot : FnScope N_is_lot ["size", "thing"] (defScope s_is_lot) := ⟨rfl, rfl, rfl, by decide +kernel, rfl, by decide +kernel, by decide +kernel⟩
abbrev s_is_joining : Stmt := topS 14
abbrev N_is_joining : List Str := ["many", "thing", "least", "place"]
theorem sc_is_joining : FnScope N_is_joining ["many", "thing"] (defScope s_is_joining) := ⟨rfl, rfl, rfl, by decide +kernel, rfl, by decide +kernel, by decide +kernel⟩
abbrev s_need : Stmt := topS 16
abbrev N_need : List Str := ["holds", "name"]
theorem sc_need : FnScope N_need ["holds", "name"] (defScope s_need) := ⟨rfl, rfl, rfl, by decide +kernel, rfl, by decide +kernel, by decide +kernel⟩
abbrev s_quotient_of : Stmt := topS 18
abbrev N_quotient_of : List Str := ["top", "bottom", "common"]
theorem sc_quotient_of : FnScope N_quotient_of ["top", "bottom"] (defScope s_quotient_of) := ⟨rfl, rfl, rfl, by decide +kernel, rfl, by decide +kernel, by decide +kernel⟩
abbrev s_need_both : Stmt := topS 19
abbrev N_need_both : List Str := ["one", "other"]
theorem sc_need_both : FnScope N_need_both ["one", "other"] (defScope s_need_both) := ⟨rfl, rfl, rfl, by decide +kernel, rfl, by decide +kernel, by decide +kernel⟩
abbrev s_plus : Stmt := topS 20
abbrev N_plus : List Str := ["one", "other"]
theorem sc_plus : FnScope N_plus ["one", "other"] (defScope s_plus) := ⟨rfl, rfl, rfl, by decide +kernel, rfl, by decide +kernel, by decide +kernel⟩
abbrev s_minus : Stmt := topS 21
abbrev N_minus : List Str := ["one", "other"]
theorem sc_minus : FnScope N_minus ["one", "other"] (defScope s_minus) := ⟨rfl, rfl, rfl, by decide +kernel, rfl, by decide +kernel, by decide +kernel⟩
abbrev s_times : Stmt := topS 22
abbrev N_times : List Str := ["one", "other"]
theorem sc_times : FnScope N_times ["one", "other"] (defScope s_times) := ⟨rfl, rfl, rfl, by decide +kernel, rfl, by decide +kernel, by decide +kernel⟩
abbrev s_over : Stmt := topS 23
abbrev N_over : List Str := ["one", "other"]
theorem sc_over : FnScope N_over ["one", "other"] (defScope s_over) := ⟨rfl, rfl, rfl, by decide +kernel, rfl, by decide +kernel, by decide +kernel⟩
abbrev s_less : Stmt := topS 24
abbrev N_less : List Str := ["one", "other"]
theorem sc_less : FnScope N_less ["one", "other"] (defScope s_less) := ⟨rfl, rfl, rfl, by decide +kernel, rfl, by decide +kernel, by decide +kernel⟩
abbrev s_joinings_of : Stmt := topS 26
abbrev N_joinings_of : List Str := ["many", "begun", "place", "head", "least"]
theorem sc_joinings_of : FnScope N_joinings_of ["many"] (defScope s_joinings_of) := ⟨rfl, rfl, rfl, by decide +kernel, rfl, by decide +kernel, by decide +kernel⟩
abbrev s_blocks_in : Stmt := topS 28
abbrev N_blocks_in : List Str := ["joining", "blocks", "place", "least", "block"]
theorem sc_blocks_in : FnScope N_blocks_in ["joining"] (defScope s_blocks_in) := ⟨rfl, rfl, rfl, by decide +kernel, rfl, by decide +kernel, by decide +kernel⟩
abbrev s_blocks_of : Stmt := topS 27
abbrev N_blocks_of : List Str := ["many", "joining"]
theorem sc_blocks_of : FnScope N_blocks_of ["many", "joining"] (defScope s_blocks_of) := ⟨rfl, rfl, rfl, by decide +kernel, rfl, by decide +kernel, by decide +kernel⟩
abbrev s_are_blocks : Stmt := topS 30
abbrev N_are_blocks : List Str := ["many", "thing", "lot", "place"]
theorem sc_are_blocks : FnScope N_are_blocks ["many", "thing"] (defScope s_are_blocks) := ⟨rfl, rfl, rfl, by decide +kernel, rfl, by decide +kernel, by decide +kernel⟩
abbrev s_joining_of : Stmt := topS 29
abbrev N_joining_of : List Str := ["many", "lots", "least_at", "lot", "place"]
theorem sc_joining_of : FnScope N_joining_of ["many", "lots"] (defScope s_joining_of) := ⟨rfl, rfl, rfl, by decide +kernel, rfl, by decide +kernel, by decide +kernel⟩
abbrev s_joined_two : Stmt := topS 32
abbrev N_joined_two : List Str := ["joining", "one", "other", "low", "high", "least"]
theorem sc_joined_two : FnScope N_joined_two ["joining", "one", "other"] (defScope s_joined_two) := ⟨rfl, rfl, rfl, by decide +kernel, rfl, by decide +kernel, by decide +kernel⟩
abbrev s_joined_with : Stmt := topS 31
abbrev N_joined_with : List Str := ["many", "joining", "other", "both", "place", "least"]
theorem sc_joined_with : FnScope N_joined_with ["many", "joining", "other"] (defScope s_joined_with) := ⟨rfl, rfl, rfl, by decide +kernel, rfl, by decide +kernel, by decide +kernel⟩
abbrev s__law_pool : Stmt := topS 34
abbrev N__law_pool : List Str := ["_law_script", "_law_pool_here", "_law_state", "_law_cell", "_law_k", "_law_left"]
theorem sc__law_pool : FnScope N__law_pool ["_law_script"] (defScope s__law_pool) := ⟨rfl, rfl, rfl, by decide +kernel, rfl, by decide +kernel, by decide +kernel⟩
abbrev s__law_take : Stmt := topS 35
abbrev N__law_take : List Str := ["_law_pool_here", "_law_bound"]
theorem sc__law_take : FnScope N__law_take ["_law_pool_here", "_law_bound"] (defScope s__law_take) := ⟨rfl, rfl, rfl, by decide +kernel, rfl, by decide +kernel, by decide +kernel⟩
abbrev s__law_great : Stmt := topS 36
abbrev N__law_great : List Str := ["_law_pool_here", "_law_value", "_law_k"]
theorem sc__law_great : FnScope N__law_great ["_law_pool_here"] (defScope s__law_great) := ⟨rfl, rfl, rfl, by decide +kernel, rfl, by decide +kernel, by decide +kernel⟩
abbrev s__law_int : Stmt := topS 37
abbrev N__law_int : List Str := ["_law_value"]
theorem sc__law_int : FnScope N__law_int ["_law_value"] (defScope s__law_int) := ⟨rfl, rfl, rfl, by decide +kernel, rfl, by decide +kernel, by decide +kernel⟩
abbrev s__law_common : Stmt := topS 38
abbrev N__law_common : List Str := ["_law_first", "_law_second", "_law_k", "_law_rest"]
theorem sc__law_common : FnScope N__law_common ["_law_first", "_law_second"] (defScope s__law_common) := ⟨rfl, rfl, rfl, by decide +kernel, rfl, by decide +kernel, by decide +kernel⟩
abbrev s__law_share : Stmt := topS 39
abbrev N__law_share : List Str := ["_law_pool_here", "_law_high", "_law_low", "_law_choice", "_law_part"]
theorem sc__law_share : FnScope N__law_share ["_law_pool_here"] (defScope s__law_share) := ⟨rfl, rfl, rfl, by decide +kernel, rfl, by decide +kernel, by decide +kernel⟩
abbrev s__law_stands : Stmt := topS 40
abbrev N__law_stands : List Str := ["_law_got", "_law_high", "_law_low"]
theorem sc__law_stands : FnScope N__law_stands ["_law_got", "_law_high", "_law_low"] (defScope s__law_stands) := ⟨rfl, rfl, rfl, by decide +kernel, rfl, by decide +kernel, by decide +kernel⟩
abbrev s__law_deed : Stmt := topS 41
abbrev N__law_deed : List Str := ["_law_deed_here", "_law_row_here"]
theorem sc__law_deed : FnScope N__law_deed ["_law_deed_here", "_law_row_here"] (defScope s__law_deed) := ⟨rfl, rfl, rfl, by decide +kernel, rfl, by decide +kernel, by decide +kernel⟩
abbrev s__law_refused : Stmt := topS 42
abbrev N__law_refused : List Str := ["_law_deed_here", "_law_row_here", "_law_due", "e", "_law_kin"]
theorem sc__law_refused : FnScope N__law_refused ["_law_deed_here", "_law_row_here", "_law_due"] (defScope s__law_refused) := ⟨rfl, rfl, rfl, by decide +kernel, rfl, by decide +kernel, by decide +kernel⟩
abbrev s__law_number : Stmt := topS 43
abbrev N__law_number : List Str := ["_law_deed_here", "_law_a", "_law_b"]
theorem sc__law_number : FnScope N__law_number ["_law_deed_here", "_law_a", "_law_b"] (defScope s__law_number) := ⟨rfl, rfl, rfl, by decide +kernel, rfl, by decide +kernel, by decide +kernel⟩
abbrev s__law_pair : Stmt := topS 44
abbrev N__law_pair : List Str := ["_law_a", "_law_b", "_law_deed_here", "_law_below", "_law_high", "_law_low"]
theorem sc__law_pair : FnScope N__law_pair ["_law_a", "_law_b"] (defScope s__law_pair) := ⟨rfl, rfl, rfl, by decide +kernel, rfl, by decide +kernel, by decide +kernel⟩
abbrev s__law_chain : Stmt := topS 45
abbrev N__law_chain : List Str := ["_law_pool_here", "_law_a", "_law_k", "_law_b", "_law_part", "_law_deed_here", "_law_high", "_law_low"]
theorem sc__law_chain : FnScope N__law_chain ["_law_pool_here", "_law_a"] (defScope s__law_chain) := ⟨rfl, rfl, rfl, by decide +kernel, rfl, by decide +kernel, by decide +kernel⟩
abbrev s__law_joined : Stmt := topS 46
abbrev N__law_joined : List Str := ["_law_pool_here", "_law_m", "_law_row_here", "_law_k"]
theorem sc__law_joined : FnScope N__law_joined ["_law_pool_here", "_law_m"] (defScope s__law_joined) := ⟨rfl, rfl, rfl, by decide +kernel, rfl, by decide +kernel, by decide +kernel⟩
abbrev s__law_row : Stmt := topS 47
abbrev N__law_row : List Str := ["_law_got", "_law_due", "_law_x"]
theorem sc__law_row : FnScope N__law_row ["_law_got", "_law_due"] (defScope s__law_row) := ⟨rfl, rfl, rfl, by decide +kernel, rfl, by decide +kernel, by decide +kernel⟩
abbrev s__law_listed : Stmt := topS 48
abbrev N__law_listed : List Str := ["_law_m", "_law_got", "_law_k", "_law_row_here", "_law_p", "_law_x"]
theorem sc__law_listed : FnScope N__law_listed ["_law_m"] (defScope s__law_listed) := ⟨rfl, rfl, rfl, by decide +kernel, rfl, by decide +kernel, by decide +kernel⟩
abbrev s__law_blocks : Stmt := topS 49
abbrev N__law_blocks : List Str := ["_law_pool_here", "_law_m", "_law_row_here", "_law_got", "_law_leasts", "_law_k", "_law_lots_now", "_law_p", "_law_kept", "_law_block"]
theorem sc__law_blocks : FnScope N__law_blocks ["_law_pool_here", "_law_m", "_law_row_here"] (defScope s__law_blocks) := ⟨rfl, rfl, rfl, by decide +kernel, rfl, by decide +kernel, by decide +kernel⟩
abbrev s__law_both : Stmt := topS 50
abbrev N__law_both : List Str := ["_law_m", "_law_first", "_law_second", "_law_due", "_law_lap", "_law_got", "_law_p", "_law_low"]
theorem sc__law_both : FnScope N__law_both ["_law_m", "_law_first", "_law_second"] (defScope s__law_both) := ⟨rfl, rfl, rfl, by decide +kernel, rfl, by decide +kernel, by decide +kernel⟩
abbrev s__law_refusals : Stmt := topS 51
abbrev N__law_refusals : List Str := ["_law_bad", "_law_value", "_law_deed_here"]
theorem sc__law_refusals : FnScope N__law_refusals [] (defScope s__law_refusals) := ⟨rfl, rfl, rfl, by decide +kernel, rfl, by decide +kernel, by decide +kernel⟩
abbrev s_law : Stmt := topS 52
abbrev N_law : List Str := ["_law_script", "_law_pool_here", "_law_shares", "_law_near", "_law_scale", "_law_high", "_law_low", "_law_a", "_law_m", "_law_first", "_law_second", "_law_b", "_law_k"]
theorem sc_law : FnScope N_law ["_law_script"] (defScope s_law) := ⟨rfl, rfl, rfl, by decide +kernel, rfl, by decide +kernel, by decide +kernel⟩
abbrev si_NotUsable : Stmt := inC 5 0
structure Txt (K : PySem.W.Frag) (mg : Str → Option Value) (A : Nat → Addr) (FD : Nat → FuncData) (CA CI : Nat → Addr) (FC : Nat → FuncData) : Prop where
  g_is_integer : mg "is_integer" = some (.ref (A 0))
  F_is_integer : Fun K "is_integer" "is_integer" s_is_integer (A 0) (FD 0)
  g_is_number : mg "is_number" = some (.ref (A 1))
  F_is_number : Fun K "is_number" "is_number" s_is_number (A 1) (FD 1)
  g_is_positive : mg "is_positive" = some (.ref (A 2))
  F_is_positive : Fun K "is_positive" "is_positive" s_is_positive (A 2) (FD 2)
  g_is_tuple_of : mg "is_tuple_of" = some (.ref (A 3))
  F_is_tuple_of : Fun K "is_tuple_of" "is_tuple_of" s_is_tuple_of (A 3) (FD 3)
  g_is_quotient : mg "is_quotient" = some (.ref (A 4))
  F_is_quotient : Fun K "is_quotient" "is_quotient" s_is_quotient (A 4) (FD 4)
  g_are_below : mg "are_below" = some (.ref (A 5))
  F_are_below : Fun K "are_below" "are_below" s_are_below (A 5) (FD 5)
  g_is_lot : mg "is_lot" = some (.ref (A 6))
  F_is_lot : Fun K "is_lot" "is_lot" s_is_lot (A 6) (FD 6)
  g_is_joining : mg "is_joining" = some (.ref (A 7))
  F_is_joining : Fun K "is_joining" "is_joining" s_is_joining (A 7) (FD 7)
  g_need : mg "need" = some (.ref (A 8))
  F_need : Fun K "need" "need" s_need (A 8) (FD 8)
  g_quotient_of : mg "quotient_of" = some (.ref (A 9))
  F_quotient_of : Fun K "quotient_of" "quotient_of" s_quotient_of (A 9) (FD 9)
  g_need_both : mg "need_both" = some (.ref (A 10))
  F_need_both : Fun K "need_both" "need_both" s_need_both (A 10) (FD 10)
  g_plus : mg "plus" = some (.ref (A 11))
  F_plus : Fun K "plus" "plus" s_plus (A 11) (FD 11)
  g_minus : mg "minus" = some (.ref (A 12))
  F_minus : Fun K "minus" "minus" s_minus (A 12) (FD 12)
  g_times : mg "times" = some (.ref (A 13))
  F_times : Fun K "times" "times" s_times (A 13) (FD 13)
  g_over : mg "over" = some (.ref (A 14))
  F_over : Fun K "over" "over" s_over (A 14) (FD 14)
  g_less : mg "less" = some (.ref (A 15))
  F_less : Fun K "less" "less" s_less (A 15) (FD 15)
  g_joinings_of : mg "joinings_of" = some (.ref (A 16))
  F_joinings_of : Fun K "joinings_of" "joinings_of" s_joinings_of (A 16) (FD 16)
  g_blocks_in : mg "blocks_in" = some (.ref (A 17))
  F_blocks_in : Fun K "blocks_in" "blocks_in" s_blocks_in (A 17) (FD 17)
  g_blocks_of : mg "blocks_of" = some (.ref (A 18))
  F_blocks_of : Fun K "blocks_of" "blocks_of" s_blocks_of (A 18) (FD 18)
  g_are_blocks : mg "are_blocks" = some (.ref (A 19))
  F_are_blocks : Fun K "are_blocks" "are_blocks" s_are_blocks (A 19) (FD 19)
  g_joining_of : mg "joining_of" = some (.ref (A 20))
  F_joining_of : Fun K "joining_of" "joining_of" s_joining_of (A 20) (FD 20)
  g_joined_two : mg "joined_two" = some (.ref (A 21))
  F_joined_two : Fun K "joined_two" "joined_two" s_joined_two (A 21) (FD 21)
  g_joined_with : mg "joined_with" = some (.ref (A 22))
  F_joined_with : Fun K "joined_with" "joined_with" s_joined_with (A 22) (FD 22)
  g__law_pool : mg "_law_pool" = some (.ref (A 23))
  F__law_pool : Fun K "_law_pool" "_law_pool" s__law_pool (A 23) (FD 23)
  g__law_take : mg "_law_take" = some (.ref (A 24))
  F__law_take : Fun K "_law_take" "_law_take" s__law_take (A 24) (FD 24)
  g__law_great : mg "_law_great" = some (.ref (A 25))
  F__law_great : Fun K "_law_great" "_law_great" s__law_great (A 25) (FD 25)
  g__law_int : mg "_law_int" = some (.ref (A 26))
  F__law_int : Fun K "_law_int" "_law_int" s__law_int (A 26) (FD 26)
  g__law_common : mg "_law_common" = some (.ref (A 27))
  F__law_common : Fun K "_law_common" "_law_common" s__law_common (A 27) (FD 27)
  g__law_share : mg "_law_share" = some (.ref (A 28))
  F__law_share : Fun K "_law_share" "_law_share" s__law_share (A 28) (FD 28)
  g__law_stands : mg "_law_stands" = some (.ref (A 29))
  F__law_stands : Fun K "_law_stands" "_law_stands" s__law_stands (A 29) (FD 29)
  g__law_deed : mg "_law_deed" = some (.ref (A 30))
  F__law_deed : Fun K "_law_deed" "_law_deed" s__law_deed (A 30) (FD 30)
  g__law_refused : mg "_law_refused" = some (.ref (A 31))
  F__law_refused : Fun K "_law_refused" "_law_refused" s__law_refused (A 31) (FD 31)
  g__law_number : mg "_law_number" = some (.ref (A 32))
  F__law_number : Fun K "_law_number" "_law_number" s__law_number (A 32) (FD 32)
  g__law_pair : mg "_law_pair" = some (.ref (A 33))
  F__law_pair : Fun K "_law_pair" "_law_pair" s__law_pair (A 33) (FD 33)
  g__law_chain : mg "_law_chain" = some (.ref (A 34))
  F__law_chain : Fun K "_law_chain" "_law_chain" s__law_chain (A 34) (FD 34)
  g__law_joined : mg "_law_joined" = some (.ref (A 35))
  F__law_joined : Fun K "_law_joined" "_law_joined" s__law_joined (A 35) (FD 35)
  g__law_row : mg "_law_row" = some (.ref (A 36))
  F__law_row : Fun K "_law_row" "_law_row" s__law_row (A 36) (FD 36)
  g__law_listed : mg "_law_listed" = some (.ref (A 37))
  F__law_listed : Fun K "_law_listed" "_law_listed" s__law_listed (A 37) (FD 37)
  g__law_blocks : mg "_law_blocks" = some (.ref (A 38))
  F__law_blocks : Fun K "_law_blocks" "_law_blocks" s__law_blocks (A 38) (FD 38)
  g__law_both : mg "_law_both" = some (.ref (A 39))
  F__law_both : Fun K "_law_both" "_law_both" s__law_both (A 39) (FD 39)
  g__law_refusals : mg "_law_refusals" = some (.ref (A 40))
  F__law_refusals : Fun K "_law_refusals" "_law_refusals" s__law_refusals (A 40) (FD 40)
  g_law : mg "law" = some (.ref (A 41))
  F_law : Fun K "law" "law" s_law (A 41) (FD 41)
  n_ValueError : mg "ValueError" = none
  n_abs : mg "abs" = none
  n_all : mg "all" = none
  n_bool : mg "bool" = none
  n_enumerate : mg "enumerate" = none
  n_int : mg "int" = none
  n_isinstance : mg "isinstance" = none
  n_len : mg "len" = none
  n_list : mg "list" = none
  n_max : mg "max" = none
  n_min : mg "min" = none
  n_range : mg "range" = none
  n_set : mg "set" = none
  n_sorted : mg "sorted" = none
  n_str : mg "str" = none
  n_tuple : mg "tuple" = none
  n_zip : mg "zip" = none
  x_NotUsable : ExT K mg "NotUsable" (CA 3) (CI 3) (FC 3) ["self", "word", "at"]
  FI_NotUsable : Fun K "__init__" "NotUsable.__init__" si_NotUsable (CI 3) (FC 3)
  xi_NotUsable : L2.ExcC K (CA 3)
  no_NotUsable_at : PySem.W.findIn K (.ref (CA 3)) "at" = some none
  no_NotUsable_word : PySem.W.findIn K (.ref (CA 3)) "word" = some none
  gc_LedError : mg "LedError" = some (.ref (CA 0))
  gc_PaperError : mg "PaperError" = some (.ref (CA 1))
  gc_WebError : mg "WebError" = some (.ref (CA 2))
  kit_NotUsable_LedError : PySem.W.kitOne K (.ref (CA 3)) (.ref (CA 0)) = some true
  kit_NotUsable_PaperError : PySem.W.kitOne K (.ref (CA 3)) (.ref (CA 1)) = some false
  kit_NotUsable_ValueError : PySem.W.kitOne K (.ref (CA 3)) (.type "ValueError") = some true
  kit_NotUsable_WebError : PySem.W.kitOne K (.ref (CA 3)) (.ref (CA 2)) = some true
  i_gcd : mg "gcd" = some (.builtin "math.gcd")
theorem bd_is_integer {K : PySem.W.Frag} {f : Addr} {fd : FuncData} (F : Fun K "is_integer" "is_integer" s_is_integer f fd) : Binds K fd ["thing"] [] := F.binds fun _ _ _ _ _ _ us hl => match us, hl with | [_], _ => rfl
theorem bd_is_number {K : PySem.W.Frag} {f : Addr} {fd : FuncData} (F : Fun K "is_number" "is_number" s_is_number f fd) : Binds K fd ["thing"] [] := F.binds fun _ _ _ _ _ _ us hl => match us, hl with | [_], _ => rfl
theorem bd_is_positive {K : PySem.W.Frag} {f : Addr} {fd : FuncData} (F : Fun K "is_positive" "is_positive" s_is_positive f fd) : Binds K fd ["thing"] [] := F.binds fun _ _ _ _ _ _ us hl => match us, hl with | [_], _ => rfl
theorem bd_is_tuple_of {K : PySem.W.Frag} {f : Addr} {fd : FuncData} (F : Fun K "is_tuple_of" "is_tuple_of" s_is_tuple_of f fd) : Binds K fd ["many", "thing"] [] := F.binds fun _ _ _ _ _ _ us hl => match us, hl with | [_, _], _ => rfl
theorem bd_is_quotient {K : PySem.W.Frag} {f : Addr} {fd : FuncData} (F : Fun K "is_quotient" "is_quotient" s_is_quotient f fd) : Binds K fd ["thing"] [] := F.binds fun _ _ _ _ _ _ us hl => match us, hl with | [_], _ => rfl
theorem bd_are_below {K : PySem.W.Frag} {f : Addr} {fd : FuncData} (F : Fun K "are_below" "are_below" s_are_below f fd) : Binds K fd ["size", "thing"] [] := F.binds fun _ _ _ _ _ _ us hl => match us, hl with | [_, _], _ => rfl
theorem bd_is_lot {K : PySem.W.Frag} {f : Addr} {fd : FuncData} (F : Fun K "is_lot" "is_lot" s_is_lot f fd) : Binds K fd ["size", "thing"] [] := F.binds fun _ _ _ _ _ _ us hl => match us, hl with | [_, _], _ => rfl
theorem bd_is_joining {K : PySem.W.Frag} {f : Addr} {fd : FuncData} (F : Fun K "is_joining" "is_joining" s_is_joining f fd) : Binds K fd ["many", "thing"] [] := F.binds fun _ _ _ _ _ _ us hl => match us, hl with | [_, _], _ => rfl
theorem bd_need {K : PySem.W.Frag} {f : Addr} {fd : FuncData} (F : Fun K "need" "need" s_need f fd) : Binds K fd ["holds", "name"] [] := F.binds fun _ _ _ _ _ _ us hl => match us, hl with | [_, _], _ => rfl
theorem bd_quotient_of {K : PySem.W.Frag} {f : Addr} {fd : FuncData} (F : Fun K "quotient_of" "quotient_of" s_quotient_of f fd) : Binds K fd ["top", "bottom"] [] := F.binds fun _ _ _ _ _ _ us hl => match us, hl with | [_, _], _ => rfl
theorem bd_need_both {K : PySem.W.Frag} {f : Addr} {fd : FuncData} (F : Fun K "need_both" "need_both" s_need_both f fd) : Binds K fd ["one", "other"] [] := F.binds fun _ _ _ _ _ _ us hl => match us, hl with | [_, _], _ => rfl
theorem bd_plus {K : PySem.W.Frag} {f : Addr} {fd : FuncData} (F : Fun K "plus" "plus" s_plus f fd) : Binds K fd ["one", "other"] [] := F.binds fun _ _ _ _ _ _ us hl => match us, hl with | [_, _], _ => rfl
theorem bd_minus {K : PySem.W.Frag} {f : Addr} {fd : FuncData} (F : Fun K "minus" "minus" s_minus f fd) : Binds K fd ["one", "other"] [] := F.binds fun _ _ _ _ _ _ us hl => match us, hl with | [_, _], _ => rfl
theorem bd_times {K : PySem.W.Frag} {f : Addr} {fd : FuncData} (F : Fun K "times" "times" s_times f fd) : Binds K fd ["one", "other"] [] := F.binds fun _ _ _ _ _ _ us hl => match us, hl with | [_, _], _ => rfl
theorem bd_over {K : PySem.W.Frag} {f : Addr} {fd : FuncData} (F : Fun K "over" "over" s_over f fd) : Binds K fd ["one", "other"] [] := F.binds fun _ _ _ _ _ _ us hl => match us, hl with | [_, _], _ => rfl
theorem bd_less {K : PySem.W.Frag} {f : Addr} {fd : FuncData} (F : Fun K "less" "less" s_less f fd) : Binds K fd ["one", "other"] [] := F.binds fun _ _ _ _ _ _ us hl => match us, hl with | [_, _], _ => rfl
theorem bd_joinings_of {K : PySem.W.Frag} {f : Addr} {fd : FuncData} (F : Fun K "joinings_of" "joinings_of" s_joinings_of f fd) : Binds K fd ["many"] [] := F.binds fun _ _ _ _ _ _ us hl => match us, hl with | [_], _ => rfl
theorem bd_blocks_in {K : PySem.W.Frag} {f : Addr} {fd : FuncData} (F : Fun K "blocks_in" "blocks_in" s_blocks_in f fd) : Binds K fd ["joining"] [] := F.binds fun _ _ _ _ _ _ us hl => match us, hl with | [_], _ => rfl
theorem bd_blocks_of {K : PySem.W.Frag} {f : Addr} {fd : FuncData} (F : Fun K "blocks_of" "blocks_of" s_blocks_of f fd) : Binds K fd ["many", "joining"] [] := F.binds fun _ _ _ _ _ _ us hl => match us, hl with | [_, _], _ => rfl
theorem bd_are_blocks {K : PySem.W.Frag} {f : Addr} {fd : FuncData} (F : Fun K "are_blocks" "are_blocks" s_are_blocks f fd) : Binds K fd ["many", "thing"] [] := F.binds fun _ _ _ _ _ _ us hl => match us, hl with | [_, _], _ => rfl
theorem bd_joining_of {K : PySem.W.Frag} {f : Addr} {fd : FuncData} (F : Fun K "joining_of" "joining_of" s_joining_of f fd) : Binds K fd ["many", "lots"] [] := F.binds fun _ _ _ _ _ _ us hl => match us, hl with | [_, _], _ => rfl
theorem bd_joined_two {K : PySem.W.Frag} {f : Addr} {fd : FuncData} (F : Fun K "joined_two" "joined_two" s_joined_two f fd) : Binds K fd ["joining", "one", "other"] [] := F.binds fun _ _ _ _ _ _ us hl => match us, hl with | [_, _, _], _ => rfl
theorem bd_joined_with {K : PySem.W.Frag} {f : Addr} {fd : FuncData} (F : Fun K "joined_with" "joined_with" s_joined_with f fd) : Binds K fd ["many", "joining", "other"] [] := F.binds fun _ _ _ _ _ _ us hl => match us, hl with | [_, _, _], _ => rfl
theorem bd__law_pool {K : PySem.W.Frag} {f : Addr} {fd : FuncData} (F : Fun K "_law_pool" "_law_pool" s__law_pool f fd) : Binds K fd ["_law_script"] [] := F.binds fun _ _ _ _ _ _ us hl => match us, hl with | [_], _ => rfl
theorem bd__law_take {K : PySem.W.Frag} {f : Addr} {fd : FuncData} (F : Fun K "_law_take" "_law_take" s__law_take f fd) : Binds K fd ["_law_pool_here", "_law_bound"] [] := F.binds fun _ _ _ _ _ _ us hl => match us, hl with | [_, _], _ => rfl
theorem bd__law_great {K : PySem.W.Frag} {f : Addr} {fd : FuncData} (F : Fun K "_law_great" "_law_great" s__law_great f fd) : Binds K fd ["_law_pool_here"] [] := F.binds fun _ _ _ _ _ _ us hl => match us, hl with | [_], _ => rfl
theorem bd__law_int {K : PySem.W.Frag} {f : Addr} {fd : FuncData} (F : Fun K "_law_int" "_law_int" s__law_int f fd) : Binds K fd ["_law_value"] [] := F.binds fun _ _ _ _ _ _ us hl => match us, hl with | [_], _ => rfl
theorem bd__law_common {K : PySem.W.Frag} {f : Addr} {fd : FuncData} (F : Fun K "_law_common" "_law_common" s__law_common f fd) : Binds K fd ["_law_first", "_law_second"] [] := F.binds fun _ _ _ _ _ _ us hl => match us, hl with | [_, _], _ => rfl
theorem bd__law_share {K : PySem.W.Frag} {f : Addr} {fd : FuncData} (F : Fun K "_law_share" "_law_share" s__law_share f fd) : Binds K fd ["_law_pool_here"] [] := F.binds fun _ _ _ _ _ _ us hl => match us, hl with | [_], _ => rfl
theorem bd__law_stands {K : PySem.W.Frag} {f : Addr} {fd : FuncData} (F : Fun K "_law_stands" "_law_stands" s__law_stands f fd) : Binds K fd ["_law_got", "_law_high", "_law_low"] [] := F.binds fun _ _ _ _ _ _ us hl => match us, hl with | [_, _, _], _ => rfl
theorem bd__law_deed {K : PySem.W.Frag} {f : Addr} {fd : FuncData} (F : Fun K "_law_deed" "_law_deed" s__law_deed f fd) : Binds K fd ["_law_deed_here", "_law_row_here"] [] := F.binds fun _ _ _ _ _ _ us hl => match us, hl with | [_, _], _ => rfl
theorem bd__law_refused {K : PySem.W.Frag} {f : Addr} {fd : FuncData} (F : Fun K "_law_refused" "_law_refused" s__law_refused f fd) : Binds K fd ["_law_deed_here", "_law_row_here", "_law_due"] [] := F.binds fun _ _ _ _ _ _ us hl => match us, hl with | [_, _, _], _ => rfl
theorem bd__law_number {K : PySem.W.Frag} {f : Addr} {fd : FuncData} (F : Fun K "_law_number" "_law_number" s__law_number f fd) : Binds K fd ["_law_deed_here", "_law_a", "_law_b"] [] := F.binds fun _ _ _ _ _ _ us hl => match us, hl with | [_, _, _], _ => rfl
theorem bd__law_pair {K : PySem.W.Frag} {f : Addr} {fd : FuncData} (F : Fun K "_law_pair" "_law_pair" s__law_pair f fd) : Binds K fd ["_law_a", "_law_b"] [] := F.binds fun _ _ _ _ _ _ us hl => match us, hl with | [_, _], _ => rfl
theorem bd__law_chain {K : PySem.W.Frag} {f : Addr} {fd : FuncData} (F : Fun K "_law_chain" "_law_chain" s__law_chain f fd) : Binds K fd ["_law_pool_here", "_law_a"] [] := F.binds fun _ _ _ _ _ _ us hl => match us, hl with | [_, _], _ => rfl
theorem bd__law_joined {K : PySem.W.Frag} {f : Addr} {fd : FuncData} (F : Fun K "_law_joined" "_law_joined" s__law_joined f fd) : Binds K fd ["_law_pool_here", "_law_m"] [] := F.binds fun _ _ _ _ _ _ us hl => match us, hl with | [_, _], _ => rfl
theorem bd__law_row {K : PySem.W.Frag} {f : Addr} {fd : FuncData} (F : Fun K "_law_row" "_law_row" s__law_row f fd) : Binds K fd ["_law_got", "_law_due"] [] := F.binds fun _ _ _ _ _ _ us hl => match us, hl with | [_, _], _ => rfl
theorem bd__law_listed {K : PySem.W.Frag} {f : Addr} {fd : FuncData} (F : Fun K "_law_listed" "_law_listed" s__law_listed f fd) : Binds K fd ["_law_m"] [] := F.binds fun _ _ _ _ _ _ us hl => match us, hl with | [_], _ => rfl
theorem bd__law_blocks {K : PySem.W.Frag} {f : Addr} {fd : FuncData} (F : Fun K "_law_blocks" "_law_blocks" s__law_blocks f fd) : Binds K fd ["_law_pool_here", "_law_m", "_law_row_here"] [] := F.binds fun _ _ _ _ _ _ us hl => match us, hl with | [_, _, _], _ => rfl
theorem bd__law_both {K : PySem.W.Frag} {f : Addr} {fd : FuncData} (F : Fun K "_law_both" "_law_both" s__law_both f fd) : Binds K fd ["_law_m", "_law_first", "_law_second"] [] := F.binds fun _ _ _ _ _ _ us hl => match us, hl with | [_, _, _], _ => rfl
theorem bd__law_refusals {K : PySem.W.Frag} {f : Addr} {fd : FuncData} (F : Fun K "_law_refusals" "_law_refusals" s__law_refusals f fd) : Binds K fd [] [] := F.binds fun _ _ _ _ _ _ us hl => match us, hl with | [], _ => rfl
theorem bd_law {K : PySem.W.Frag} {f : Addr} {fd : FuncData} (F : Fun K "law" "law" s_law f fd) : Binds K fd ["_law_script"] [] := F.binds fun _ _ _ _ _ _ us hl => match us, hl with | [_], _ => rfl
section
variable {P : Program} {w : World} {K : PySem.W.Frag} {mg : Str → Option Value} {base : Heap} {A : Nat → Addr} {FD : Nat → FuncData} {CA CI : Nat → Addr} {FC : Nat → FuncData}
theorem sc_ini_NotUsable : FnScope ["self", "word", "at"] ["self", "word", "at"] (defScope si_NotUsable) := ⟨rfl, rfl, rfl, by decide +kernel, rfl, by decide +kernel, by decide +kernel⟩
theorem ini_NotUsable (T : Txt K mg A FD CA CI FC) : FnOk P w K mg base (L2N.CX P w) 1 (CI 3) (FC 3) ["self", "word", "at"] (spIni K (CA 3) ["word", "at"]) := ini2 T.FI_NotUsable sc_ini_NotUsable rfl T.x_NotUsable.o T.no_NotUsable_word T.no_NotUsable_at (by first | exact .inl rfl | exact .inr (.inl rfl) | exact .inr (.inr rfl)) (by first | exact .inl rfl | exact .inr (.inl rfl) | exact .inr (.inr rfl)) (by first | exact .inl rfl | exact .inr (.inl rfl) | exact .inr (.inr rfl))
theorem kb_blocks_of_1_0 {f : Addr} {fd : FuncData} (F : Fun K "blocks_of" "blocks_of" s_blocks_of f fd) : KB fd ["many", "joining"] ["joining", "many"] [1, 0] := KB.of F fun _ _ _ _ _ _ ws hl => match ws, hl with | [_, _], _ => rfl
theorem kb_joined_with_2_1_0 {f : Addr} {fd : FuncData} (F : Fun K "joined_with" "joined_with" s_joined_with f fd) : KB fd ["many", "joining", "other"] ["other", "joining", "many"] [2, 1, 0] := KB.of F fun _ _ _ _ _ _ ws hl => match ws, hl with | [_, _, _], _ => rfl
theorem kb_joining_of_1_0 {f : Addr} {fd : FuncData} (F : Fun K "joining_of" "joining_of" s_joining_of f fd) : KB fd ["many", "lots"] ["lots", "many"] [1, 0] := KB.of F fun _ _ _ _ _ _ ws hl => match ws, hl with | [_, _], _ => rfl
theorem kb_less_1_0 {f : Addr} {fd : FuncData} (F : Fun K "less" "less" s_less f fd) : KB fd ["one", "other"] ["other", "one"] [1, 0] := KB.of F fun _ _ _ _ _ _ ws hl => match ws, hl with | [_, _], _ => rfl
theorem kb_minus_1_0 {f : Addr} {fd : FuncData} (F : Fun K "minus" "minus" s_minus f fd) : KB fd ["one", "other"] ["other", "one"] [1, 0] := KB.of F fun _ _ _ _ _ _ ws hl => match ws, hl with | [_, _], _ => rfl
theorem kb_over_1_0 {f : Addr} {fd : FuncData} (F : Fun K "over" "over" s_over f fd) : KB fd ["one", "other"] ["other", "one"] [1, 0] := KB.of F fun _ _ _ _ _ _ ws hl => match ws, hl with | [_, _], _ => rfl
theorem kb_plus_1_0 {f : Addr} {fd : FuncData} (F : Fun K "plus" "plus" s_plus f fd) : KB fd ["one", "other"] ["other", "one"] [1, 0] := KB.of F fun _ _ _ _ _ _ ws hl => match ws, hl with | [_, _], _ => rfl
theorem kb_quotient_of_1_0 {f : Addr} {fd : FuncData} (F : Fun K "quotient_of" "quotient_of" s_quotient_of f fd) : KB fd ["top", "bottom"] ["bottom", "top"] [1, 0] := KB.of F fun _ _ _ _ _ _ ws hl => match ws, hl with | [_, _], _ => rfl
theorem kb_times_1_0 {f : Addr} {fd : FuncData} (F : Fun K "times" "times" s_times f fd) : KB fd ["one", "other"] ["other", "one"] [1, 0] := KB.of F fun _ _ _ _ _ _ ws hl => match ws, hl with | [_, _], _ => rfl
def M_is_integer : Ms := (mRet (mVal (mAndV (mIsi .int (mVar 0)) (mNotV (mIsi .bool (mVar 0))))))
def D_is_integer : DF := runDef 1 1 [0] M_is_integer
theorem ok_is_integer (T : Txt K mg A FD CA CI FC) : FnOk P w K mg base (L2N.CX P w) 1 (A 0) (FD 0) ["thing"] (spD K mg D_is_integer) := by
  refine def_ok T.F_is_integer sc_is_integer fun cdv A outer s H E hr tk => ?_
  have nd := sc_is_integer.nd
  have hu := hr.u64
  exact (ss_one (s_ret (x_val (x_and (x_isi (y := .int) rfl T.n_isinstance rfl T.n_int (x_var (i := 0) rfl (by first | exact .inl rfl | exact .inr (.inl rfl) | exact .inr (.inr rfl)))) (x_one (x_not (x_isi (y := .bool) rfl T.n_isinstance rfl T.n_bool (x_var (i := 0) rfl (by first | exact .inl rfl | exact .inr (.inl rfl) | exact .inr (.inr rfl))))))))))
def M_is_number : Ms := (mRet (mVal (mAndV (mTree (mCall D_is_integer (mCons (mVar 0) mNil))) (mTree (m2 fGe (mVar 0) (mC (.int 0)))))))
def D_is_number : DF := runDef 1 1 [0] M_is_number
theorem ok_is_number (T : Txt K mg A FD CA CI FC) : FnOk P w K mg base (L2N.CX P w) 2 (A 1) (FD 1) ["thing"] (spD K mg D_is_number) := by
  refine def_ok T.F_is_number sc_is_number fun cdv A outer s H E hr tk => ?_
  have nd := sc_is_number.nd
  have hu := hr.u64
  exact (ss_one (s_ret (x_val (x_and (x_tree (x_call (ok_is_integer T) (hr.mono (by decide)) tk rfl T.g_is_integer T.F_is_integer.kp (bd_is_integer T.F_is_integer) (x_cons (x_var (i := 0) rfl (by first | exact .inl rfl | exact .inr (.inl rfl) | exact .inr (.inr rfl))) x_nil))) (x_one (x_tree (x_cmp op_ge f_cmp (x_var (i := 0) rfl (by first | exact .inl rfl | exact .inr (.inl rfl) | exact .inr (.inr rfl))) x_int (nomark _))))))))
def M_is_positive : Ms := (mRet (mVal (mAndV (mTree (mCall D_is_integer (mCons (mVar 0) mNil))) (mTree (m2 fGe (mVar 0) (mC (.int 1)))))))
def D_is_positive : DF := runDef 1 1 [0] M_is_positive
theorem ok_is_positive (T : Txt K mg A FD CA CI FC) : FnOk P w K mg base (L2N.CX P w) 2 (A 2) (FD 2) ["thing"] (spD K mg D_is_positive) := by
  refine def_ok T.F_is_positive sc_is_positive fun cdv A outer s H E hr tk => ?_
  have nd := sc_is_positive.nd
  have hu := hr.u64
  exact (ss_one (s_ret (x_val (x_and (x_tree (x_call (ok_is_integer T) (hr.mono (by decide)) tk rfl T.g_is_integer T.F_is_integer.kp (bd_is_integer T.F_is_integer) (x_cons (x_var (i := 0) rfl (by first | exact .inl rfl | exact .inr (.inl rfl) | exact .inr (.inr rfl))) x_nil))) (x_one (x_tree (x_cmp op_ge f_cmp (x_var (i := 0) rfl (by first | exact .inl rfl | exact .inr (.inl rfl) | exact .inr (.inr rfl))) x_int (nomark _))))))))
def M_is_tuple_of : Ms := (mRet (mVal (mAndV (mIsi .tup (mVar 1)) (mTree (m2 fEq (mLenV 1) (mVar 0))))))
def D_is_tuple_of : DF := runDef 2 2 [0, 1] M_is_tuple_of
theorem ok_is_tuple_of (T : Txt K mg A FD CA CI FC) : FnOk P w K mg base (L2N.CX P w) 1 (A 3) (FD 3) ["many", "thing"] (spD K mg D_is_tuple_of) := by
  refine def_ok T.F_is_tuple_of sc_is_tuple_of fun cdv A outer s H E hr tk => ?_
  have nd := sc_is_tuple_of.nd
  have hu := hr.u64
  exact (ss_one (s_ret (x_val (x_and (x_isi (y := .tup) rfl T.n_isinstance rfl T.n_tuple (x_var (i := 1) rfl (by first | exact .inl rfl | exact .inr (.inl rfl) | exact .inr (.inr rfl)))) (x_one (x_tree (x_cmp (op_eq.or (op_eqD hu)) f_eq (x_lenV (i := 1) rfl T.n_len rfl (by first | exact .inl rfl | exact .inr (.inl rfl) | exact .inr (.inr rfl))) (x_var (i := 0) rfl (by first | exact .inl rfl | exact .inr (.inl rfl) | exact .inr (.inr rfl))) (nomark _))))))))
def M_is_quotient : Ms := (mSeq (mIfS (mNotT (mTst (mTree (mCall D_is_tuple_of (mCons (mC (.int 2)) (mCons (mVar 0) mNil))))))
  (mRet (mVal (mC (.bool false))))
  mNx)
  (mSeq (mAsg (gT (gsCons (gN 1) (gsCons (gN 2) gsNil)) 2) (mVar 0))
  (mRet (mVal (mAndV (mTree (mCall D_is_integer (mCons (mVar 1) mNil))) (mAndV (mTree (mCall D_is_positive (mCons (mVar 2) mNil))) (mTree (m2 fEq (mTree (mN fGcd (mCons (mVar 1) (mCons (mVar 2) mNil)))) (mC (.int 1))))))))))
def D_is_quotient : DF := runDef 3 1 [0] M_is_quotient
theorem ok_is_quotient (T : Txt K mg A FD CA CI FC) : FnOk P w K mg base (L2N.CX P w) 3 (A 4) (FD 4) ["thing"] (spD K mg D_is_quotient) := by
  refine def_ok T.F_is_quotient sc_is_quotient fun cdv A outer s H E hr tk => ?_
  have nd := sc_is_quotient.nd
  have hu := hr.u64
  exact (ss_cons (s_if (o_not (o_val (x_tree (x_call (ok_is_tuple_of T) (hr.mono (by decide)) tk rfl T.g_is_tuple_of T.F_is_tuple_of.kp (bd_is_tuple_of T.F_is_tuple_of) (x_cons x_int (x_cons (x_var (i := 0) rfl (by first | exact .inl rfl | exact .inr (.inl rfl) | exact .inr (.inr rfl))) x_nil))))))
  (ss_one (s_ret (x_val x_bl)))
  ss_nil)
  (ss_cons (s_asg (x_var (i := 0) rfl (by first | exact .inl rfl | exact .inr (.inl rfl) | exact .inr (.inr rfl))) (g_tup rfl (gs_cons (g_name (i := 1) nd rfl (by first | exact .inl rfl | exact .inr rfl)) (gs_cons (g_name (i := 2) nd rfl (by first | exact .inl rfl | exact .inr rfl)) gs_nil))) rfl)
  (ss_one (s_ret (x_val (x_and (x_tree (x_call (ok_is_integer T) (hr.mono (by decide)) tk rfl T.g_is_integer T.F_is_integer.kp (bd_is_integer T.F_is_integer) (x_cons (x_var (i := 1) rfl (by first | exact .inl rfl | exact .inr (.inl rfl) | exact .inr (.inr rfl))) x_nil))) (x_and (x_tree (x_call (ok_is_positive T) (hr.mono (by decide)) tk rfl T.g_is_positive T.F_is_positive.kp (bd_is_positive T.F_is_positive) (x_cons (x_var (i := 2) rfl (by first | exact .inl rfl | exact .inr (.inl rfl) | exact .inr (.inr rfl))) x_nil))) (x_one (x_tree (x_cmp (op_eq.or (op_eqD hu)) f_eq (x_tree (x_imp cr_gcd f_gcd rfl T.i_gcd (x_cons (x_var (i := 1) rfl (by first | exact .inl rfl | exact .inr (.inl rfl) | exact .inr (.inr rfl))) (x_cons (x_var (i := 2) rfl (by first | exact .inl rfl | exact .inr (.inl rfl) | exact .inr (.inr rfl))) x_nil)))) x_int (nomark _)))))))))))
def M_are_below : Ms := (mRet (mVal (mAndV (mIsi .tup (mVar 1)) (mTree (mN fAll (mCons (mTree (mComp (mSeq1 (mVar 1)) (gN 2) mYes (mAndV (mTree (mCall D_is_number (mCons (mVar 2) mNil))) (mTree (m2 fLt (mVar 2) (mVar 0)))) [2])) mNil))))))
def D_are_below : DF := runDef 3 2 [0, 1] M_are_below
theorem ok_are_below (T : Txt K mg A FD CA CI FC) : FnOk P w K mg base (L2N.CX P w) 3 (A 5) (FD 5) ["size", "thing"] (spD K mg D_are_below) := by
  refine def_ok T.F_are_below sc_are_below fun cdv A outer s H E hr tk => ?_
  have nd := sc_are_below.nd
  have hu := hr.u64
  exact (ss_one (s_ret (x_val (x_and (x_isi (y := .tup) rfl T.n_isinstance rfl T.n_tuple (x_var (i := 1) rfl (by first | exact .inl rfl | exact .inr (.inl rfl) | exact .inr (.inr rfl)))) (x_one (x_tree (x_blt (cr_all rfl) f_all rfl T.n_all (by decide +kernel) (x_cons (x_tree (x_lc (own := [("one", 2)]) rfl nd (i_seq (x_var (i := 1) rfl (by first | exact .inl rfl | exact .inr (.inl rfl) | exact .inr (.inr rfl)))) (blkOk_by (N := N_are_below) (sc := defScope s_are_below) (by decide +kernel)) (by decide) (fun _ _ _ _ _ => (g_name (i := 2) nd rfl (by first | exact .inl rfl | exact .inr rfl))) (fun _ _ _ _ _ => o_yes) (fun _ _ _ _ _ => (x_and (x_tree (x_call (ok_is_number T) (hr.mono (by decide)) takesN rfl T.g_is_number T.F_is_number.kp (bd_is_number T.F_is_number) (x_cons (x_var (i := 2) rfl (by first | exact .inl rfl | exact .inr (.inl rfl) | exact .inr (.inr rfl))) x_nil))) (x_one (x_tree (x_cmp op_lt f_cmp (x_var (i := 2) rfl (by first | exact .inl rfl | exact .inr (.inl rfl) | exact .inr (.inr rfl))) (x_var (i := 0) rfl (by first | exact .inl rfl | exact .inr (.inl rfl) | exact .inr (.inr rfl))) (nomark _)))))))) x_nil))))))))
def M_is_lot : Ms := (mRet (mVal (mAndV (mTree (mCall D_are_below (mCons (mVar 0) (mCons (mVar 1) mNil)))) (mTree (mN fAll (mCons (mTree (mComp (mZip (mCons (mVar 1) (mCons (mTree (mSl (mVar 1) (some (mC (.int 1))) none)) mNil))) (gT (gsCons (gN 2) (gsCons (gN 3) gsNil)) 2) mYes (mTree (m2 fLt (mVar 2) (mVar 3))) [2, 3])) mNil))))))
def D_is_lot : DF := runDef 4 2 [0, 1] M_is_lot
theorem ok_is_lot (T : Txt K mg A FD CA CI FC) : FnOk P w K mg base (L2N.CX P w) 4 (A 6) (FD 6) ["size", "thing"] (spD K mg D_is_lot) := by
  refine def_ok T.F_is_lot sc_is_lot fun cdv A outer s H E hr tk => ?_
  have nd := sc_is_lot.nd
  have hu := hr.u64
  exact (ss_one (s_ret (x_val (x_and (x_tree (x_call (ok_are_below T) (hr.mono (by decide)) tk rfl T.g_are_below T.F_are_below.kp (bd_are_below T.F_are_below) (x_cons (x_var (i := 0) rfl (by first | exact .inl rfl | exact .inr (.inl rfl) | exact .inr (.inr rfl))) (x_cons (x_var (i := 1) rfl (by first | exact .inl rfl | exact .inr (.inl rfl) | exact .inr (.inr rfl))) x_nil)))) (x_one (x_tree (x_blt (cr_all rfl) f_all rfl T.n_all (by decide +kernel) (x_cons (x_tree (x_lc (own := [("one", 2), ("other", 3)]) rfl nd (i_zip rfl T.n_zip (x_cons (x_var (i := 1) rfl (by first | exact .inl rfl | exact .inr (.inl rfl) | exact .inr (.inr rfl))) (x_cons (x_tree (x_sl (x_var (i := 1) rfl (by first | exact .inl rfl | exact .inr (.inl rfl) | exact .inr (.inr rfl))) (p_some x_int) p_none)) x_nil))) (blkOk_by (N := N_is_lot) (sc := defScope s_is_lot) (by decide +kernel)) (by decide) (fun _ _ _ _ _ => (g_tup rfl (gs_cons (g_name (i := 2) nd rfl (by first | exact .inl rfl | exact .inr rfl)) (gs_cons (g_name (i := 3) nd rfl (by first | exact .inl rfl | exact .inr rfl)) gs_nil)))) (fun _ _ _ _ _ => o_yes) (fun _ _ _ _ _ => (x_tree (x_cmp op_lt f_cmp (x_var (i := 2) rfl (by first | exact .inl rfl | exact .inr (.inl rfl) | exact .inr (.inr rfl))) (x_var (i := 3) rfl (by first | exact .inl rfl | exact .inr (.inl rfl) | exact .inr (.inr rfl))) (nomark _)))))) x_nil))))))))
def M_is_joining : Ms := (mSeq (mIfS (mOrT (mNotT (mTst (mTree (mCall D_is_tuple_of (mCons (mVar 0) (mCons (mVar 1) mNil)))))) (mNotT (mTst (mTree (mCall D_are_below (mCons (mVar 0) (mCons (mVar 1) mNil)))))))
  (mRet (mVal (mC (.bool false))))
  mNx)
  (mRet (mN fAll (mCons (mTree (mComp (mEnum (mCons (mVar 1) mNil)) (gT (gsCons (gN 3) (gsCons (gN 2) gsNil)) 2) mYes (mAndV (mTree (m2 fLe (mVar 2) (mVar 3))) (mTree (m2 fEq (mIxV 1 (mVar 2)) (mVar 2)))) [3, 2])) mNil))))
def D_is_joining : DF := runDef 4 2 [0, 1] M_is_joining
theorem ok_is_joining (T : Txt K mg A FD CA CI FC) : FnOk P w K mg base (L2N.CX P w) 4 (A 7) (FD 7) ["many", "thing"] (spD K mg D_is_joining) := by
  refine def_ok T.F_is_joining sc_is_joining fun cdv A outer s H E hr tk => ?_
  have nd := sc_is_joining.nd
  have hu := hr.u64
  exact (ss_cons (s_if (PW.pt (o_or (o_not (o_val (x_tree (x_call (ok_is_tuple_of T) (hr.mono (by decide)) tk rfl T.g_is_tuple_of T.F_is_tuple_of.kp (bd_is_tuple_of T.F_is_tuple_of) (x_cons (x_var (i := 0) rfl (by first | exact .inl rfl | exact .inr (.inl rfl) | exact .inr (.inr rfl))) (x_cons (x_var (i := 1) rfl (by first | exact .inl rfl | exact .inr (.inl rfl) | exact .inr (.inr rfl))) x_nil)))))) (o_or1 (o_not (o_val (x_tree (x_call (ok_are_below T) (hr.mono (by decide)) tk rfl T.g_are_below T.F_are_below.kp (bd_are_below T.F_are_below) (x_cons (x_var (i := 0) rfl (by first | exact .inl rfl | exact .inr (.inl rfl) | exact .inr (.inr rfl))) (x_cons (x_var (i := 1) rfl (by first | exact .inl rfl | exact .inr (.inl rfl) | exact .inr (.inr rfl))) x_nil)))))))))
  (ss_one (s_ret (x_val x_bl)))
  ss_nil)
  (ss_one (s_ret (x_blt (cr_all rfl) f_all rfl T.n_all (by decide +kernel) (x_cons (x_tree (x_lc (own := [("place", 3), ("least", 2)]) rfl nd (i_enum rfl T.n_enumerate (x_cons (x_var (i := 1) rfl (by first | exact .inl rfl | exact .inr (.inl rfl) | exact .inr (.inr rfl))) x_nil)) (blkOk_by (N := N_is_joining) (sc := defScope s_is_joining) (by decide +kernel)) (by decide) (fun _ _ _ _ _ => (g_tup rfl (gs_cons (g_name (i := 3) nd rfl (by first | exact .inl rfl | exact .inr rfl)) (gs_cons (g_name (i := 2) nd rfl (by first | exact .inl rfl | exact .inr rfl)) gs_nil)))) (fun _ _ _ _ _ => o_yes) (fun _ _ _ _ _ => (x_and (x_tree (x_cmp op_le f_cmp (x_var (i := 2) rfl (by first | exact .inl rfl | exact .inr (.inl rfl) | exact .inr (.inr rfl))) (x_var (i := 3) rfl (by first | exact .inl rfl | exact .inr (.inl rfl) | exact .inr (.inr rfl))) (nomark _))) (x_one (x_tree (x_cmp (op_eq.or (op_eqD hu)) f_eq (x_ixV (i := 1) rfl (by first | exact .inl rfl | exact .inr (.inl rfl) | exact .inr (.inr rfl)) (x_var (i := 2) rfl (by first | exact .inl rfl | exact .inr (.inl rfl) | exact .inr (.inr rfl))) (fun _ _ => rfl)) (x_var (i := 2) rfl (by first | exact .inl rfl | exact .inr (.inl rfl) | exact .inr (.inr rfl))) (nomark _)))))))) x_nil)))))
def M_need : Ms := (mIfS (mNotT (mTst (mVar 0)))
  (mRaise "NotUsable" ["word", "at"] (mCons (mVar 1) (mCons (mTree (m1 fNeg (mC (.int 1)))) mNil)))
  mNx)
def D_need : DF := runDef 2 2 [0, 1] M_need
theorem ok_need (T : Txt K mg A FD CA CI FC) : FnOk P w K mg base (L2N.CX P w) 3 (A 8) (FD 8) ["holds", "name"] (spD K mg D_need) := by
  refine def_ok T.F_need sc_need fun cdv A outer s H E hr tk => ?_
  have nd := sc_need.nd
  have hu := hr.u64
  exact (ss_one (s_if (o_not (o_val (x_var (i := 0) rfl (by first | exact .inl rfl | exact .inr (.inl rfl) | exact .inr (.inr rfl)))))
  (ss_one (s_raise rfl T.x_NotUsable (ini_NotUsable T) (hr.mono (by decide)) tk rfl (by decide) (x_cons (x_var (i := 1) rfl (by first | exact .inl rfl | exact .inr (.inl rfl) | exact .inr (.inr rfl))) (x_cons (x_tree (x_un un_neg f_neg x_int)) x_nil))))
  ss_nil))
def M_quotient_of : Ms := (mSeq (mDrop (mCall D_need (mCons (mTree (mCall D_is_integer (mCons (mVar 0) mNil))) (mCons (mC (.str "top")) mNil))))
  (mSeq (mDrop (mCall D_need (mCons (mAndV (mTree (mCall D_is_integer (mCons (mVar 1) mNil))) (mTree (m2 fNe (mVar 1) (mC (.int 0))))) (mCons (mC (.str "bottom")) mNil))))
  (mSeq (mSet 2 (mN fGcd (mCons (mVar 0) (mCons (mVar 1) mNil))))
  (mSeq (mIfS (mTst (mTree (m2 fLt (mVar 1) (mC (.int 0)))))
  (mSet 2 (m1 fNeg (mVar 2)))
  mNx)
  (mRet (mVal (mTup (mCons (mTree (m2 fDivG (mVar 0) (mVar 2))) (mCons (mTree (m2 fDivG (mVar 1) (mVar 2))) mNil)))))))))
def D_quotient_of : DF := runDef 3 2 [0, 1] M_quotient_of
theorem ok_quotient_of (T : Txt K mg A FD CA CI FC) : FnOk P w K mg base (L2N.CX P w) 4 (A 9) (FD 9) ["top", "bottom"] (spD K mg D_quotient_of) := by
  refine def_ok T.F_quotient_of sc_quotient_of fun cdv A outer s H E hr tk => ?_
  have nd := sc_quotient_of.nd
  have hu := hr.u64
  exact (ss_cons (s_expr (x_call (ok_need T) (hr.mono (by decide)) tk rfl T.g_need T.F_need.kp (bd_need T.F_need) (x_cons (x_tree (x_call (ok_is_integer T) (hr.mono (by decide)) tk rfl T.g_is_integer T.F_is_integer.kp (bd_is_integer T.F_is_integer) (x_cons (x_var (i := 0) rfl (by first | exact .inl rfl | exact .inr (.inl rfl) | exact .inr (.inr rfl))) x_nil))) (x_cons x_str x_nil))))
  (ss_cons (s_expr (x_call (ok_need T) (hr.mono (by decide)) tk rfl T.g_need T.F_need.kp (bd_need T.F_need) (x_cons (x_and (x_tree (x_call (ok_is_integer T) (hr.mono (by decide)) tk rfl T.g_is_integer T.F_is_integer.kp (bd_is_integer T.F_is_integer) (x_cons (x_var (i := 1) rfl (by first | exact .inl rfl | exact .inr (.inl rfl) | exact .inr (.inr rfl))) x_nil))) (x_one (x_tree (x_cmp (op_ne.or (op_neD hu)) f_ne (x_var (i := 1) rfl (by first | exact .inl rfl | exact .inr (.inl rfl) | exact .inr (.inr rfl))) x_int (nomark _))))) (x_cons x_str x_nil))))
  (ss_cons (s_set (i := 2) nd rfl (by first | exact .inl rfl | exact .inr rfl) rfl (x_imp cr_gcd f_gcd rfl T.i_gcd (x_cons (x_var (i := 0) rfl (by first | exact .inl rfl | exact .inr (.inl rfl) | exact .inr (.inr rfl))) (x_cons (x_var (i := 1) rfl (by first | exact .inl rfl | exact .inr (.inl rfl) | exact .inr (.inr rfl))) x_nil))))
  (ss_cons (s_if (o_cmp op_lt f_cmp (x_var (i := 1) rfl (by first | exact .inl rfl | exact .inr (.inl rfl) | exact .inr (.inr rfl))) x_int (nomark _))
  (ss_one (s_set (i := 2) nd rfl (by first | exact .inl rfl | exact .inr rfl) rfl (x_un un_neg f_neg (x_var (i := 2) rfl (by first | exact .inl rfl | exact .inr (.inl rfl) | exact .inr (.inr rfl))))))
  ss_nil)
  (ss_one (s_ret (x_val (x_tup (x_cons (x_tree (x_op op_fdivG f_divG (x_var (i := 0) rfl (by first | exact .inl rfl | exact .inr (.inl rfl) | exact .inr (.inr rfl))) (x_var (i := 2) rfl (by first | exact .inl rfl | exact .inr (.inl rfl) | exact .inr (.inr rfl))))) (x_cons (x_tree (x_op op_fdivG f_divG (x_var (i := 1) rfl (by first | exact .inl rfl | exact .inr (.inl rfl) | exact .inr (.inr rfl))) (x_var (i := 2) rfl (by first | exact .inl rfl | exact .inr (.inl rfl) | exact .inr (.inr rfl))))) x_nil))))))))))
def M_need_both : Ms := (mSeq (mDrop (mCall D_need (mCons (mTree (mCall D_is_quotient (mCons (mVar 0) mNil))) (mCons (mC (.str "one")) mNil))))
  (mDrop (mCall D_need (mCons (mTree (mCall D_is_quotient (mCons (mVar 1) mNil))) (mCons (mC (.str "other")) mNil)))))
def D_need_both : DF := runDef 2 2 [0, 1] M_need_both
theorem ok_need_both (T : Txt K mg A FD CA CI FC) : FnOk P w K mg base (L2N.CX P w) 4 (A 10) (FD 10) ["one", "other"] (spD K mg D_need_both) := by
  refine def_ok T.F_need_both sc_need_both fun cdv A outer s H E hr tk => ?_
  have nd := sc_need_both.nd
  have hu := hr.u64
  exact (ss_cons (s_expr (x_call (ok_need T) (hr.mono (by decide)) tk rfl T.g_need T.F_need.kp (bd_need T.F_need) (x_cons (x_tree (x_call (ok_is_quotient T) (hr.mono (by decide)) tk rfl T.g_is_quotient T.F_is_quotient.kp (bd_is_quotient T.F_is_quotient) (x_cons (x_var (i := 0) rfl (by first | exact .inl rfl | exact .inr (.inl rfl) | exact .inr (.inr rfl))) x_nil))) (x_cons x_str x_nil))))
  (ss_one (s_expr (x_call (ok_need T) (hr.mono (by decide)) tk rfl T.g_need T.F_need.kp (bd_need T.F_need) (x_cons (x_tree (x_call (ok_is_quotient T) (hr.mono (by decide)) tk rfl T.g_is_quotient T.F_is_quotient.kp (bd_is_quotient T.F_is_quotient) (x_cons (x_var (i := 1) rfl (by first | exact .inl rfl | exact .inr (.inl rfl) | exact .inr (.inr rfl))) x_nil))) (x_cons x_str x_nil))))))
def M_plus : Ms := (mSeq (mDrop (mCall D_need_both (mCons (mVar 0) (mCons (mVar 1) mNil))))
  (mRet (mCall D_quotient_of (mCons (mTree (m2 fAdd (mTree (m2 fMul (mIxV 0 (mC (.int 0))) (mIxV 1 (mC (.int 1))))) (mTree (m2 fMul (mIxV 1 (mC (.int 0))) (mIxV 0 (mC (.int 1))))))) (mCons (mTree (m2 fMul (mIxV 0 (mC (.int 1))) (mIxV 1 (mC (.int 1))))) mNil)))))
def D_plus : DF := runDef 2 2 [0, 1] M_plus
theorem ok_plus (T : Txt K mg A FD CA CI FC) : FnOk P w K mg base (L2N.CX P w) 5 (A 11) (FD 11) ["one", "other"] (spD K mg D_plus) := by
  refine def_ok T.F_plus sc_plus fun cdv A outer s H E hr tk => ?_
  have nd := sc_plus.nd
  have hu := hr.u64
  exact (ss_cons (s_expr (x_call (ok_need_both T) (hr.mono (by decide)) tk rfl T.g_need_both T.F_need_both.kp (bd_need_both T.F_need_both) (x_cons (x_var (i := 0) rfl (by first | exact .inl rfl | exact .inr (.inl rfl) | exact .inr (.inr rfl))) (x_cons (x_var (i := 1) rfl (by first | exact .inl rfl | exact .inr (.inl rfl) | exact .inr (.inr rfl))) x_nil))))
  (ss_one (s_ret (x_call (ok_quotient_of T) (hr.mono (by decide)) tk rfl T.g_quotient_of T.F_quotient_of.kp (bd_quotient_of T.F_quotient_of) (x_cons (x_tree (x_op o_add f_add (x_tree (x_op op_mulW f_mul (x_ixV (i := 0) rfl (by first | exact .inl rfl | exact .inr (.inl rfl) | exact .inr (.inr rfl)) x_int (fun _ _ => rfl)) (x_ixV (i := 1) rfl (by first | exact .inl rfl | exact .inr (.inl rfl) | exact .inr (.inr rfl)) x_int (fun _ _ => rfl)))) (x_tree (x_op op_mulW f_mul (x_ixV (i := 1) rfl (by first | exact .inl rfl | exact .inr (.inl rfl) | exact .inr (.inr rfl)) x_int (fun _ _ => rfl)) (x_ixV (i := 0) rfl (by first | exact .inl rfl | exact .inr (.inl rfl) | exact .inr (.inr rfl)) x_int (fun _ _ => rfl)))))) (x_cons (x_tree (x_op op_mulW f_mul (x_ixV (i := 0) rfl (by first | exact .inl rfl | exact .inr (.inl rfl) | exact .inr (.inr rfl)) x_int (fun _ _ => rfl)) (x_ixV (i := 1) rfl (by first | exact .inl rfl | exact .inr (.inl rfl) | exact .inr (.inr rfl)) x_int (fun _ _ => rfl)))) x_nil))))))
def M_minus : Ms := (mSeq (mDrop (mCall D_need_both (mCons (mVar 0) (mCons (mVar 1) mNil))))
  (mRet (mCall D_quotient_of (mCons (mTree (m2 fSub (mTree (m2 fMul (mIxV 0 (mC (.int 0))) (mIxV 1 (mC (.int 1))))) (mTree (m2 fMul (mIxV 1 (mC (.int 0))) (mIxV 0 (mC (.int 1))))))) (mCons (mTree (m2 fMul (mIxV 0 (mC (.int 1))) (mIxV 1 (mC (.int 1))))) mNil)))))
def D_minus : DF := runDef 2 2 [0, 1] M_minus
theorem ok_minus (T : Txt K mg A FD CA CI FC) : FnOk P w K mg base (L2N.CX P w) 5 (A 12) (FD 12) ["one", "other"] (spD K mg D_minus) := by
  refine def_ok T.F_minus sc_minus fun cdv A outer s H E hr tk => ?_
  have nd := sc_minus.nd
  have hu := hr.u64
  exact (ss_cons (s_expr (x_call (ok_need_both T) (hr.mono (by decide)) tk rfl T.g_need_both T.F_need_both.kp (bd_need_both T.F_need_both) (x_cons (x_var (i := 0) rfl (by first | exact .inl rfl | exact .inr (.inl rfl) | exact .inr (.inr rfl))) (x_cons (x_var (i := 1) rfl (by first | exact .inl rfl | exact .inr (.inl rfl) | exact .inr (.inr rfl))) x_nil))))
  (ss_one (s_ret (x_call (ok_quotient_of T) (hr.mono (by decide)) tk rfl T.g_quotient_of T.F_quotient_of.kp (bd_quotient_of T.F_quotient_of) (x_cons (x_tree (x_op op_sub f_sub (x_tree (x_op op_mulW f_mul (x_ixV (i := 0) rfl (by first | exact .inl rfl | exact .inr (.inl rfl) | exact .inr (.inr rfl)) x_int (fun _ _ => rfl)) (x_ixV (i := 1) rfl (by first | exact .inl rfl | exact .inr (.inl rfl) | exact .inr (.inr rfl)) x_int (fun _ _ => rfl)))) (x_tree (x_op op_mulW f_mul (x_ixV (i := 1) rfl (by first | exact .inl rfl | exact .inr (.inl rfl) | exact .inr (.inr rfl)) x_int (fun _ _ => rfl)) (x_ixV (i := 0) rfl (by first | exact .inl rfl | exact .inr (.inl rfl) | exact .inr (.inr rfl)) x_int (fun _ _ => rfl)))))) (x_cons (x_tree (x_op op_mulW f_mul (x_ixV (i := 0) rfl (by first | exact .inl rfl | exact .inr (.inl rfl) | exact .inr (.inr rfl)) x_int (fun _ _ => rfl)) (x_ixV (i := 1) rfl (by first | exact .inl rfl | exact .inr (.inl rfl) | exact .inr (.inr rfl)) x_int (fun _ _ => rfl)))) x_nil))))))
def M_times : Ms := (mSeq (mDrop (mCall D_need_both (mCons (mVar 0) (mCons (mVar 1) mNil))))
  (mRet (mCall D_quotient_of (mCons (mTree (m2 fMul (mIxV 0 (mC (.int 0))) (mIxV 1 (mC (.int 0))))) (mCons (mTree (m2 fMul (mIxV 0 (mC (.int 1))) (mIxV 1 (mC (.int 1))))) mNil)))))
def D_times : DF := runDef 2 2 [0, 1] M_times
theorem ok_times (T : Txt K mg A FD CA CI FC) : FnOk P w K mg base (L2N.CX P w) 5 (A 13) (FD 13) ["one", "other"] (spD K mg D_times) := by
  refine def_ok T.F_times sc_times fun cdv A outer s H E hr tk => ?_
  have nd := sc_times.nd
  have hu := hr.u64
  exact (ss_cons (s_expr (x_call (ok_need_both T) (hr.mono (by decide)) tk rfl T.g_need_both T.F_need_both.kp (bd_need_both T.F_need_both) (x_cons (x_var (i := 0) rfl (by first | exact .inl rfl | exact .inr (.inl rfl) | exact .inr (.inr rfl))) (x_cons (x_var (i := 1) rfl (by first | exact .inl rfl | exact .inr (.inl rfl) | exact .inr (.inr rfl))) x_nil))))
  (ss_one (s_ret (x_call (ok_quotient_of T) (hr.mono (by decide)) tk rfl T.g_quotient_of T.F_quotient_of.kp (bd_quotient_of T.F_quotient_of) (x_cons (x_tree (x_op op_mulW f_mul (x_ixV (i := 0) rfl (by first | exact .inl rfl | exact .inr (.inl rfl) | exact .inr (.inr rfl)) x_int (fun _ _ => rfl)) (x_ixV (i := 1) rfl (by first | exact .inl rfl | exact .inr (.inl rfl) | exact .inr (.inr rfl)) x_int (fun _ _ => rfl)))) (x_cons (x_tree (x_op op_mulW f_mul (x_ixV (i := 0) rfl (by first | exact .inl rfl | exact .inr (.inl rfl) | exact .inr (.inr rfl)) x_int (fun _ _ => rfl)) (x_ixV (i := 1) rfl (by first | exact .inl rfl | exact .inr (.inl rfl) | exact .inr (.inr rfl)) x_int (fun _ _ => rfl)))) x_nil))))))
def M_over : Ms := (mSeq (mDrop (mCall D_need_both (mCons (mVar 0) (mCons (mVar 1) mNil))))
  (mSeq (mDrop (mCall D_need (mCons (mTree (m2 fNe (mIxV 1 (mC (.int 0))) (mC (.int 0)))) (mCons (mC (.str "other")) mNil))))
  (mRet (mCall D_quotient_of (mCons (mTree (m2 fMul (mIxV 0 (mC (.int 0))) (mIxV 1 (mC (.int 1))))) (mCons (mTree (m2 fMul (mIxV 0 (mC (.int 1))) (mIxV 1 (mC (.int 0))))) mNil))))))
def D_over : DF := runDef 2 2 [0, 1] M_over
theorem ok_over (T : Txt K mg A FD CA CI FC) : FnOk P w K mg base (L2N.CX P w) 5 (A 14) (FD 14) ["one", "other"] (spD K mg D_over) := by
  refine def_ok T.F_over sc_over fun cdv A outer s H E hr tk => ?_
  have nd := sc_over.nd
  have hu := hr.u64
  exact (ss_cons (s_expr (x_call (ok_need_both T) (hr.mono (by decide)) tk rfl T.g_need_both T.F_need_both.kp (bd_need_both T.F_need_both) (x_cons (x_var (i := 0) rfl (by first | exact .inl rfl | exact .inr (.inl rfl) | exact .inr (.inr rfl))) (x_cons (x_var (i := 1) rfl (by first | exact .inl rfl | exact .inr (.inl rfl) | exact .inr (.inr rfl))) x_nil))))
  (ss_cons (s_expr (x_call (ok_need T) (hr.mono (by decide)) tk rfl T.g_need T.F_need.kp (bd_need T.F_need) (x_cons (x_tree (x_cmp (op_ne.or (op_neD hu)) f_ne (x_ixV (i := 1) rfl (by first | exact .inl rfl | exact .inr (.inl rfl) | exact .inr (.inr rfl)) x_int (fun _ _ => rfl)) x_int (nomark _))) (x_cons x_str x_nil))))
  (ss_one (s_ret (x_call (ok_quotient_of T) (hr.mono (by decide)) tk rfl T.g_quotient_of T.F_quotient_of.kp (bd_quotient_of T.F_quotient_of) (x_cons (x_tree (x_op op_mulW f_mul (x_ixV (i := 0) rfl (by first | exact .inl rfl | exact .inr (.inl rfl) | exact .inr (.inr rfl)) x_int (fun _ _ => rfl)) (x_ixV (i := 1) rfl (by first | exact .inl rfl | exact .inr (.inl rfl) | exact .inr (.inr rfl)) x_int (fun _ _ => rfl)))) (x_cons (x_tree (x_op op_mulW f_mul (x_ixV (i := 0) rfl (by first | exact .inl rfl | exact .inr (.inl rfl) | exact .inr (.inr rfl)) x_int (fun _ _ => rfl)) (x_ixV (i := 1) rfl (by first | exact .inl rfl | exact .inr (.inl rfl) | exact .inr (.inr rfl)) x_int (fun _ _ => rfl)))) x_nil)))))))
def M_less : Ms := (mSeq (mDrop (mCall D_need_both (mCons (mVar 0) (mCons (mVar 1) mNil))))
  (mRet (m2 fLt (mTree (m2 fMul (mIxV 0 (mC (.int 0))) (mIxV 1 (mC (.int 1))))) (mTree (m2 fMul (mIxV 1 (mC (.int 0))) (mIxV 0 (mC (.int 1))))))))
def D_less : DF := runDef 2 2 [0, 1] M_less
theorem ok_less (T : Txt K mg A FD CA CI FC) : FnOk P w K mg base (L2N.CX P w) 5 (A 15) (FD 15) ["one", "other"] (spD K mg D_less) := by
  refine def_ok T.F_less sc_less fun cdv A outer s H E hr tk => ?_
  have nd := sc_less.nd
  have hu := hr.u64
  exact (ss_cons (s_expr (x_call (ok_need_both T) (hr.mono (by decide)) tk rfl T.g_need_both T.F_need_both.kp (bd_need_both T.F_need_both) (x_cons (x_var (i := 0) rfl (by first | exact .inl rfl | exact .inr (.inl rfl) | exact .inr (.inr rfl))) (x_cons (x_var (i := 1) rfl (by first | exact .inl rfl | exact .inr (.inl rfl) | exact .inr (.inr rfl))) x_nil))))
  (ss_one (s_ret (x_cmp op_lt f_cmp (x_tree (x_op op_mulW f_mul (x_ixV (i := 0) rfl (by first | exact .inl rfl | exact .inr (.inl rfl) | exact .inr (.inr rfl)) x_int (fun _ _ => rfl)) (x_ixV (i := 1) rfl (by first | exact .inl rfl | exact .inr (.inl rfl) | exact .inr (.inr rfl)) x_int (fun _ _ => rfl)))) (x_tree (x_op op_mulW f_mul (x_ixV (i := 1) rfl (by first | exact .inl rfl | exact .inr (.inl rfl) | exact .inr (.inr rfl)) x_int (fun _ _ => rfl)) (x_ixV (i := 0) rfl (by first | exact .inl rfl | exact .inr (.inl rfl) | exact .inr (.inr rfl)) x_int (fun _ _ => rfl)))) (nomark _)))))
def M_joinings_of : Ms := (mSeq (mSet 1 (mLst (mCons (mTup mNil) mNil)))
  (mSeq (mFor (mRng (mCons (mVar 0) mNil)) (gN 2)
  (mSet 1 (mComp2 (mSeq1 (mVar 1)) (gN 3) mYes (mSeq1 (mTup (mStar (mTree (mSortSet (mVar 3))) (mCons (mVar 2) mNil)))) (gN 4) mYes (mTup (mStar (mVar 3) (mCons (mVar 4) mNil))) [3, 4] [4])))
  (mRet (mN fTuple (mCons (mVar 1) mNil)))))
def D_joinings_of : DF := runDef 5 1 [0] M_joinings_of
theorem ok_joinings_of (T : Txt K mg A FD CA CI FC) : FnOk P w K mg base (L2N.CX P w) 1 (A 16) (FD 16) ["many"] (spD K mg D_joinings_of) := by
  refine def_ok T.F_joinings_of sc_joinings_of fun cdv A outer s H E hr tk => ?_
  have nd := sc_joinings_of.nd
  have hu := hr.u64
  exact (ss_cons (s_set (i := 1) nd rfl (by first | exact .inl rfl | exact .inr rfl) rfl (x_lst (x_cons (x_tup x_nil) x_nil)))
  (ss_cons (s_for (passes_of rfl) rfl (i_rng rfl T.n_range (x_cons (x_var (i := 0) rfl (by first | exact .inl rfl | exact .inr (.inl rfl) | exact .inr (.inr rfl))) x_nil)) (g_name (i := 2) nd rfl (by first | exact .inl rfl | exact .inr rfl)) rfl
  (ss_one (by first | exact (s_set (i := 1) nd rfl (by first | exact .inl rfl | exact .inr rfl) rfl (x_lc2 (own := [("head", 3), ("least", 4)]) (vs1 := [4]) rfl nd (i_seq (x_var (i := 1) rfl (by first | exact .inl rfl | exact .inr (.inl rfl) | exact .inr (.inr rfl)))) (blkOk_by (N := N_joinings_of) (sc := defScope s_joinings_of) (by decide +kernel)) (by decide) (by decide) (by decide) (fun _ _ _ _ _ => (g_name (i := 3) nd rfl (by first | exact .inl rfl | exact .inr rfl))) (fun _ _ _ _ _ => o_yes) (fun _ _ _ _ _ => (i_seq (x_tup (x_star (x_tree (x_sortSet rfl rfl T.n_sorted rfl T.n_set (x_var (i := 3) rfl (by first | exact .inl rfl | exact .inr (.inl rfl) | exact .inr (.inr rfl))))) (x_cons (x_var (i := 2) rfl (by first | exact .inl rfl | exact .inr (.inl rfl) | exact .inr (.inr rfl))) x_nil))))) (fun _ _ _ _ _ => (g_name (i := 4) nd rfl (by first | exact .inl rfl | exact .inr rfl))) (fun _ _ _ _ _ => o_yes) (fun _ _ _ _ _ => (x_tup (x_star (x_var (i := 3) rfl (by first | exact .inl rfl | exact .inr (.inl rfl) | exact .inr (.inr rfl))) (x_cons (x_var (i := 4) rfl (by first | exact .inl rfl | exact .inr (.inl rfl) | exact .inr (.inr rfl))) x_nil)))))) | exact (s_setLc2 (i := 1) (own := [("head", 3), ("least", 4)]) (vs1 := [4]) rfl nd rfl rfl rfl (sw_true rfl rfl rfl (by decide +kernel)) (i_seq (x_var (i := 1) rfl (by first | exact .inl rfl | exact .inr (.inl rfl) | exact .inr (.inr rfl)))) (blkOk_by (N := N_joinings_of) (sc := defScope s_joinings_of) (by decide +kernel)) (by decide) (by decide) (by decide) (fun _ _ _ _ _ => (g_name (i := 3) nd rfl (by first | exact .inl rfl | exact .inr rfl))) (fun _ _ _ _ _ => o_yes) (fun _ _ _ _ _ => (i_seq (x_tup (x_star (x_tree (x_sortSet rfl rfl T.n_sorted rfl T.n_set (x_var (i := 3) rfl (by first | exact .inl rfl | exact .inr (.inl rfl) | exact .inr (.inr rfl))))) (x_cons (x_var (i := 2) rfl (by first | exact .inl rfl | exact .inr (.inl rfl) | exact .inr (.inr rfl))) x_nil))))) (fun _ _ _ _ _ => (g_name (i := 4) nd rfl (by first | exact .inl rfl | exact .inr rfl))) (fun _ _ _ _ _ => o_yes) (fun _ _ _ _ _ => (x_tup (x_star (x_var (i := 3) rfl (by first | exact .inl rfl | exact .inr (.inl rfl) | exact .inr (.inr rfl))) (x_cons (x_var (i := 4) rfl (by first | exact .inl rfl | exact .inr (.inl rfl) | exact .inr (.inr rfl))) x_nil))))))))
  (ss_one (s_ret (x_typ call_tupX f_tuple rfl T.n_tuple (by decide +kernel) (x_cons (x_var (i := 1) rfl (by first | exact .inl rfl | exact .inr (.inl rfl) | exact .inr (.inr rfl))) x_nil))))))
def D_blocks_in : DF := runDef 5 1 [0] mBlocks
theorem ok_blocks_in (T : Txt K mg A FD CA CI FC) : FnOk P w K mg base (L2N.CX P w) 1 (A 17) (FD 17) ["joining"] (spD K mg D_blocks_in) := by
  refine def_ok T.F_blocks_in sc_blocks_in fun cdv A outer s H E hr tk => ?_
  have nd := sc_blocks_in.nd
  have hu := hr.u64
  exact PSs.imp (pss_cons (ps_set (i := 1) nd rfl (by first | exact .inl rfl | exact .inr rfl) pe_dnewK)
    (pss_cons (ps_for (passes_of rfl) rfl (i_enum rfl T.n_enumerate (x_cons (x_var (i := 0) rfl (by first | exact .inl rfl | exact .inr (.inl rfl) | exact .inr (.inr rfl))) x_nil)) (g_tup rfl (gs_cons (g_name (i := 2) nd rfl (by first | exact .inl rfl | exact .inr rfl)) (gs_cons (g_name (i := 3) nd rfl (by first | exact .inl rfl | exact .inr rfl)) gs_nil)))
      (pss_one (ps_expr (pe_bm PySem.F.plainAttrs_list PySem.F.slot_list_append PySem.F.type_list_append mt_append (pe_dsetd (pe_var (i := 1) rfl (by first | exact .inl rfl | exact .inr (.inl rfl) | exact .inr (.inr rfl))) (pe_var (i := 3) rfl (by first | exact .inl rfl | exact .inr (.inl rfl) | exact .inr (.inr rfl))) (pe_lst pa_nil) ⟨rfl, rfl, rfl, rfl⟩) (pa_cons (pe_var (i := 2) rfl (by first | exact .inl rfl | exact .inr (.inl rfl) | exact .inr (.inr rfl))) pa_nil)))))
    (pss_one (ps_ret (pe_callTy call_tupX rfl T.n_tuple rfl (pa_cons (pe_lock (pe_lc (own := [("block", 4)]) rfl nd (pi_values (pe_var (i := 1) rfl (by first | exact .inl rfl | exact .inr (.inl rfl) | exact .inr (.inr rfl)))) (blkOk_by (N := N_blocks_in) (sc := defScope s_blocks_in) (by decide +kernel))
      (fun _ _ _ _ _ => pg_name (i := 4) nd rfl (by first | exact .inl rfl | exact .inr rfl)) (fun _ _ _ _ _ => pts_nil) (fun _ _ _ _ _ => pe_callTy call_tupX rfl T.n_tuple rfl (pa_cons (pe_var (i := 4) rfl (by first | exact .inl rfl | exact .inr (.inl rfl) | exact .inr (.inr rfl))) pa_nil)))) pa_nil)))))) fun D σ H q => blocks_ok (mg := mg) (W := fun c d _ H => E c d H) rfl q

def M_blocks_of : Ms := (mSeq (mDrop (mCall D_need (mCons (mTree (mCall D_is_joining (mCons (mVar 0) (mCons (mVar 1) mNil)))) (mCons (mC (.str "joining")) mNil))))
  (mRet (mCall D_blocks_in (mCons (mVar 1) mNil))))
def D_blocks_of : DF := runDef 2 2 [0, 1] M_blocks_of
theorem ok_blocks_of (T : Txt K mg A FD CA CI FC) : FnOk P w K mg base (L2N.CX P w) 5 (A 18) (FD 18) ["many", "joining"] (spD K mg D_blocks_of) := by
  refine def_ok T.F_blocks_of sc_blocks_of fun cdv A outer s H E hr tk => ?_
  have nd := sc_blocks_of.nd
  have hu := hr.u64
  exact (ss_cons (s_expr (x_call (ok_need T) (hr.mono (by decide)) tk rfl T.g_need T.F_need.kp (bd_need T.F_need) (x_cons (x_tree (x_call (ok_is_joining T) (hr.mono (by decide)) tk rfl T.g_is_joining T.F_is_joining.kp (bd_is_joining T.F_is_joining) (x_cons (x_var (i := 0) rfl (by first | exact .inl rfl | exact .inr (.inl rfl) | exact .inr (.inr rfl))) (x_cons (x_var (i := 1) rfl (by first | exact .inl rfl | exact .inr (.inl rfl) | exact .inr (.inr rfl))) x_nil)))) (x_cons x_str x_nil))))
  (ss_one (s_ret (x_call (ok_blocks_in T) (hr.mono (by decide)) tk rfl T.g_blocks_in T.F_blocks_in.kp (bd_blocks_in T.F_blocks_in) (x_cons (x_var (i := 1) rfl (by first | exact .inl rfl | exact .inr (.inl rfl) | exact .inr (.inr rfl))) x_nil)))))
def M_are_blocks : Ms := (mSeq (mIfS (mOrT (mNotT (mTst (mIsi .tup (mVar 1)))) (mNotT (mTst (mTree (mN fAll (mCons (mTree (mComp (mSeq1 (mVar 1)) (gN 2) mYes (mAndV (mTree (mCall D_is_lot (mCons (mVar 0) (mCons (mVar 2) mNil)))) (mTree (m2 fNe (mVar 2) (mTup mNil)))) [2])) mNil))))))
  (mRet (mVal (mC (.bool false))))
  mNx)
  (mRet (m2 fEq (mTree (mN fSort (mCons (mTree (mComp2 (mSeq1 (mVar 1)) (gN 2) mYes (mSeq1 (mVar 2)) (gN 3) mYes (mVar 3) [2, 3] [3])) mNil))) (mTree (mListRg (mVar 0))))))
def D_are_blocks : DF := runDef 4 2 [0, 1] M_are_blocks
theorem ok_are_blocks (T : Txt K mg A FD CA CI FC) : FnOk P w K mg base (L2N.CX P w) 5 (A 19) (FD 19) ["many", "thing"] (spD K mg D_are_blocks) := by
  refine def_ok T.F_are_blocks sc_are_blocks fun cdv A outer s H E hr tk => ?_
  have nd := sc_are_blocks.nd
  have hu := hr.u64
  exact (ss_cons (s_if (PW.pt (o_or (o_not (o_val (x_isi (y := .tup) rfl T.n_isinstance rfl T.n_tuple (x_var (i := 1) rfl (by first | exact .inl rfl | exact .inr (.inl rfl) | exact .inr (.inr rfl)))))) (o_or1 (o_not (o_val (x_tree (x_blt (cr_all rfl) f_all rfl T.n_all (by decide +kernel) (x_cons (x_tree (x_lc (own := [("lot", 2)]) rfl nd (i_seq (x_var (i := 1) rfl (by first | exact .inl rfl | exact .inr (.inl rfl) | exact .inr (.inr rfl)))) (blkOk_by (N := N_are_blocks) (sc := defScope s_are_blocks) (by decide +kernel)) (by decide) (fun _ _ _ _ _ => (g_name (i := 2) nd rfl (by first | exact .inl rfl | exact .inr rfl))) (fun _ _ _ _ _ => o_yes) (fun _ _ _ _ _ => (x_and (x_tree (x_call (ok_is_lot T) (hr.mono (by decide)) takesN rfl T.g_is_lot T.F_is_lot.kp (bd_is_lot T.F_is_lot) (x_cons (x_var (i := 0) rfl (by first | exact .inl rfl | exact .inr (.inl rfl) | exact .inr (.inr rfl))) (x_cons (x_var (i := 2) rfl (by first | exact .inl rfl | exact .inr (.inl rfl) | exact .inr (.inr rfl))) x_nil)))) (x_one (x_tree (x_cmp (op_ne.or (op_neD hu)) f_ne (x_var (i := 2) rfl (by first | exact .inl rfl | exact .inr (.inl rfl) | exact .inr (.inr rfl))) (x_tup x_nil) (nomark _)))))))) x_nil))))))))
  (ss_one (s_ret (x_val x_bl)))
  ss_nil)
  (ss_one (s_ret (x_cmp (op_eq.or (op_eqD hu)) f_eq (x_tree (x_blt cr_sortedI f_sort rfl T.n_sorted (by decide +kernel) (x_cons (x_tree (x_lc2 (own := [("lot", 2), ("place", 3)]) (vs1 := [3]) rfl nd (i_seq (x_var (i := 1) rfl (by first | exact .inl rfl | exact .inr (.inl rfl) | exact .inr (.inr rfl)))) (blkOk_by (N := N_are_blocks) (sc := defScope s_are_blocks) (by decide +kernel)) (by decide) (by decide) (by decide) (fun _ _ _ _ _ => (g_name (i := 2) nd rfl (by first | exact .inl rfl | exact .inr rfl))) (fun _ _ _ _ _ => o_yes) (fun _ _ _ _ _ => (i_seq (x_var (i := 2) rfl (by first | exact .inl rfl | exact .inr (.inl rfl) | exact .inr (.inr rfl))))) (fun _ _ _ _ _ => (g_name (i := 3) nd rfl (by first | exact .inl rfl | exact .inr rfl))) (fun _ _ _ _ _ => o_yes) (fun _ _ _ _ _ => (x_var (i := 3) rfl (by first | exact .inl rfl | exact .inr (.inl rfl) | exact .inr (.inr rfl)))))) x_nil))) (x_tree (x_listRg rfl rfl T.n_list rfl T.n_range (x_var (i := 0) rfl (by first | exact .inl rfl | exact .inr (.inl rfl) | exact .inr (.inr rfl))))) (nomark _)))))
def M_joining_of : Ms := mSeq (mDrop (mCall D_need (mCons (mTree (mCall D_are_blocks (mCons (mVar 0) (mCons (mVar 1) mNil)))) (mCons (mC (.str "lots")) mNil)))) mJoin
def D_joining_of : DF := runDef 5 2 [0, 1] M_joining_of
theorem ok_joining_of (T : Txt K mg A FD CA CI FC) : FnOk P w K mg base (L2N.CX P w) 6 (A 20) (FD 20) ["many", "lots"] (spD K mg D_joining_of) := by
  refine def_ok T.F_joining_of sc_joining_of fun cdv A outer s H E hr tk => ?_
  have nd := sc_joining_of.nd
  have hu := hr.u64
  exact ss_cons (s_expr (x_call (ok_need T) (hr.mono (by decide)) tk rfl T.g_need T.F_need.kp (bd_need T.F_need) (x_cons (x_tree (x_call (ok_are_blocks T) (hr.mono (by decide)) tk rfl T.g_are_blocks T.F_are_blocks.kp (bd_are_blocks T.F_are_blocks) (x_cons (x_var (i := 0) rfl (by first | exact .inl rfl | exact .inr (.inl rfl) | exact .inr (.inr rfl))) (x_cons (x_var (i := 1) rfl (by first | exact .inl rfl | exact .inr (.inl rfl) | exact .inr (.inr rfl))) x_nil)))) (x_cons x_str x_nil))))
    (PSs.imp (pss_cons (ps_set (i := 2) nd rfl (by first | exact .inl rfl | exact .inr rfl) (pe_dcc (own := [("lot", 3), ("place", 4)]) (vs1 := [4]) rfl nd (i_seq (x_var (i := 1) rfl (by first | exact .inl rfl | exact .inr (.inl rfl) | exact .inr (.inr rfl)))) (blkOk_by (N := N_joining_of) (sc := defScope s_joining_of) (by decide +kernel)) (by decide)
        (fun _ _ _ _ _ => g_name (i := 3) nd rfl (by first | exact .inl rfl | exact .inr rfl)) (fun _ _ _ _ _ => pts_nil) (fun _ _ _ _ _ => i_seq (x_var (i := 3) rfl (by first | exact .inl rfl | exact .inr (.inl rfl) | exact .inr (.inr rfl)))) (fun _ _ _ _ _ => pg_name (i := 4) nd rfl (by first | exact .inl rfl | exact .inr rfl)) (fun _ _ _ _ _ => pts_nil)
        (fun _ _ _ _ _ => pe_var (i := 4) rfl (by first | exact .inl rfl | exact .inr (.inl rfl) | exact .inr (.inr rfl))) (fun _ _ _ _ _ => x_ixV (i := 3) rfl (by first | exact .inl rfl | exact .inr (.inl rfl) | exact .inr (.inr rfl)) x_int (fun _ _ => rfl))))
      (pss_one (ps_ret (pe_callTy call_tupX rfl T.n_tuple rfl (pa_cons (pe_lc (own := [("place", 4)]) rfl nd (i_rng rfl T.n_range (x_cons (x_var (i := 0) rfl (by first | exact .inl rfl | exact .inr (.inl rfl) | exact .inr (.inr rfl))) x_nil)) (blkOk_by (N := N_joining_of) (sc := defScope s_joining_of) (by decide +kernel))
        (fun _ _ _ _ _ => pg_name (i := 4) nd rfl (by first | exact .inl rfl | exact .inr rfl)) (fun _ _ _ _ _ => pts_nil) (fun _ _ _ _ _ => pe_dget (show (A.deeper _).units + 1 < cLine from by have := hr.units; omega) (pe_var (i := 2) rfl (by first | exact .inl rfl | exact .inr (.inl rfl) | exact .inr (.inr rfl))) (pe_var (i := 4) rfl (by first | exact .inl rfl | exact .inr (.inl rfl) | exact .inr (.inr rfl))) (fun _ _ => rfl))) pa_nil))))) fun D σ H q => join_ok (mg := mg) (W := fun c d _ H => E c d H) rfl q)

def M_joined_two : Ms := (mSeq (mSet 3 (mN fMin (mCons (mIxV 0 (mVar 1)) (mCons (mIxV 0 (mVar 2)) mNil))))
  (mSeq (mSet 4 (mN fMax (mCons (mIxV 0 (mVar 1)) (mCons (mIxV 0 (mVar 2)) mNil))))
  (mRet (mN fTuple (mCons (mTree (mComp (mSeq1 (mVar 0)) (gN 5) mYes (mTree (mIf (mTst (mTree (m2 fEq (mVar 5) (mVar 4)))) (mVal (mVar 3)) (mVal (mVar 5)))) [5])) mNil)))))
def D_joined_two : DF := runDef 6 3 [0, 1, 2] M_joined_two
theorem ok_joined_two (T : Txt K mg A FD CA CI FC) : FnOk P w K mg base (L2N.CX P w) 1 (A 21) (FD 21) ["joining", "one", "other"] (spD K mg D_joined_two) := by
  refine def_ok T.F_joined_two sc_joined_two fun cdv A outer s H E hr tk => ?_
  have nd := sc_joined_two.nd
  have hu := hr.u64
  exact (ss_cons (s_set (i := 3) nd rfl (by first | exact .inl rfl | exact .inr rfl) rfl (x_blt (call_min2 rfl) f_min rfl T.n_min (by decide +kernel) (x_cons (x_ixV (i := 0) rfl (by first | exact .inl rfl | exact .inr (.inl rfl) | exact .inr (.inr rfl)) (x_var (i := 1) rfl (by first | exact .inl rfl | exact .inr (.inl rfl) | exact .inr (.inr rfl))) (fun _ _ => rfl)) (x_cons (x_ixV (i := 0) rfl (by first | exact .inl rfl | exact .inr (.inl rfl) | exact .inr (.inr rfl)) (x_var (i := 2) rfl (by first | exact .inl rfl | exact .inr (.inl rfl) | exact .inr (.inr rfl))) (fun _ _ => rfl)) x_nil))))
  (ss_cons (s_set (i := 4) nd rfl (by first | exact .inl rfl | exact .inr rfl) rfl (x_blt (call_max2 rfl) f_max rfl T.n_max (by decide +kernel) (x_cons (x_ixV (i := 0) rfl (by first | exact .inl rfl | exact .inr (.inl rfl) | exact .inr (.inr rfl)) (x_var (i := 1) rfl (by first | exact .inl rfl | exact .inr (.inl rfl) | exact .inr (.inr rfl))) (fun _ _ => rfl)) (x_cons (x_ixV (i := 0) rfl (by first | exact .inl rfl | exact .inr (.inl rfl) | exact .inr (.inr rfl)) (x_var (i := 2) rfl (by first | exact .inl rfl | exact .inr (.inl rfl) | exact .inr (.inr rfl))) (fun _ _ => rfl)) x_nil))))
  (ss_one (s_ret (x_typ call_tupX f_tuple rfl T.n_tuple (by decide +kernel) (x_cons (x_tree (x_lc (own := [("least", 5)]) rfl nd (i_seq (x_var (i := 0) rfl (by first | exact .inl rfl | exact .inr (.inl rfl) | exact .inr (.inr rfl)))) (blkOk_by (N := N_joined_two) (sc := defScope s_joined_two) (by decide +kernel)) (by decide) (fun _ _ _ _ _ => (g_name (i := 5) nd rfl (by first | exact .inl rfl | exact .inr rfl))) (fun _ _ _ _ _ => o_yes) (fun _ _ _ _ _ => (x_tree (x_if (o_cmp (op_eq.or (op_eqD hu)) f_eq (x_var (i := 5) rfl (by first | exact .inl rfl | exact .inr (.inl rfl) | exact .inr (.inr rfl))) (x_var (i := 4) rfl (by first | exact .inl rfl | exact .inr (.inl rfl) | exact .inr (.inr rfl))) (nomark _)) (x_val (x_var (i := 3) rfl (by first | exact .inl rfl | exact .inr (.inl rfl) | exact .inr (.inr rfl)))) (x_val (x_var (i := 5) rfl (by first | exact .inl rfl | exact .inr (.inl rfl) | exact .inr (.inr rfl))))))))) x_nil))))))
def M_joined_with : Ms := (mSeq (mDrop (mCall D_need (mCons (mTree (mCall D_is_joining (mCons (mVar 0) (mCons (mVar 1) mNil)))) (mCons (mC (.str "joining")) mNil))))
  (mSeq (mDrop (mCall D_need (mCons (mTree (mCall D_is_joining (mCons (mVar 0) (mCons (mVar 2) mNil)))) (mCons (mC (.str "other")) mNil))))
  (mSeq (mSet 3 (mVal (mVar 1)))
  (mSeq (mFor (mEnum (mCons (mVar 2) mNil)) (gT (gsCons (gN 4) (gsCons (gN 5) gsNil)) 2)
  (mSet 3 (mCall D_joined_two (mCons (mVar 3) (mCons (mVar 4) (mCons (mVar 5) mNil))))))
  (mRet (mTake 3))))))
def D_joined_with : DF := runDef 6 3 [0, 1, 2] M_joined_with
theorem ok_joined_with (T : Txt K mg A FD CA CI FC) : FnOk P w K mg base (L2N.CX P w) 5 (A 22) (FD 22) ["many", "joining", "other"] (spD K mg D_joined_with) := by
  refine def_ok T.F_joined_with sc_joined_with fun cdv A outer s H E hr tk => ?_
  have nd := sc_joined_with.nd
  have hu := hr.u64
  exact (ss_cons (s_expr (x_call (ok_need T) (hr.mono (by decide)) tk rfl T.g_need T.F_need.kp (bd_need T.F_need) (x_cons (x_tree (x_call (ok_is_joining T) (hr.mono (by decide)) tk rfl T.g_is_joining T.F_is_joining.kp (bd_is_joining T.F_is_joining) (x_cons (x_var (i := 0) rfl (by first | exact .inl rfl | exact .inr (.inl rfl) | exact .inr (.inr rfl))) (x_cons (x_var (i := 1) rfl (by first | exact .inl rfl | exact .inr (.inl rfl) | exact .inr (.inr rfl))) x_nil)))) (x_cons x_str x_nil))))
  (ss_cons (s_expr (x_call (ok_need T) (hr.mono (by decide)) tk rfl T.g_need T.F_need.kp (bd_need T.F_need) (x_cons (x_tree (x_call (ok_is_joining T) (hr.mono (by decide)) tk rfl T.g_is_joining T.F_is_joining.kp (bd_is_joining T.F_is_joining) (x_cons (x_var (i := 0) rfl (by first | exact .inl rfl | exact .inr (.inl rfl) | exact .inr (.inr rfl))) (x_cons (x_var (i := 2) rfl (by first | exact .inl rfl | exact .inr (.inl rfl) | exact .inr (.inr rfl))) x_nil)))) (x_cons x_str x_nil))))
  (ss_cons (s_set (i := 3) nd rfl (by first | exact .inl rfl | exact .inr rfl) rfl (x_val (x_var (i := 1) rfl (by first | exact .inl rfl | exact .inr (.inl rfl) | exact .inr (.inr rfl)))))
  (ss_cons (s_for (passes_of rfl) rfl (i_enum rfl T.n_enumerate (x_cons (x_var (i := 2) rfl (by first | exact .inl rfl | exact .inr (.inl rfl) | exact .inr (.inr rfl))) x_nil)) (g_tup rfl (gs_cons (g_name (i := 4) nd rfl (by first | exact .inl rfl | exact .inr rfl)) (gs_cons (g_name (i := 5) nd rfl (by first | exact .inl rfl | exact .inr rfl)) gs_nil))) rfl
  (ss_one (s_set (i := 3) nd rfl (by first | exact .inl rfl | exact .inr rfl) rfl (x_call (ok_joined_two T) (hr.mono (by decide)) tk rfl T.g_joined_two T.F_joined_two.kp (bd_joined_two T.F_joined_two) (x_cons (x_var (i := 3) rfl (by first | exact .inl rfl | exact .inr (.inl rfl) | exact .inr (.inr rfl))) (x_cons (x_var (i := 4) rfl (by first | exact .inl rfl | exact .inr (.inl rfl) | exact .inr (.inr rfl))) (x_cons (x_var (i := 5) rfl (by first | exact .inl rfl | exact .inr (.inl rfl) | exact .inr (.inr rfl))) x_nil)))))))
  (ss_one (s_ret (x_take (i := 3) rfl (by first | exact .inl rfl | exact .inr (.inl rfl) | exact .inr (.inr rfl)))))))))
def M__law_pool : Ms := (mSeq (mSet 1 (mLst mNil))
  (mSeq (mIfS (mTst (mTree (m2 fEq (mLenV 0) (mC (.int 0)))))
  (mRet (mTake 1))
  mNx)
  (mSeq (mSet 2 (mVal (mC (.int 31607))))
  (mSeq (mFor (mSeq1 (mVar 0)) (gN 3)
  (mSeq (mSet 2 (m2 fMod (mTree (mN fInt (mCons (mTree (m2 fAdd (mTree (m2 fAdd (mTree (m2 fMul (mVar 2) (mC (.int 40692)))) (mTree (m2 fMod (mTree (mN fInt (mCons (mVar 3) mNil))) (mC (.int 2147483587)))))) (mC (.int 11)))) mNil))) (mC (.int 2147483399))))
  (mIfS (mTst (mTree (m2 fLt (mLenV 1) (mC (.int 100)))))
  (mIfS (mTst (mTree (m2 fGe (mVar 3) (mTree (m2 fPow (mC (.int 10)) (mC (.int 18)))))))
  (mSeq (mSet 5 (mVal (mVar 3)))
  (mFor (mRng (mCons (mC (.int 60)) mNil)) (gN 4)
  (mSeq (mIfS (mTst (mTree (m2 fEq (mVar 5) (mC (.int 0)))))
  (fun e => .ok .bk e)
  mNx)
  (mSeq (mDrop (mApp 1 (mTree (m2 fMod (mTree (mN fInt (mCons (mVar 5) mNil))) (mC (.int 1013))))))
  (mSet 5 (m2 fDiv (mVar 5) (mC (.int 1013))))))))
  (mDrop (mApp 1 (mTree (m2 fMod (mTree (mN fInt (mCons (mTree (m2 fAdd (mTree (m2 fMul (mTree (m2 fDiv (mVar 2) (mC (.int 7)))) (mC (.int 40014)))) (mVar 2))) mNil))) (mC (.int 1000033)))))))
  mNx)))
  (mSeq (mFor (mRng (mCons (mC (.int 130)) mNil)) (gN 4)
  (mSeq (mSet 2 (m2 fMod (mTree (mN fInt (mCons (mTree (m2 fAdd (mTree (m2 fAdd (mTree (m2 fMul (mVar 2) (mC (.int 40014)))) (mC (.int 70001)))) (mVar 4))) mNil))) (mC (.int 2147483563))))
  (mDrop (mApp 1 (mTree (m2 fMod (mTree (mN fInt (mCons (mTree (m2 fAdd (mTree (m2 fMul (mTree (m2 fDiv (mVar 2) (mC (.int 13)))) (mVar 2))) (mTree (m2 fDiv (mVar 2) (mC (.int 5)))))) mNil))) (mC (.int 999979))))))))
  (mRet (m1 fRev (mVar 1))))))))
def D__law_pool : DF := runDef 6 1 [0] M__law_pool
theorem ok__law_pool (T : Txt K mg A FD CA CI FC) : FnOk P w K mg base (L2N.CX P w) 1 (A 23) (FD 23) ["_law_script"] (spD K mg D__law_pool) := by
  refine def_ok T.F__law_pool sc__law_pool fun cdv A outer s H E hr tk => ?_
  have nd := sc__law_pool.nd
  have hu := hr.u64
  exact (ss_cons (s_set (i := 1) nd rfl (by first | exact .inl rfl | exact .inr rfl) rfl (x_lst x_nil))
  (ss_cons (s_if (o_cmp (op_eq.or (op_eqD hu)) f_eq (x_lenV (i := 0) rfl T.n_len rfl (by first | exact .inl rfl | exact .inr (.inl rfl) | exact .inr (.inr rfl))) x_int (nomark _))
  (ss_one (s_ret (x_take (i := 1) rfl (by first | exact .inl rfl | exact .inr (.inl rfl) | exact .inr (.inr rfl)))))
  ss_nil)
  (ss_cons (s_set (i := 2) nd rfl (by first | exact .inl rfl | exact .inr rfl) rfl (x_val x_int))
  (ss_cons (s_for (passes_of rfl) rfl (i_seq (x_var (i := 0) rfl (by first | exact .inl rfl | exact .inr (.inl rfl) | exact .inr (.inr rfl)))) (g_name (i := 3) nd rfl (by first | exact .inl rfl | exact .inr rfl)) rfl
  (ss_cons (s_set (i := 2) nd rfl (by first | exact .inl rfl | exact .inr rfl) rfl (x_op op_mod f_mod (x_tree (x_typ call_int1 f_int rfl T.n_int (by decide +kernel) (x_cons (x_tree (x_op o_add f_add (x_tree (x_op o_add f_add (x_tree (x_op op_mulW f_mul (x_var (i := 2) rfl (by first | exact .inl rfl | exact .inr (.inl rfl) | exact .inr (.inr rfl))) x_int)) (x_tree (x_op op_mod f_mod (x_tree (x_typ call_int1 f_int rfl T.n_int (by decide +kernel) (x_cons (x_var (i := 3) rfl (by first | exact .inl rfl | exact .inr (.inl rfl) | exact .inr (.inr rfl))) x_nil))) x_int)))) x_int)) x_nil))) x_int))
  (ss_one (s_if (o_cmp op_lt f_cmp (x_lenV (i := 1) rfl T.n_len rfl (by first | exact .inl rfl | exact .inr (.inl rfl) | exact .inr (.inr rfl))) x_int (nomark _))
  (ss_one (s_if (o_cmp op_ge f_cmp (x_var (i := 3) rfl (by first | exact .inl rfl | exact .inr (.inl rfl) | exact .inr (.inr rfl))) (x_tree (x_op op_pow f_pow x_int x_int)) (nomark _))
  (ss_cons (s_set (i := 5) nd rfl (by first | exact .inl rfl | exact .inr rfl) rfl (x_val (x_var (i := 3) rfl (by first | exact .inl rfl | exact .inr (.inl rfl) | exact .inr (.inr rfl)))))
  (ss_one (s_for (passes_of rfl) rfl (i_rng rfl T.n_range (x_cons x_int x_nil)) (g_name (i := 4) nd rfl (by first | exact .inl rfl | exact .inr rfl)) rfl
  (ss_cons (s_if (o_cmp (op_eq.or (op_eqD hu)) f_eq (x_var (i := 5) rfl (by first | exact .inl rfl | exact .inr (.inl rfl) | exact .inr (.inr rfl))) x_int (nomark _))
  (ss_one s_break)
  ss_nil)
  (ss_cons (s_expr (x_app (i := 1) rfl (by first | exact .inl rfl | exact .inr (.inl rfl) | exact .inr (.inr rfl)) (x_tree (x_op op_mod f_mod (x_tree (x_typ call_int1 f_int rfl T.n_int (by decide +kernel) (x_cons (x_var (i := 5) rfl (by first | exact .inl rfl | exact .inr (.inl rfl) | exact .inr (.inr rfl))) x_nil))) x_int))))
  (ss_one (s_set (i := 5) nd rfl (by first | exact .inl rfl | exact .inr rfl) rfl (x_op op_fdivW f_div (x_var (i := 5) rfl (by first | exact .inl rfl | exact .inr (.inl rfl) | exact .inr (.inr rfl))) x_int))))))))
  (ss_one (s_expr (x_app (i := 1) rfl (by first | exact .inl rfl | exact .inr (.inl rfl) | exact .inr (.inr rfl)) (x_tree (x_op op_mod f_mod (x_tree (x_typ call_int1 f_int rfl T.n_int (by decide +kernel) (x_cons (x_tree (x_op o_add f_add (x_tree (x_op op_mulW f_mul (x_tree (x_op op_fdivW f_div (x_var (i := 2) rfl (by first | exact .inl rfl | exact .inr (.inl rfl) | exact .inr (.inr rfl))) x_int)) x_int)) (x_var (i := 2) rfl (by first | exact .inl rfl | exact .inr (.inl rfl) | exact .inr (.inr rfl))))) x_nil))) x_int)))))))
  ss_nil))))
  (ss_cons (s_for (passes_of rfl) rfl (i_rng rfl T.n_range (x_cons x_int x_nil)) (g_name (i := 4) nd rfl (by first | exact .inl rfl | exact .inr rfl)) rfl
  (ss_cons (s_set (i := 2) nd rfl (by first | exact .inl rfl | exact .inr rfl) rfl (x_op op_mod f_mod (x_tree (x_typ call_int1 f_int rfl T.n_int (by decide +kernel) (x_cons (x_tree (x_op o_add f_add (x_tree (x_op o_add f_add (x_tree (x_op op_mulW f_mul (x_var (i := 2) rfl (by first | exact .inl rfl | exact .inr (.inl rfl) | exact .inr (.inr rfl))) x_int)) x_int)) (x_var (i := 4) rfl (by first | exact .inl rfl | exact .inr (.inl rfl) | exact .inr (.inr rfl))))) x_nil))) x_int))
  (ss_one (s_expr (x_app (i := 1) rfl (by first | exact .inl rfl | exact .inr (.inl rfl) | exact .inr (.inr rfl)) (x_tree (x_op op_mod f_mod (x_tree (x_typ call_int1 f_int rfl T.n_int (by decide +kernel) (x_cons (x_tree (x_op o_add f_add (x_tree (x_op op_mulW f_mul (x_tree (x_op op_fdivW f_div (x_var (i := 2) rfl (by first | exact .inl rfl | exact .inr (.inl rfl) | exact .inr (.inr rfl))) x_int)) (x_var (i := 2) rfl (by first | exact .inl rfl | exact .inr (.inl rfl) | exact .inr (.inr rfl))))) (x_tree (x_op op_fdivW f_div (x_var (i := 2) rfl (by first | exact .inl rfl | exact .inr (.inl rfl) | exact .inr (.inr rfl))) x_int)))) x_nil))) x_int)))))))
  (ss_one (s_ret (x_rev (x_var (i := 1) rfl (by first | exact .inl rfl | exact .inr (.inl rfl) | exact .inr (.inr rfl)))))))))))
def M__law_take : Ms := (mSeq (mIfS (mTst (mTree (m2 fEq (mLenV 0) (mC (.int 0)))))
  (mRet (mVal (mC (.int 0))))
  mNx)
  (mRet (m2 fMod (mTree (mN fInt (mCons (mPop 0) mNil))) (mVar 1))))
def D__law_take : DF := runDef 2 2 [0, 1] M__law_take
theorem ok__law_take (T : Txt K mg A FD CA CI FC) : FnOk P w K mg base (L2N.CX P w) 1 (A 24) (FD 24) ["_law_pool_here", "_law_bound"] (spD K mg D__law_take) := by
  refine def_ok T.F__law_take sc__law_take fun cdv A outer s H E hr tk => ?_
  have nd := sc__law_take.nd
  have hu := hr.u64
  exact (ss_cons (s_if (o_cmp (op_eq.or (op_eqD hu)) f_eq (x_lenV (i := 0) rfl T.n_len rfl (by first | exact .inl rfl | exact .inr (.inl rfl) | exact .inr (.inr rfl))) x_int (nomark _))
  (ss_one (s_ret (x_val x_int)))
  ss_nil)
  (ss_one (s_ret (x_op op_mod f_mod (x_tree (x_typ call_int1 f_int rfl T.n_int (by decide +kernel) (x_cons (x_pop (i := 0) rfl (by first | exact .inl rfl | exact .inr (.inl rfl) | exact .inr (.inr rfl))) x_nil))) (x_var (i := 1) rfl (by first | exact .inl rfl | exact .inr (.inl rfl) | exact .inr (.inr rfl)))))))
def M__law_great : Ms := (mSeq (mSet 1 (mVal (mC (.int 0))))
  (mSeq (mFor (mRng (mCons (mC (.int 4)) mNil)) (gN 2)
  (mSet 1 (m2 fAdd (mTree (m2 fMul (mVar 1) (mC (.int 1000)))) (mTree (mCallP D__law_take 0 (mCons (mC (.int 1000)) mNil))))))
  (mRet (mTake 1))))
def D__law_great : DF := runDef 3 1 [0] M__law_great
theorem ok__law_great (T : Txt K mg A FD CA CI FC) : FnOk P w K mg base (L2N.CX P w) 2 (A 25) (FD 25) ["_law_pool_here"] (spD K mg D__law_great) := by
  refine def_ok T.F__law_great sc__law_great fun cdv A outer s H E hr tk => ?_
  have nd := sc__law_great.nd
  have hu := hr.u64
  exact (ss_cons (s_set (i := 1) nd rfl (by first | exact .inl rfl | exact .inr rfl) rfl (x_val x_int))
  (ss_cons (s_for (passes_of rfl) rfl (i_rng rfl T.n_range (x_cons x_int x_nil)) (g_name (i := 2) nd rfl (by first | exact .inl rfl | exact .inr rfl)) rfl
  (ss_one (s_set (i := 1) nd rfl (by first | exact .inl rfl | exact .inr rfl) rfl (x_op o_add f_add (x_tree (x_op op_mulW f_mul (x_var (i := 1) rfl (by first | exact .inl rfl | exact .inr (.inl rfl) | exact .inr (.inr rfl))) x_int)) (x_tree (x_callP (i := 0) (ok__law_take T) (hr.mono (by decide)) tk rfl T.g__law_take T.F__law_take.kp (bd__law_take T.F__law_take) rfl (by first | exact .inl rfl | exact .inr (.inl rfl) | exact .inr (.inr rfl)) (x_cons x_int x_nil)))))))
  (ss_one (s_ret (x_take (i := 1) rfl (by first | exact .inl rfl | exact .inr (.inl rfl) | exact .inr (.inr rfl)))))))
def M__law_int : Ms := (mRet (mVal (mAndV (mIsi .int (mVar 0)) (mNotV (mIsi .bool (mVar 0))))))
def D__law_int : DF := runDef 1 1 [0] M__law_int
theorem ok__law_int (T : Txt K mg A FD CA CI FC) : FnOk P w K mg base (L2N.CX P w) 1 (A 26) (FD 26) ["_law_value"] (spD K mg D__law_int) := by
  refine def_ok T.F__law_int sc__law_int fun cdv A outer s H E hr tk => ?_
  have nd := sc__law_int.nd
  have hu := hr.u64
  exact (ss_one (s_ret (x_val (x_and (x_isi (y := .int) rfl T.n_isinstance rfl T.n_int (x_var (i := 0) rfl (by first | exact .inl rfl | exact .inr (.inl rfl) | exact .inr (.inr rfl)))) (x_one (x_not (x_isi (y := .bool) rfl T.n_isinstance rfl T.n_bool (x_var (i := 0) rfl (by first | exact .inl rfl | exact .inr (.inl rfl) | exact .inr (.inr rfl))))))))))
theorem okh__law_int (T : Txt K mg A FD CA CI FC) : L2H.FnH P w K mg base (L2N.CX P w) 1 (A 26) (FD 26) ["_law_value"] (spD K mg (noX D__law_int)) := by
  refine def_okH T.F__law_int sc__law_int fun cdv A outer s H E pp hot hr => ?_
  have nd := sc__law_int.nd
  exact (ss_one (s_ret (x_val (x_and (x_isi (y := .int) rfl T.n_isinstance rfl T.n_int (x_var (i := 0) rfl (by first | exact .inl rfl | exact .inr (.inl rfl) | exact .inr (.inr rfl)))) (x_one (x_not (x_isi (y := .bool) rfl T.n_isinstance rfl T.n_bool (x_var (i := 0) rfl (by first | exact .inl rfl | exact .inr (.inl rfl) | exact .inr (.inr rfl))))))))))
def M__law_common : Ms := (mSeq (mFor (mRng (mCons (mC (.int 400)) mNil)) (gN 2)
  (mSeq (mIfS (mTst (mTree (m2 fEq (mVar 1) (mC (.int 0)))))
  (fun e => .ok .bk e)
  mNx)
  (mSeq (mSet 3 (m2 fSub (mVar 0) (mTree (m2 fMul (mTree (m2 fDivG (mVar 0) (mVar 1))) (mVar 1)))))
  (mSeq (mSet 0 (mVal (mVar 1)))
  (mSet 1 (mVal (mVar 3)))))))
  (mRet (mVal (mVar 0))))
def D__law_common : DF := runDef 4 2 [] M__law_common
theorem ok__law_common (T : Txt K mg A FD CA CI FC) : FnOk P w K mg base (L2N.CX P w) 1 (A 27) (FD 27) ["_law_first", "_law_second"] (spD K mg D__law_common) := by
  refine def_ok T.F__law_common sc__law_common fun cdv A outer s H E hr tk => ?_
  have nd := sc__law_common.nd
  have hu := hr.u64
  exact (ss_cons (s_for (passes_of rfl) rfl (i_rng rfl T.n_range (x_cons x_int x_nil)) (g_name (i := 2) nd rfl (by first | exact .inl rfl | exact .inr rfl)) rfl
  (ss_cons (s_if (o_cmp (op_eq.or (op_eqD hu)) f_eq (x_var (i := 1) rfl (by first | exact .inl rfl | exact .inr (.inl rfl) | exact .inr (.inr rfl))) x_int (nomark _))
  (ss_one s_break)
  ss_nil)
  (ss_cons (s_set (i := 3) nd rfl (by first | exact .inl rfl | exact .inr rfl) rfl (x_op op_sub f_sub (x_var (i := 0) rfl (by first | exact .inl rfl | exact .inr (.inl rfl) | exact .inr (.inr rfl))) (x_tree (x_op op_mulW f_mul (x_tree (x_op op_fdivG f_divG (x_var (i := 0) rfl (by first | exact .inl rfl | exact .inr (.inl rfl) | exact .inr (.inr rfl))) (x_var (i := 1) rfl (by first | exact .inl rfl | exact .inr (.inl rfl) | exact .inr (.inr rfl))))) (x_var (i := 1) rfl (by first | exact .inl rfl | exact .inr (.inl rfl) | exact .inr (.inr rfl)))))))
  (ss_cons (s_set (i := 0) nd rfl (by first | exact .inl rfl | exact .inr rfl) rfl (x_val (x_var (i := 1) rfl (by first | exact .inl rfl | exact .inr (.inl rfl) | exact .inr (.inr rfl)))))
  (ss_one (s_set (i := 1) nd rfl (by first | exact .inl rfl | exact .inr rfl) rfl (x_val (x_var (i := 3) rfl (by first | exact .inl rfl | exact .inr (.inl rfl) | exact .inr (.inr rfl))))))))))
  (ss_one (s_ret (x_val (x_var (i := 0) rfl (by first | exact .inl rfl | exact .inr (.inl rfl) | exact .inr (.inr rfl)))))))
def M__law_share : Ms := (mSeq (mSet 1 (m2 fSub (mTree (mCallP D__law_take 0 (mCons (mC (.int 25)) mNil))) (mC (.int 12))))
  (mSeq (mSet 2 (m2 fAdd (mC (.int 1)) (mTree (mCallP D__law_take 0 (mCons (mC (.int 12)) mNil)))))
  (mSeq (mSet 3 (mCallP D__law_take 0 (mCons (mC (.int 6)) mNil)))
  (mSeq (mIfS (mTst (mTree (m2 fEq (mVar 3) (mC (.int 5)))))
  (mSeq (mSet 1 (m2 fSub (mTree (mCallP D__law_great 0 mNil)) (mTree (m2 fMul (mC (.int 5)) (mTree (m2 fPow (mC (.int 10)) (mC (.int 11))))))))
  (mSet 2 (m2 fAdd (mC (.int 1)) (mTree (mCallP D__law_great 0 mNil)))))
  mNx)
  (mSeq (mIfS (mTst (mTree (m2 fEq (mVar 3) (mC (.int 4)))))
  (mSet 1 (m2 fMul (mVar 1) (mTree (m2 fPow (mC (.int 10)) (mC (.int 10))))))
  mNx)
  (mSeq (mSet 4 (mCall D__law_common (mCons (mTree (mN fAbs (mCons (mVar 1) mNil))) (mCons (mVar 2) mNil))))
  (mRet (mVal (mTup (mCons (mTree (m2 fDivG (mVar 1) (mVar 4))) (mCons (mTree (m2 fDivG (mVar 2) (mVar 4))) mNil)))))))))))
def D__law_share : DF := runDef 5 1 [0] M__law_share
theorem ok__law_share (T : Txt K mg A FD CA CI FC) : FnOk P w K mg base (L2N.CX P w) 3 (A 28) (FD 28) ["_law_pool_here"] (spD K mg D__law_share) := by
  refine def_ok T.F__law_share sc__law_share fun cdv A outer s H E hr tk => ?_
  have nd := sc__law_share.nd
  have hu := hr.u64
  exact (ss_cons (s_set (i := 1) nd rfl (by first | exact .inl rfl | exact .inr rfl) rfl (x_op op_sub f_sub (x_tree (x_callP (i := 0) (ok__law_take T) (hr.mono (by decide)) tk rfl T.g__law_take T.F__law_take.kp (bd__law_take T.F__law_take) rfl (by first | exact .inl rfl | exact .inr (.inl rfl) | exact .inr (.inr rfl)) (x_cons x_int x_nil))) x_int))
  (ss_cons (s_set (i := 2) nd rfl (by first | exact .inl rfl | exact .inr rfl) rfl (x_op o_add f_add x_int (x_tree (x_callP (i := 0) (ok__law_take T) (hr.mono (by decide)) tk rfl T.g__law_take T.F__law_take.kp (bd__law_take T.F__law_take) rfl (by first | exact .inl rfl | exact .inr (.inl rfl) | exact .inr (.inr rfl)) (x_cons x_int x_nil)))))
  (ss_cons (s_set (i := 3) nd rfl (by first | exact .inl rfl | exact .inr rfl) rfl (x_callP (i := 0) (ok__law_take T) (hr.mono (by decide)) tk rfl T.g__law_take T.F__law_take.kp (bd__law_take T.F__law_take) rfl (by first | exact .inl rfl | exact .inr (.inl rfl) | exact .inr (.inr rfl)) (x_cons x_int x_nil)))
  (ss_cons (s_if (o_cmp (op_eq.or (op_eqD hu)) f_eq (x_var (i := 3) rfl (by first | exact .inl rfl | exact .inr (.inl rfl) | exact .inr (.inr rfl))) x_int (nomark _))
  (ss_cons (s_set (i := 1) nd rfl (by first | exact .inl rfl | exact .inr rfl) rfl (x_op op_sub f_sub (x_tree (x_callP (i := 0) (ok__law_great T) (hr.mono (by decide)) tk rfl T.g__law_great T.F__law_great.kp (bd__law_great T.F__law_great) rfl (by first | exact .inl rfl | exact .inr (.inl rfl) | exact .inr (.inr rfl)) x_nil)) (x_tree (x_op op_mulW f_mul x_int (x_tree (x_op op_pow f_pow x_int x_int))))))
  (ss_one (s_set (i := 2) nd rfl (by first | exact .inl rfl | exact .inr rfl) rfl (x_op o_add f_add x_int (x_tree (x_callP (i := 0) (ok__law_great T) (hr.mono (by decide)) tk rfl T.g__law_great T.F__law_great.kp (bd__law_great T.F__law_great) rfl (by first | exact .inl rfl | exact .inr (.inl rfl) | exact .inr (.inr rfl)) x_nil))))))
  ss_nil)
  (ss_cons (s_if (o_cmp (op_eq.or (op_eqD hu)) f_eq (x_var (i := 3) rfl (by first | exact .inl rfl | exact .inr (.inl rfl) | exact .inr (.inr rfl))) x_int (nomark _))
  (ss_one (s_set (i := 1) nd rfl (by first | exact .inl rfl | exact .inr rfl) rfl (x_op op_mulW f_mul (x_var (i := 1) rfl (by first | exact .inl rfl | exact .inr (.inl rfl) | exact .inr (.inr rfl))) (x_tree (x_op op_pow f_pow x_int x_int)))))
  ss_nil)
  (ss_cons (s_set (i := 4) nd rfl (by first | exact .inl rfl | exact .inr rfl) rfl (x_call (ok__law_common T) (hr.mono (by decide)) tk rfl T.g__law_common T.F__law_common.kp (bd__law_common T.F__law_common) (x_cons (x_tree (x_blt call_abs f_abs rfl T.n_abs (by decide +kernel) (x_cons (x_var (i := 1) rfl (by first | exact .inl rfl | exact .inr (.inl rfl) | exact .inr (.inr rfl))) x_nil))) (x_cons (x_var (i := 2) rfl (by first | exact .inl rfl | exact .inr (.inl rfl) | exact .inr (.inr rfl))) x_nil))))
  (ss_one (s_ret (x_val (x_tup (x_cons (x_tree (x_op op_fdivG f_divG (x_var (i := 1) rfl (by first | exact .inl rfl | exact .inr (.inl rfl) | exact .inr (.inr rfl))) (x_var (i := 4) rfl (by first | exact .inl rfl | exact .inr (.inl rfl) | exact .inr (.inr rfl))))) (x_cons (x_tree (x_op op_fdivG f_divG (x_var (i := 2) rfl (by first | exact .inl rfl | exact .inr (.inl rfl) | exact .inr (.inr rfl))) (x_var (i := 4) rfl (by first | exact .inl rfl | exact .inr (.inl rfl) | exact .inr (.inr rfl))))) x_nil))))))))))))
def M__law_stands : Ms := (mSeq (mIfS (mOrT (mNotT (mTst (mIsi .tup (mVar 0)))) (mOrT (mTst (mTree (m2 fNe (mLenV 0) (mC (.int 2))))) (mOrT (mNotT (mTst (mTree (mCall D__law_int (mCons (mIxV 0 (mC (.int 0))) mNil))))) (mNotT (mTst (mTree (mCall D__law_int (mCons (mIxV 0 (mC (.int 1))) mNil))))))))
  (mRet (mVal (mC (.bool false))))
  mNx)
  (mSeq (mIfS (mOrT (mTst (mTree (m2 fLt (mIxV 0 (mC (.int 1))) (mC (.int 1))))) (mTst (mTree (m2 fNe (mTree (mCall D__law_common (mCons (mTree (mN fAbs (mCons (mIxV 0 (mC (.int 0))) mNil))) (mCons (mIxV 0 (mC (.int 1))) mNil)))) (mC (.int 1))))))
  (mRet (mVal (mC (.bool false))))
  mNx)
  (mRet (m2 fEq (mTree (m2 fMul (mIxV 0 (mC (.int 0))) (mVar 2))) (mTree (m2 fMul (mVar 1) (mIxV 0 (mC (.int 1)))))))))
def D__law_stands : DF := runDef 3 3 [0, 1, 2] M__law_stands
theorem ok__law_stands (T : Txt K mg A FD CA CI FC) : FnOk P w K mg base (L2N.CX P w) 2 (A 29) (FD 29) ["_law_got", "_law_high", "_law_low"] (spD K mg D__law_stands) := by
  refine def_ok T.F__law_stands sc__law_stands fun cdv A outer s H E hr tk => ?_
  have nd := sc__law_stands.nd
  have hu := hr.u64
  exact (ss_cons (s_if (PW.pt (o_or (o_not (o_val (x_isi (y := .tup) rfl T.n_isinstance rfl T.n_tuple (x_var (i := 0) rfl (by first | exact .inl rfl | exact .inr (.inl rfl) | exact .inr (.inr rfl)))))) (o_or (o_cmp (op_ne.or (op_neD hu)) f_ne (x_lenV (i := 0) rfl T.n_len rfl (by first | exact .inl rfl | exact .inr (.inl rfl) | exact .inr (.inr rfl))) x_int (nomark _)) (o_or (o_not (o_val (x_tree (x_call (ok__law_int T) (hr.mono (by decide)) tk rfl T.g__law_int T.F__law_int.kp (bd__law_int T.F__law_int) (x_cons (x_ixV (i := 0) rfl (by first | exact .inl rfl | exact .inr (.inl rfl) | exact .inr (.inr rfl)) x_int (fun _ _ => rfl)) x_nil))))) (o_or1 (o_not (o_val (x_tree (x_call (ok__law_int T) (hr.mono (by decide)) tk rfl T.g__law_int T.F__law_int.kp (bd__law_int T.F__law_int) (x_cons (x_ixV (i := 0) rfl (by first | exact .inl rfl | exact .inr (.inl rfl) | exact .inr (.inr rfl)) x_int (fun _ _ => rfl)) x_nil))))))))))
  (ss_one (s_ret (x_val x_bl)))
  ss_nil)
  (ss_cons (s_if (PW.pt (o_or (o_cmp op_lt f_cmp (x_ixV (i := 0) rfl (by first | exact .inl rfl | exact .inr (.inl rfl) | exact .inr (.inr rfl)) x_int (fun _ _ => rfl)) x_int (nomark _)) (o_or1 (o_cmp (op_ne.or (op_neD hu)) f_ne (x_tree (x_call (ok__law_common T) (hr.mono (by decide)) tk rfl T.g__law_common T.F__law_common.kp (bd__law_common T.F__law_common) (x_cons (x_tree (x_blt call_abs f_abs rfl T.n_abs (by decide +kernel) (x_cons (x_ixV (i := 0) rfl (by first | exact .inl rfl | exact .inr (.inl rfl) | exact .inr (.inr rfl)) x_int (fun _ _ => rfl)) x_nil))) (x_cons (x_ixV (i := 0) rfl (by first | exact .inl rfl | exact .inr (.inl rfl) | exact .inr (.inr rfl)) x_int (fun _ _ => rfl)) x_nil)))) x_int (nomark _)))))
  (ss_one (s_ret (x_val x_bl)))
  ss_nil)
  (ss_one (s_ret (x_cmp (op_eq.or (op_eqD hu)) f_eq (x_tree (x_op op_mulW f_mul (x_ixV (i := 0) rfl (by first | exact .inl rfl | exact .inr (.inl rfl) | exact .inr (.inr rfl)) x_int (fun _ _ => rfl)) (x_var (i := 2) rfl (by first | exact .inl rfl | exact .inr (.inl rfl) | exact .inr (.inr rfl))))) (x_tree (x_op op_mulW f_mul (x_var (i := 1) rfl (by first | exact .inl rfl | exact .inr (.inl rfl) | exact .inr (.inr rfl))) (x_ixV (i := 0) rfl (by first | exact .inl rfl | exact .inr (.inl rfl) | exact .inr (.inr rfl)) x_int (fun _ _ => rfl)))) (nomark _))))))
def M__law_deed : Ms := (mSeq (mIfS (mTst (mTree (m2 fEq (mVar 0) (mC (.str "plus")))))
  (mRet (mCall D_plus (mCons (mIxV 1 (mC (.int 0))) (mCons (mIxV 1 (mC (.int 1))) mNil))))
  mNx)
  (mSeq (mIfS (mTst (mTree (m2 fEq (mVar 0) (mC (.str "minus")))))
  (mRet (mCall D_minus (mCons (mIxV 1 (mC (.int 0))) (mCons (mIxV 1 (mC (.int 1))) mNil))))
  mNx)
  (mSeq (mIfS (mTst (mTree (m2 fEq (mVar 0) (mC (.str "times")))))
  (mRet (mCall D_times (mCons (mIxV 1 (mC (.int 0))) (mCons (mIxV 1 (mC (.int 1))) mNil))))
  mNx)
  (mSeq (mIfS (mTst (mTree (m2 fEq (mVar 0) (mC (.str "over")))))
  (mRet (mCall D_over (mCons (mIxV 1 (mC (.int 0))) (mCons (mIxV 1 (mC (.int 1))) mNil))))
  mNx)
  (mSeq (mIfS (mTst (mTree (m2 fEq (mVar 0) (mC (.str "less")))))
  (mRet (mCall D_less (mCons (mIxV 1 (mC (.int 0))) (mCons (mIxV 1 (mC (.int 1))) mNil))))
  mNx)
  (mSeq (mIfS (mTst (mTree (m2 fEq (mVar 0) (mC (.str "quotient_of")))))
  (mRet (mCall D_quotient_of (mCons (mIxV 1 (mC (.int 0))) (mCons (mIxV 1 (mC (.int 1))) mNil))))
  mNx)
  (mSeq (mIfS (mTst (mTree (m2 fEq (mVar 0) (mC (.str "blocks_of")))))
  (mRet (mCall D_blocks_of (mCons (mIxV 1 (mC (.int 0))) (mCons (mIxV 1 (mC (.int 1))) mNil))))
  mNx)
  (mSeq (mIfS (mTst (mTree (m2 fEq (mVar 0) (mC (.str "joining_of")))))
  (mRet (mCall D_joining_of (mCons (mIxV 1 (mC (.int 0))) (mCons (mIxV 1 (mC (.int 1))) mNil))))
  mNx)
  (mRet (mCall D_joined_with (mCons (mIxV 1 (mC (.int 0))) (mCons (mIxV 1 (mC (.int 1))) (mCons (mIxV 1 (mC (.int 2))) mNil)))))))))))))
def D__law_deed : DF := runDef 2 2 [0, 1] M__law_deed
theorem ok__law_deed (T : Txt K mg A FD CA CI FC) : FnOk P w K mg base (L2N.CX P w) 7 (A 30) (FD 30) ["_law_deed_here", "_law_row_here"] (spD K mg D__law_deed) := by
  refine def_ok T.F__law_deed sc__law_deed fun cdv A outer s H E hr tk => ?_
  have nd := sc__law_deed.nd
  have hu := hr.u64
  exact (ss_cons (s_if (o_cmp (op_eq.or (op_eqD hu)) f_eq (x_var (i := 0) rfl (by first | exact .inl rfl | exact .inr (.inl rfl) | exact .inr (.inr rfl))) x_str (nomark _))
  (ss_one (s_ret (x_call (ok_plus T) (hr.mono (by decide)) tk rfl T.g_plus T.F_plus.kp (bd_plus T.F_plus) (x_cons (x_ixV (i := 1) rfl (by first | exact .inl rfl | exact .inr (.inl rfl) | exact .inr (.inr rfl)) x_int (fun _ _ => rfl)) (x_cons (x_ixV (i := 1) rfl (by first | exact .inl rfl | exact .inr (.inl rfl) | exact .inr (.inr rfl)) x_int (fun _ _ => rfl)) x_nil)))))
  ss_nil)
  (ss_cons (s_if (o_cmp (op_eq.or (op_eqD hu)) f_eq (x_var (i := 0) rfl (by first | exact .inl rfl | exact .inr (.inl rfl) | exact .inr (.inr rfl))) x_str (nomark _))
  (ss_one (s_ret (x_call (ok_minus T) (hr.mono (by decide)) tk rfl T.g_minus T.F_minus.kp (bd_minus T.F_minus) (x_cons (x_ixV (i := 1) rfl (by first | exact .inl rfl | exact .inr (.inl rfl) | exact .inr (.inr rfl)) x_int (fun _ _ => rfl)) (x_cons (x_ixV (i := 1) rfl (by first | exact .inl rfl | exact .inr (.inl rfl) | exact .inr (.inr rfl)) x_int (fun _ _ => rfl)) x_nil)))))
  ss_nil)
  (ss_cons (s_if (o_cmp (op_eq.or (op_eqD hu)) f_eq (x_var (i := 0) rfl (by first | exact .inl rfl | exact .inr (.inl rfl) | exact .inr (.inr rfl))) x_str (nomark _))
  (ss_one (s_ret (x_call (ok_times T) (hr.mono (by decide)) tk rfl T.g_times T.F_times.kp (bd_times T.F_times) (x_cons (x_ixV (i := 1) rfl (by first | exact .inl rfl | exact .inr (.inl rfl) | exact .inr (.inr rfl)) x_int (fun _ _ => rfl)) (x_cons (x_ixV (i := 1) rfl (by first | exact .inl rfl | exact .inr (.inl rfl) | exact .inr (.inr rfl)) x_int (fun _ _ => rfl)) x_nil)))))
  ss_nil)
  (ss_cons (s_if (o_cmp (op_eq.or (op_eqD hu)) f_eq (x_var (i := 0) rfl (by first | exact .inl rfl | exact .inr (.inl rfl) | exact .inr (.inr rfl))) x_str (nomark _))
  (ss_one (s_ret (x_call (ok_over T) (hr.mono (by decide)) tk rfl T.g_over T.F_over.kp (bd_over T.F_over) (x_cons (x_ixV (i := 1) rfl (by first | exact .inl rfl | exact .inr (.inl rfl) | exact .inr (.inr rfl)) x_int (fun _ _ => rfl)) (x_cons (x_ixV (i := 1) rfl (by first | exact .inl rfl | exact .inr (.inl rfl) | exact .inr (.inr rfl)) x_int (fun _ _ => rfl)) x_nil)))))
  ss_nil)
  (ss_cons (s_if (o_cmp (op_eq.or (op_eqD hu)) f_eq (x_var (i := 0) rfl (by first | exact .inl rfl | exact .inr (.inl rfl) | exact .inr (.inr rfl))) x_str (nomark _))
  (ss_one (s_ret (x_call (ok_less T) (hr.mono (by decide)) tk rfl T.g_less T.F_less.kp (bd_less T.F_less) (x_cons (x_ixV (i := 1) rfl (by first | exact .inl rfl | exact .inr (.inl rfl) | exact .inr (.inr rfl)) x_int (fun _ _ => rfl)) (x_cons (x_ixV (i := 1) rfl (by first | exact .inl rfl | exact .inr (.inl rfl) | exact .inr (.inr rfl)) x_int (fun _ _ => rfl)) x_nil)))))
  ss_nil)
  (ss_cons (s_if (o_cmp (op_eq.or (op_eqD hu)) f_eq (x_var (i := 0) rfl (by first | exact .inl rfl | exact .inr (.inl rfl) | exact .inr (.inr rfl))) x_str (nomark _))
  (ss_one (s_ret (x_call (ok_quotient_of T) (hr.mono (by decide)) tk rfl T.g_quotient_of T.F_quotient_of.kp (bd_quotient_of T.F_quotient_of) (x_cons (x_ixV (i := 1) rfl (by first | exact .inl rfl | exact .inr (.inl rfl) | exact .inr (.inr rfl)) x_int (fun _ _ => rfl)) (x_cons (x_ixV (i := 1) rfl (by first | exact .inl rfl | exact .inr (.inl rfl) | exact .inr (.inr rfl)) x_int (fun _ _ => rfl)) x_nil)))))
  ss_nil)
  (ss_cons (s_if (o_cmp (op_eq.or (op_eqD hu)) f_eq (x_var (i := 0) rfl (by first | exact .inl rfl | exact .inr (.inl rfl) | exact .inr (.inr rfl))) x_str (nomark _))
  (ss_one (s_ret (x_call (ok_blocks_of T) (hr.mono (by decide)) tk rfl T.g_blocks_of T.F_blocks_of.kp (bd_blocks_of T.F_blocks_of) (x_cons (x_ixV (i := 1) rfl (by first | exact .inl rfl | exact .inr (.inl rfl) | exact .inr (.inr rfl)) x_int (fun _ _ => rfl)) (x_cons (x_ixV (i := 1) rfl (by first | exact .inl rfl | exact .inr (.inl rfl) | exact .inr (.inr rfl)) x_int (fun _ _ => rfl)) x_nil)))))
  ss_nil)
  (ss_cons (s_if (o_cmp (op_eq.or (op_eqD hu)) f_eq (x_var (i := 0) rfl (by first | exact .inl rfl | exact .inr (.inl rfl) | exact .inr (.inr rfl))) x_str (nomark _))
  (ss_one (s_ret (x_call (ok_joining_of T) (hr.mono (by decide)) tk rfl T.g_joining_of T.F_joining_of.kp (bd_joining_of T.F_joining_of) (x_cons (x_ixV (i := 1) rfl (by first | exact .inl rfl | exact .inr (.inl rfl) | exact .inr (.inr rfl)) x_int (fun _ _ => rfl)) (x_cons (x_ixV (i := 1) rfl (by first | exact .inl rfl | exact .inr (.inl rfl) | exact .inr (.inr rfl)) x_int (fun _ _ => rfl)) x_nil)))))
  ss_nil)
  (ss_one (s_ret (x_call (ok_joined_with T) (hr.mono (by decide)) tk rfl T.g_joined_with T.F_joined_with.kp (bd_joined_with T.F_joined_with) (x_cons (x_ixV (i := 1) rfl (by first | exact .inl rfl | exact .inr (.inl rfl) | exact .inr (.inr rfl)) x_int (fun _ _ => rfl)) (x_cons (x_ixV (i := 1) rfl (by first | exact .inl rfl | exact .inr (.inl rfl) | exact .inr (.inr rfl)) x_int (fun _ _ => rfl)) (x_cons (x_ixV (i := 1) rfl (by first | exact .inl rfl | exact .inr (.inl rfl) | exact .inr (.inr rfl)) x_int (fun _ _ => rfl)) x_nil))))))))))))))
def Su__law_refused_0 (a dx : Nat) : Ms := (mSeq (mSet 4 (mVal (mAndV (mIsE a dx true (mVar 3)) (mAndV (mIsE a dx true (mVar 3)) (mIsE a dx true (mVar 3))))))
  (mSeq (mSet 4 (mVal (mAndV (mVar 4) (mAndV (mNotV (mIsE a dx false (mVar 3))) (mAndV (mIsi .str (mFldE a dx "word" (mVar 3))) (mTree (mCall (noX D__law_int) (mCons (mFldE a dx "at" (mVar 3)) mNil))))))))
  (mRet (mVal (mAndV (mVar 4) (mAndV (mTree (m2 fEq (mFldE a dx "word" (mVar 3)) (mVar 2))) (mTree (m2 fEq (mFldE a dx "at" (mVar 3)) (mTree (m1 fNeg (mC (.int 1))))))))))))
theorem ind_Su__law_refused_0 (a dx : Nat) (fs : List (Str × T)) (e : En) (hl : e.length = 5) : fgt 3 (Su__law_refused_0 a dx (e.set 3 (some (.val (exnT a dx fs))))) = fgt 3 (Su__law_refused_0 0 0 (e.set 3 (some (.val (exnT 0 0 fs))))) := by
  refine RelM.fgt (n := 5) ?_ e hl
  unfold Su__law_refused_0
  repeat' first | exact rel_nil | exact rel_nx | exact rel_C | exact rel_fld (by decide) | exact rel_isE (by decide) | exact rel_var (by decide) | apply rel_seq | apply rel_if | (refine rel_set (by decide) ?_) | apply rel_ret | apply rel_drop | apply rel_val | apply rel_tree | apply rel_and | apply rel_or | apply rel_not | apply rel_andT | apply rel_orT | apply rel_notT | apply rel_tst | apply rel_isi | apply rel_call | apply rel_cons | apply rel_tup | apply rel_lst | apply rel_2 | apply rel_1 | apply rel_N
def M__law_refused : Ms := (mSeq (mTry 5 3 "NotUsable"
  (mDrop (mCall D__law_deed (mCons (mVar 0) (mCons (mVar 1) mNil))))
  Su__law_refused_0)
  (mRet (mVal (mC (.bool false)))))
def D__law_refused : DF := runDef 5 3 [0, 1, 2] M__law_refused
theorem ok__law_refused (T : Txt K mg A FD CA CI FC) : FnOk P w K mg base (L2N.CX P w) 8 (A 31) (FD 31) ["_law_deed_here", "_law_row_here", "_law_due"] (spD K mg D__law_refused) := by
  refine def_ok T.F__law_refused sc__law_refused fun cdv A outer s H E hr tk => ?_
  have nd := sc__law_refused.nd
  have hu := hr.u64
  exact (ss_cons (s_try nd (i := 3) (n := 5) (su := Su__law_refused_0) rfl rfl T.x_NotUsable rfl tk (fun _ _ _ tk => (ss_one (s_expr (x_call (ok__law_deed T) (hr.mono (by decide)) tk rfl T.g__law_deed T.F__law_deed.kp (bd__law_deed T.F__law_deed) (x_cons (x_var (i := 0) rfl (by first | exact .inl rfl | exact .inr (.inl rfl) | exact .inr (.inr rfl))) (x_cons (x_var (i := 1) rfl (by first | exact .inl rfl | exact .inr (.inl rfl) | exact .inr (.inr rfl))) x_nil))))))
  (fun a dx oe pn hz2 hf => have hz := hz2.zc; (ss_cons (s_set (i := 4) nd rfl (by first | exact .inl rfl | exact .inr rfl) rfl (x_val (x_and (x_isO (b := true) T.xi_NotUsable hz hf rfl T.n_isinstance rfl T.gc_WebError T.kit_NotUsable_WebError (x_var (i := 3) rfl (by first | exact .inl rfl | exact .inr (.inl rfl) | exact .inr (.inr rfl)))) (x_and (x_isO (b := true) T.xi_NotUsable hz hf rfl T.n_isinstance rfl T.gc_LedError T.kit_NotUsable_LedError (x_var (i := 3) rfl (by first | exact .inl rfl | exact .inr (.inl rfl) | exact .inr (.inr rfl)))) (x_one (x_isB (b := true) T.xi_NotUsable hz hf rfl T.n_isinstance rfl T.n_ValueError (by decide +kernel) T.kit_NotUsable_ValueError (x_var (i := 3) rfl (by first | exact .inl rfl | exact .inr (.inl rfl) | exact .inr (.inr rfl)))))))))
  (ss_cons (s_set (i := 4) nd rfl (by first | exact .inl rfl | exact .inr rfl) rfl (x_val (x_and (x_var (i := 4) rfl (by first | exact .inl rfl | exact .inr (.inl rfl) | exact .inr (.inr rfl))) (x_and (x_not (x_isO (b := false) T.xi_NotUsable hz hf rfl T.n_isinstance rfl T.gc_PaperError T.kit_NotUsable_PaperError (x_var (i := 3) rfl (by first | exact .inl rfl | exact .inr (.inl rfl) | exact .inr (.inr rfl))))) (x_and (x_isi (y := .str) rfl T.n_isinstance rfl T.n_str (x_fldE T.x_NotUsable.xf T.no_NotUsable_word hz hf (x_var (i := 3) rfl (by first | exact .inl rfl | exact .inr (.inl rfl) | exact .inr (.inr rfl))))) (x_one (x_tree (x_callH (okh__law_int T) (L2H.roomH_mark (hr.mono (by decide)) _) (hotC hz2 hf) rfl T.g__law_int T.F__law_int.kp (bd__law_int T.F__law_int) (x_cons (x_fldE T.x_NotUsable.xf T.no_NotUsable_at hz hf (x_var (i := 3) rfl (by first | exact .inl rfl | exact .inr (.inl rfl) | exact .inr (.inr rfl)))) x_nil)))))))))
  (ss_one (s_ret (x_val (x_and (x_var (i := 4) rfl (by first | exact .inl rfl | exact .inr (.inl rfl) | exact .inr (.inr rfl))) (x_and (x_tree (x_cmp (op_eq.or (op_eqD hu)) f_eq (x_fldE T.x_NotUsable.xf T.no_NotUsable_word hz hf (x_var (i := 3) rfl (by first | exact .inl rfl | exact .inr (.inl rfl) | exact .inr (.inr rfl)))) (x_var (i := 2) rfl (by first | exact .inl rfl | exact .inr (.inl rfl) | exact .inr (.inr rfl))) (nomark _))) (x_one (x_tree (x_cmp (op_eq.or (op_eqD hu)) f_eq (x_fldE T.x_NotUsable.xf T.no_NotUsable_at hz hf (x_var (i := 3) rfl (by first | exact .inl rfl | exact .inr (.inl rfl) | exact .inr (.inr rfl)))) (x_tree (x_un un_neg f_neg x_int)) (nomark _)))))))))))) ind_Su__law_refused_0)
  (ss_one (s_ret (x_val x_bl))))
def M__law_number : Ms := (mSeq (mIfS (mTst (mTree (m2 fEq (mVar 0) (mC (.str "plus")))))
  (mRet (mVal (mTup (mCons (mTree (m2 fAdd (mTree (m2 fMul (mIxV 1 (mC (.int 0))) (mIxV 2 (mC (.int 1))))) (mTree (m2 fMul (mIxV 2 (mC (.int 0))) (mIxV 1 (mC (.int 1))))))) (mCons (mTree (m2 fMul (mIxV 1 (mC (.int 1))) (mIxV 2 (mC (.int 1))))) mNil)))))
  mNx)
  (mSeq (mIfS (mTst (mTree (m2 fEq (mVar 0) (mC (.str "minus")))))
  (mRet (mVal (mTup (mCons (mTree (m2 fSub (mTree (m2 fMul (mIxV 1 (mC (.int 0))) (mIxV 2 (mC (.int 1))))) (mTree (m2 fMul (mIxV 2 (mC (.int 0))) (mIxV 1 (mC (.int 1))))))) (mCons (mTree (m2 fMul (mIxV 1 (mC (.int 1))) (mIxV 2 (mC (.int 1))))) mNil)))))
  mNx)
  (mSeq (mIfS (mTst (mTree (m2 fEq (mVar 0) (mC (.str "times")))))
  (mRet (mVal (mTup (mCons (mTree (m2 fMul (mIxV 1 (mC (.int 0))) (mIxV 2 (mC (.int 0))))) (mCons (mTree (m2 fMul (mIxV 1 (mC (.int 1))) (mIxV 2 (mC (.int 1))))) mNil)))))
  mNx)
  (mRet (mVal (mTup (mCons (mTree (m2 fMul (mIxV 1 (mC (.int 0))) (mIxV 2 (mC (.int 1))))) (mCons (mTree (m2 fMul (mIxV 1 (mC (.int 1))) (mIxV 2 (mC (.int 0))))) mNil))))))))
def D__law_number : DF := runDef 3 3 [0, 1, 2] M__law_number
theorem ok__law_number (T : Txt K mg A FD CA CI FC) : FnOk P w K mg base (L2N.CX P w) 1 (A 32) (FD 32) ["_law_deed_here", "_law_a", "_law_b"] (spD K mg D__law_number) := by
  refine def_ok T.F__law_number sc__law_number fun cdv A outer s H E hr tk => ?_
  have nd := sc__law_number.nd
  have hu := hr.u64
  exact (ss_cons (s_if (o_cmp (op_eq.or (op_eqD hu)) f_eq (x_var (i := 0) rfl (by first | exact .inl rfl | exact .inr (.inl rfl) | exact .inr (.inr rfl))) x_str (nomark _))
  (ss_one (s_ret (x_val (x_tup (x_cons (x_tree (x_op o_add f_add (x_tree (x_op op_mulW f_mul (x_ixV (i := 1) rfl (by first | exact .inl rfl | exact .inr (.inl rfl) | exact .inr (.inr rfl)) x_int (fun _ _ => rfl)) (x_ixV (i := 2) rfl (by first | exact .inl rfl | exact .inr (.inl rfl) | exact .inr (.inr rfl)) x_int (fun _ _ => rfl)))) (x_tree (x_op op_mulW f_mul (x_ixV (i := 2) rfl (by first | exact .inl rfl | exact .inr (.inl rfl) | exact .inr (.inr rfl)) x_int (fun _ _ => rfl)) (x_ixV (i := 1) rfl (by first | exact .inl rfl | exact .inr (.inl rfl) | exact .inr (.inr rfl)) x_int (fun _ _ => rfl)))))) (x_cons (x_tree (x_op op_mulW f_mul (x_ixV (i := 1) rfl (by first | exact .inl rfl | exact .inr (.inl rfl) | exact .inr (.inr rfl)) x_int (fun _ _ => rfl)) (x_ixV (i := 2) rfl (by first | exact .inl rfl | exact .inr (.inl rfl) | exact .inr (.inr rfl)) x_int (fun _ _ => rfl)))) x_nil))))))
  ss_nil)
  (ss_cons (s_if (o_cmp (op_eq.or (op_eqD hu)) f_eq (x_var (i := 0) rfl (by first | exact .inl rfl | exact .inr (.inl rfl) | exact .inr (.inr rfl))) x_str (nomark _))
  (ss_one (s_ret (x_val (x_tup (x_cons (x_tree (x_op op_sub f_sub (x_tree (x_op op_mulW f_mul (x_ixV (i := 1) rfl (by first | exact .inl rfl | exact .inr (.inl rfl) | exact .inr (.inr rfl)) x_int (fun _ _ => rfl)) (x_ixV (i := 2) rfl (by first | exact .inl rfl | exact .inr (.inl rfl) | exact .inr (.inr rfl)) x_int (fun _ _ => rfl)))) (x_tree (x_op op_mulW f_mul (x_ixV (i := 2) rfl (by first | exact .inl rfl | exact .inr (.inl rfl) | exact .inr (.inr rfl)) x_int (fun _ _ => rfl)) (x_ixV (i := 1) rfl (by first | exact .inl rfl | exact .inr (.inl rfl) | exact .inr (.inr rfl)) x_int (fun _ _ => rfl)))))) (x_cons (x_tree (x_op op_mulW f_mul (x_ixV (i := 1) rfl (by first | exact .inl rfl | exact .inr (.inl rfl) | exact .inr (.inr rfl)) x_int (fun _ _ => rfl)) (x_ixV (i := 2) rfl (by first | exact .inl rfl | exact .inr (.inl rfl) | exact .inr (.inr rfl)) x_int (fun _ _ => rfl)))) x_nil))))))
  ss_nil)
  (ss_cons (s_if (o_cmp (op_eq.or (op_eqD hu)) f_eq (x_var (i := 0) rfl (by first | exact .inl rfl | exact .inr (.inl rfl) | exact .inr (.inr rfl))) x_str (nomark _))
  (ss_one (s_ret (x_val (x_tup (x_cons (x_tree (x_op op_mulW f_mul (x_ixV (i := 1) rfl (by first | exact .inl rfl | exact .inr (.inl rfl) | exact .inr (.inr rfl)) x_int (fun _ _ => rfl)) (x_ixV (i := 2) rfl (by first | exact .inl rfl | exact .inr (.inl rfl) | exact .inr (.inr rfl)) x_int (fun _ _ => rfl)))) (x_cons (x_tree (x_op op_mulW f_mul (x_ixV (i := 1) rfl (by first | exact .inl rfl | exact .inr (.inl rfl) | exact .inr (.inr rfl)) x_int (fun _ _ => rfl)) (x_ixV (i := 2) rfl (by first | exact .inl rfl | exact .inr (.inl rfl) | exact .inr (.inr rfl)) x_int (fun _ _ => rfl)))) x_nil))))))
  ss_nil)
  (ss_one (s_ret (x_val (x_tup (x_cons (x_tree (x_op op_mulW f_mul (x_ixV (i := 1) rfl (by first | exact .inl rfl | exact .inr (.inl rfl) | exact .inr (.inr rfl)) x_int (fun _ _ => rfl)) (x_ixV (i := 2) rfl (by first | exact .inl rfl | exact .inr (.inl rfl) | exact .inr (.inr rfl)) x_int (fun _ _ => rfl)))) (x_cons (x_tree (x_op op_mulW f_mul (x_ixV (i := 1) rfl (by first | exact .inl rfl | exact .inr (.inl rfl) | exact .inr (.inr rfl)) x_int (fun _ _ => rfl)) (x_ixV (i := 2) rfl (by first | exact .inl rfl | exact .inr (.inl rfl) | exact .inr (.inr rfl)) x_int (fun _ _ => rfl)))) x_nil)))))))))
def M__law_pair : Ms := (mSeq (mFor (mSeq1 (mTree (mLst (mCons (mC (.str "plus")) (mCons (mC (.str "minus")) (mCons (mC (.str "times")) (mCons (mC (.str "over")) mNil))))))) (gN 2)
  (mIfS (mAndT (mTst (mTree (m2 fEq (mVar 2) (mC (.str "over"))))) (mTst (mTree (m2 fEq (mIxV 1 (mC (.int 0))) (mC (.int 0))))))
  (mIfS (mNotT (mTst (mTree (mCall D__law_refused (mCons (mVar 2) (mCons (mTup (mCons (mVar 0) (mCons (mVar 1) mNil))) (mCons (mC (.str "other")) mNil)))))))
  (mRet (mVal (mC (.bool false))))
  mNx)
  (mSeq (mAsg (gT (gsCons (gN 4) (gsCons (gN 5) gsNil)) 2) (mTree (mCall D__law_number (mCons (mVar 2) (mCons (mVar 0) (mCons (mVar 1) mNil))))))
  (mIfS (mNotT (mTst (mTree (mCall D__law_stands (mCons (mTree (mCall D__law_deed (mCons (mVar 2) (mCons (mTup (mCons (mVar 0) (mCons (mVar 1) mNil))) mNil)))) (mCons (mVar 4) (mCons (mVar 5) mNil)))))))
  (mRet (mVal (mC (.bool false))))
  mNx))))
  (mSeq (mSet 3 (mCall D_less (mCons (mVar 0) (mCons (mVar 1) mNil))))
  (mSeq (mIfS (mTst (mTree (m2 fLt (mTree (m2 fMul (mIxV 0 (mC (.int 0))) (mIxV 1 (mC (.int 1))))) (mTree (m2 fMul (mIxV 1 (mC (.int 0))) (mIxV 0 (mC (.int 1))))))))
  (mRet (m2 fIs (mVar 3) (mC (.bool true))))
  mNx)
  (mRet (m2 fIs (mVar 3) (mC (.bool false)))))))
def D__law_pair : DF := runDef 6 2 [0, 1] M__law_pair
theorem ok__law_pair (T : Txt K mg A FD CA CI FC) : FnOk P w K mg base (L2N.CX P w) 9 (A 33) (FD 33) ["_law_a", "_law_b"] (spD K mg D__law_pair) := by
  refine def_ok T.F__law_pair sc__law_pair fun cdv A outer s H E hr tk => ?_
  have nd := sc__law_pair.nd
  have hu := hr.u64
  exact (ss_cons (s_for (passes_of rfl) rfl (i_seq (x_tree (x_lst (x_cons x_str (x_cons x_str (x_cons x_str (x_cons x_str x_nil))))))) (g_name (i := 2) nd rfl (by first | exact .inl rfl | exact .inr rfl)) rfl
  (ss_one (s_if (PW.pt (o_and (o_cmp (op_eq.or (op_eqD hu)) f_eq (x_var (i := 2) rfl (by first | exact .inl rfl | exact .inr (.inl rfl) | exact .inr (.inr rfl))) x_str (nomark _)) (o_and1 (o_cmp (op_eq.or (op_eqD hu)) f_eq (x_ixV (i := 1) rfl (by first | exact .inl rfl | exact .inr (.inl rfl) | exact .inr (.inr rfl)) x_int (fun _ _ => rfl)) x_int (nomark _)))))
  (ss_one (s_if (o_not (o_val (x_tree (x_call (ok__law_refused T) (hr.mono (by decide)) tk rfl T.g__law_refused T.F__law_refused.kp (bd__law_refused T.F__law_refused) (x_cons (x_var (i := 2) rfl (by first | exact .inl rfl | exact .inr (.inl rfl) | exact .inr (.inr rfl))) (x_cons (x_tup (x_cons (x_var (i := 0) rfl (by first | exact .inl rfl | exact .inr (.inl rfl) | exact .inr (.inr rfl))) (x_cons (x_var (i := 1) rfl (by first | exact .inl rfl | exact .inr (.inl rfl) | exact .inr (.inr rfl))) x_nil))) (x_cons x_str x_nil)))))))
  (ss_one (s_ret (x_val x_bl)))
  ss_nil))
  (ss_cons (s_asg (x_tree (x_call (ok__law_number T) (hr.mono (by decide)) tk rfl T.g__law_number T.F__law_number.kp (bd__law_number T.F__law_number) (x_cons (x_var (i := 2) rfl (by first | exact .inl rfl | exact .inr (.inl rfl) | exact .inr (.inr rfl))) (x_cons (x_var (i := 0) rfl (by first | exact .inl rfl | exact .inr (.inl rfl) | exact .inr (.inr rfl))) (x_cons (x_var (i := 1) rfl (by first | exact .inl rfl | exact .inr (.inl rfl) | exact .inr (.inr rfl))) x_nil))))) (g_tup rfl (gs_cons (g_name (i := 4) nd rfl (by first | exact .inl rfl | exact .inr rfl)) (gs_cons (g_name (i := 5) nd rfl (by first | exact .inl rfl | exact .inr rfl)) gs_nil))) rfl)
  (ss_one (s_if (o_not (o_val (x_tree (x_call (ok__law_stands T) (hr.mono (by decide)) tk rfl T.g__law_stands T.F__law_stands.kp (bd__law_stands T.F__law_stands) (x_cons (x_tree (x_call (ok__law_deed T) (hr.mono (by decide)) tk rfl T.g__law_deed T.F__law_deed.kp (bd__law_deed T.F__law_deed) (x_cons (x_var (i := 2) rfl (by first | exact .inl rfl | exact .inr (.inl rfl) | exact .inr (.inr rfl))) (x_cons (x_tup (x_cons (x_var (i := 0) rfl (by first | exact .inl rfl | exact .inr (.inl rfl) | exact .inr (.inr rfl))) (x_cons (x_var (i := 1) rfl (by first | exact .inl rfl | exact .inr (.inl rfl) | exact .inr (.inr rfl))) x_nil))) x_nil)))) (x_cons (x_var (i := 4) rfl (by first | exact .inl rfl | exact .inr (.inl rfl) | exact .inr (.inr rfl))) (x_cons (x_var (i := 5) rfl (by first | exact .inl rfl | exact .inr (.inl rfl) | exact .inr (.inr rfl))) x_nil)))))))
  (ss_one (s_ret (x_val x_bl)))
  ss_nil))))))
  (ss_cons (s_set (i := 3) nd rfl (by first | exact .inl rfl | exact .inr rfl) rfl (x_call (ok_less T) (hr.mono (by decide)) tk rfl T.g_less T.F_less.kp (bd_less T.F_less) (x_cons (x_var (i := 0) rfl (by first | exact .inl rfl | exact .inr (.inl rfl) | exact .inr (.inr rfl))) (x_cons (x_var (i := 1) rfl (by first | exact .inl rfl | exact .inr (.inl rfl) | exact .inr (.inr rfl))) x_nil))))
  (ss_cons (s_if (o_cmp op_lt f_cmp (x_tree (x_op op_mulW f_mul (x_ixV (i := 0) rfl (by first | exact .inl rfl | exact .inr (.inl rfl) | exact .inr (.inr rfl)) x_int (fun _ _ => rfl)) (x_ixV (i := 1) rfl (by first | exact .inl rfl | exact .inr (.inl rfl) | exact .inr (.inr rfl)) x_int (fun _ _ => rfl)))) (x_tree (x_op op_mulW f_mul (x_ixV (i := 1) rfl (by first | exact .inl rfl | exact .inr (.inl rfl) | exact .inr (.inr rfl)) x_int (fun _ _ => rfl)) (x_ixV (i := 0) rfl (by first | exact .inl rfl | exact .inr (.inl rfl) | exact .inr (.inr rfl)) x_int (fun _ _ => rfl)))) (nomark _))
  (ss_one (s_ret (x_cmp op_isG f_is (x_var (i := 3) rfl (by first | exact .inl rfl | exact .inr (.inl rfl) | exact .inr (.inr rfl))) x_bl (nomark _))))
  ss_nil)
  (ss_one (s_ret (x_cmp op_isG f_is (x_var (i := 3) rfl (by first | exact .inl rfl | exact .inr (.inl rfl) | exact .inr (.inr rfl))) x_bl (nomark _)))))))
def M__law_chain : Ms := (mSeq (mFor (mRng (mCons (mC (.int 6)) mNil)) (gN 2)
  (mSeq (mSet 3 (mVal (mTup (mCons (mTree (m2 fSub (mTree (mCallP D__law_take 0 (mCons (mC (.int 13)) mNil))) (mC (.int 6)))) (mCons (mTree (m2 fAdd (mC (.int 1)) (mTree (mCallP D__law_take 0 (mCons (mC (.int 4)) mNil))))) mNil)))))
  (mSeq (mSet 4 (mCall D__law_common (mCons (mTree (mN fAbs (mCons (mIxV 3 (mC (.int 0))) mNil))) (mCons (mIxV 3 (mC (.int 1))) mNil))))
  (mSeq (mSet 3 (mVal (mTup (mCons (mTree (m2 fDivG (mIxV 3 (mC (.int 0))) (mVar 4))) (mCons (mTree (m2 fDivG (mIxV 3 (mC (.int 1))) (mVar 4))) mNil)))))
  (mSeq (mSet 5 (m2 fIx (mTree (mLst (mCons (mC (.str "times")) (mCons (mC (.str "plus")) (mCons (mC (.str "minus")) (mCons (mC (.str "over")) mNil)))))) (mTree (mCallP D__law_take 0 (mCons (mC (.int 4)) mNil)))))
  (mSeq (mIfS (mAndT (mTst (mTree (m2 fEq (mVar 5) (mC (.str "over"))))) (mTst (mTree (m2 fEq (mIxV 3 (mC (.int 0))) (mC (.int 0))))))
  (mSet 5 (mVal (mC (.str "plus"))))
  mNx)
  (mSeq (mAsg (gT (gsCons (gN 6) (gsCons (gN 7) gsNil)) 2) (mTree (mCall D__law_number (mCons (mVar 5) (mCons (mVar 1) (mCons (mVar 3) mNil))))))
  (mSeq (mSet 1 (mCall D__law_deed (mCons (mVar 5) (mCons (mTup (mCons (mVar 1) (mCons (mVar 3) mNil))) mNil))))
  (mSeq (mIfS (mNotT (mTst (mTree (mCall D__law_stands (mCons (mVar 1) (mCons (mVar 6) (mCons (mVar 7) mNil)))))))
  (mRet (mVal (mC (.bool false))))
  mNx)
  (mIfS (mOrT (mTst (mTree (m2 fGt (mTree (mN fAbs (mCons (mIxV 1 (mC (.int 0))) mNil))) (mTree (m2 fPow (mC (.int 10)) (mC (.int 12))))))) (mTst (mTree (m2 fGt (mIxV 1 (mC (.int 1))) (mTree (m2 fPow (mC (.int 10)) (mC (.int 12))))))))
  (mRet (mVal (mC (.bool true))))
  mNx))))))))))
  (mRet (mVal (mC (.bool true)))))
def D__law_chain : DF := runDef 8 2 [0] M__law_chain
theorem ok__law_chain (T : Txt K mg A FD CA CI FC) : FnOk P w K mg base (L2N.CX P w) 8 (A 34) (FD 34) ["_law_pool_here", "_law_a"] (spD K mg D__law_chain) := by
  refine def_ok T.F__law_chain sc__law_chain fun cdv A outer s H E hr tk => ?_
  have nd := sc__law_chain.nd
  have hu := hr.u64
  exact (ss_cons (s_for (passes_of rfl) rfl (i_rng rfl T.n_range (x_cons x_int x_nil)) (g_name (i := 2) nd rfl (by first | exact .inl rfl | exact .inr rfl)) rfl
  (ss_cons (s_set (i := 3) nd rfl (by first | exact .inl rfl | exact .inr rfl) rfl (x_val (x_tup (x_cons (x_tree (x_op op_sub f_sub (x_tree (x_callP (i := 0) (ok__law_take T) (hr.mono (by decide)) tk rfl T.g__law_take T.F__law_take.kp (bd__law_take T.F__law_take) rfl (by first | exact .inl rfl | exact .inr (.inl rfl) | exact .inr (.inr rfl)) (x_cons x_int x_nil))) x_int)) (x_cons (x_tree (x_op o_add f_add x_int (x_tree (x_callP (i := 0) (ok__law_take T) (hr.mono (by decide)) tk rfl T.g__law_take T.F__law_take.kp (bd__law_take T.F__law_take) rfl (by first | exact .inl rfl | exact .inr (.inl rfl) | exact .inr (.inr rfl)) (x_cons x_int x_nil))))) x_nil)))))
  (ss_cons (s_set (i := 4) nd rfl (by first | exact .inl rfl | exact .inr rfl) rfl (x_call (ok__law_common T) (hr.mono (by decide)) tk rfl T.g__law_common T.F__law_common.kp (bd__law_common T.F__law_common) (x_cons (x_tree (x_blt call_abs f_abs rfl T.n_abs (by decide +kernel) (x_cons (x_ixV (i := 3) rfl (by first | exact .inl rfl | exact .inr (.inl rfl) | exact .inr (.inr rfl)) x_int (fun _ _ => rfl)) x_nil))) (x_cons (x_ixV (i := 3) rfl (by first | exact .inl rfl | exact .inr (.inl rfl) | exact .inr (.inr rfl)) x_int (fun _ _ => rfl)) x_nil))))
  (ss_cons (s_set (i := 3) nd rfl (by first | exact .inl rfl | exact .inr rfl) rfl (x_val (x_tup (x_cons (x_tree (x_op op_fdivG f_divG (x_ixV (i := 3) rfl (by first | exact .inl rfl | exact .inr (.inl rfl) | exact .inr (.inr rfl)) x_int (fun _ _ => rfl)) (x_var (i := 4) rfl (by first | exact .inl rfl | exact .inr (.inl rfl) | exact .inr (.inr rfl))))) (x_cons (x_tree (x_op op_fdivG f_divG (x_ixV (i := 3) rfl (by first | exact .inl rfl | exact .inr (.inl rfl) | exact .inr (.inr rfl)) x_int (fun _ _ => rfl)) (x_var (i := 4) rfl (by first | exact .inl rfl | exact .inr (.inl rfl) | exact .inr (.inr rfl))))) x_nil)))))
  (ss_cons (s_set (i := 5) nd rfl (by first | exact .inl rfl | exact .inr rfl) rfl (x_ix (ix_list.or ix_tup) f_ix (x_tree (x_lst (x_cons x_str (x_cons x_str (x_cons x_str (x_cons x_str x_nil)))))) (x_tree (x_callP (i := 0) (ok__law_take T) (hr.mono (by decide)) tk rfl T.g__law_take T.F__law_take.kp (bd__law_take T.F__law_take) rfl (by first | exact .inl rfl | exact .inr (.inl rfl) | exact .inr (.inr rfl)) (x_cons x_int x_nil))) (fun _ _ => rfl)))
  (ss_cons (s_if (PW.pt (o_and (o_cmp (op_eq.or (op_eqD hu)) f_eq (x_var (i := 5) rfl (by first | exact .inl rfl | exact .inr (.inl rfl) | exact .inr (.inr rfl))) x_str (nomark _)) (o_and1 (o_cmp (op_eq.or (op_eqD hu)) f_eq (x_ixV (i := 3) rfl (by first | exact .inl rfl | exact .inr (.inl rfl) | exact .inr (.inr rfl)) x_int (fun _ _ => rfl)) x_int (nomark _)))))
  (ss_one (s_set (i := 5) nd rfl (by first | exact .inl rfl | exact .inr rfl) rfl (x_val x_str)))
  ss_nil)
  (ss_cons (s_asg (x_tree (x_call (ok__law_number T) (hr.mono (by decide)) tk rfl T.g__law_number T.F__law_number.kp (bd__law_number T.F__law_number) (x_cons (x_var (i := 5) rfl (by first | exact .inl rfl | exact .inr (.inl rfl) | exact .inr (.inr rfl))) (x_cons (x_var (i := 1) rfl (by first | exact .inl rfl | exact .inr (.inl rfl) | exact .inr (.inr rfl))) (x_cons (x_var (i := 3) rfl (by first | exact .inl rfl | exact .inr (.inl rfl) | exact .inr (.inr rfl))) x_nil))))) (g_tup rfl (gs_cons (g_name (i := 6) nd rfl (by first | exact .inl rfl | exact .inr rfl)) (gs_cons (g_name (i := 7) nd rfl (by first | exact .inl rfl | exact .inr rfl)) gs_nil))) rfl)
  (ss_cons (s_set (i := 1) nd rfl (by first | exact .inl rfl | exact .inr rfl) rfl (x_call (ok__law_deed T) (hr.mono (by decide)) tk rfl T.g__law_deed T.F__law_deed.kp (bd__law_deed T.F__law_deed) (x_cons (x_var (i := 5) rfl (by first | exact .inl rfl | exact .inr (.inl rfl) | exact .inr (.inr rfl))) (x_cons (x_tup (x_cons (x_var (i := 1) rfl (by first | exact .inl rfl | exact .inr (.inl rfl) | exact .inr (.inr rfl))) (x_cons (x_var (i := 3) rfl (by first | exact .inl rfl | exact .inr (.inl rfl) | exact .inr (.inr rfl))) x_nil))) x_nil))))
  (ss_cons (s_if (o_not (o_val (x_tree (x_call (ok__law_stands T) (hr.mono (by decide)) tk rfl T.g__law_stands T.F__law_stands.kp (bd__law_stands T.F__law_stands) (x_cons (x_var (i := 1) rfl (by first | exact .inl rfl | exact .inr (.inl rfl) | exact .inr (.inr rfl))) (x_cons (x_var (i := 6) rfl (by first | exact .inl rfl | exact .inr (.inl rfl) | exact .inr (.inr rfl))) (x_cons (x_var (i := 7) rfl (by first | exact .inl rfl | exact .inr (.inl rfl) | exact .inr (.inr rfl))) x_nil)))))))
  (ss_one (s_ret (x_val x_bl)))
  ss_nil)
  (ss_one (s_if (PW.pt (o_or (o_cmp op_gt f_cmp (x_tree (x_blt call_abs f_abs rfl T.n_abs (by decide +kernel) (x_cons (x_ixV (i := 1) rfl (by first | exact .inl rfl | exact .inr (.inl rfl) | exact .inr (.inr rfl)) x_int (fun _ _ => rfl)) x_nil))) (x_tree (x_op op_pow f_pow x_int x_int)) (nomark _)) (o_or1 (o_cmp op_gt f_cmp (x_ixV (i := 1) rfl (by first | exact .inl rfl | exact .inr (.inl rfl) | exact .inr (.inr rfl)) x_int (fun _ _ => rfl)) (x_tree (x_op op_pow f_pow x_int x_int)) (nomark _)))))
  (ss_one (s_ret (x_val x_bl)))
  ss_nil)))))))))))
  (ss_one (s_ret (x_val x_bl))))
def M__law_joined : Ms := (mSeq (mSet 2 (mLst mNil))
  (mSeq (mFor (mRng (mCons (mVar 1) mNil)) (gN 3)
  (mIfS (mAndT (mTst (mTree (m2 fGt (mVar 3) (mC (.int 0))))) (mTst (mTree (m2 fGt (mTree (mCallP D__law_take 0 (mCons (mC (.int 3)) mNil))) (mC (.int 0))))))
  (mDrop (mApp 2 (mIxV 2 (mTree (mCallP D__law_take 0 (mCons (mVar 3) mNil))))))
  (mDrop (mApp 2 (mVar 3)))))
  (mRet (mN fTuple (mCons (mVar 2) mNil)))))
def D__law_joined : DF := runDef 4 2 [0, 1] M__law_joined
theorem ok__law_joined (T : Txt K mg A FD CA CI FC) : FnOk P w K mg base (L2N.CX P w) 2 (A 35) (FD 35) ["_law_pool_here", "_law_m"] (spD K mg D__law_joined) := by
  refine def_ok T.F__law_joined sc__law_joined fun cdv A outer s H E hr tk => ?_
  have nd := sc__law_joined.nd
  have hu := hr.u64
  exact (ss_cons (s_set (i := 2) nd rfl (by first | exact .inl rfl | exact .inr rfl) rfl (x_lst x_nil))
  (ss_cons (s_for (passes_of rfl) rfl (i_rng rfl T.n_range (x_cons (x_var (i := 1) rfl (by first | exact .inl rfl | exact .inr (.inl rfl) | exact .inr (.inr rfl))) x_nil)) (g_name (i := 3) nd rfl (by first | exact .inl rfl | exact .inr rfl)) rfl
  (ss_one (s_if (PW.pt (o_and (o_cmp op_gt f_cmp (x_var (i := 3) rfl (by first | exact .inl rfl | exact .inr (.inl rfl) | exact .inr (.inr rfl))) x_int (nomark _)) (o_and1 (o_cmp op_gt f_cmp (x_tree (x_callP (i := 0) (ok__law_take T) (hr.mono (by decide)) tk rfl T.g__law_take T.F__law_take.kp (bd__law_take T.F__law_take) rfl (by first | exact .inl rfl | exact .inr (.inl rfl) | exact .inr (.inr rfl)) (x_cons x_int x_nil))) x_int (nomark _)))))
  (ss_one (s_expr (x_app (i := 2) rfl (by first | exact .inl rfl | exact .inr (.inl rfl) | exact .inr (.inr rfl)) (x_ixV (i := 2) rfl (by first | exact .inl rfl | exact .inr (.inl rfl) | exact .inr (.inr rfl)) (x_tree (x_callP (i := 0) (ok__law_take T) (hr.mono (by decide)) tk rfl T.g__law_take T.F__law_take.kp (bd__law_take T.F__law_take) rfl (by first | exact .inl rfl | exact .inr (.inl rfl) | exact .inr (.inr rfl)) (x_cons (x_var (i := 3) rfl (by first | exact .inl rfl | exact .inr (.inl rfl) | exact .inr (.inr rfl))) x_nil))) (fun _ _ => rfl)))))
  (ss_one (s_expr (x_app (i := 2) rfl (by first | exact .inl rfl | exact .inr (.inl rfl) | exact .inr (.inr rfl)) (x_var (i := 3) rfl (by first | exact .inl rfl | exact .inr (.inl rfl) | exact .inr (.inr rfl)))))))))
  (ss_one (s_ret (x_typ call_tupX f_tuple rfl T.n_tuple (by decide +kernel) (x_cons (x_var (i := 2) rfl (by first | exact .inl rfl | exact .inr (.inl rfl) | exact .inr (.inr rfl))) x_nil))))))
def M__law_row : Ms := (mSeq (mIfS (mOrT (mNotT (mTst (mIsi .tup (mVar 0)))) (mTst (mTree (m2 fNe (mLenV 0) (mLenV 1)))))
  (mRet (mVal (mC (.bool false))))
  mNx)
  (mRet (mVal (mAndV (mTree (m2 fEq (mTree (mN fLen (mCons (mTree (mComp (mSeq1 (mVar 0)) (gN 2) (mNotT (mTst (mTree (mCall D__law_int (mCons (mVar 2) mNil))))) (mVar 2) [2])) mNil))) (mC (.int 0)))) (mTree (m2 fEq (mTree (mN fList (mCons (mVar 0) mNil))) (mTree (mN fList (mCons (mVar 1) mNil)))))))))
def D__law_row : DF := runDef 3 2 [0, 1] M__law_row
theorem ok__law_row (T : Txt K mg A FD CA CI FC) : FnOk P w K mg base (L2N.CX P w) 2 (A 36) (FD 36) ["_law_got", "_law_due"] (spD K mg D__law_row) := by
  refine def_ok T.F__law_row sc__law_row fun cdv A outer s H E hr tk => ?_
  have nd := sc__law_row.nd
  have hu := hr.u64
  exact (ss_cons (s_if (PW.pt (o_or (o_not (o_val (x_isi (y := .tup) rfl T.n_isinstance rfl T.n_tuple (x_var (i := 0) rfl (by first | exact .inl rfl | exact .inr (.inl rfl) | exact .inr (.inr rfl)))))) (o_or1 (o_cmp (op_ne.or (op_neD hu)) f_ne (x_lenV (i := 0) rfl T.n_len rfl (by first | exact .inl rfl | exact .inr (.inl rfl) | exact .inr (.inr rfl))) (x_lenV (i := 1) rfl T.n_len rfl (by first | exact .inl rfl | exact .inr (.inl rfl) | exact .inr (.inr rfl))) (nomark _)))))
  (ss_one (s_ret (x_val x_bl)))
  ss_nil)
  (ss_one (s_ret (x_val (x_and (x_tree (x_cmp (op_eq.or (op_eqD hu)) f_eq (x_tree (x_blt call_len_seq f_len rfl T.n_len (by decide +kernel) (x_cons (x_tree (x_lc (own := [("_law_x", 2)]) rfl nd (i_seq (x_var (i := 0) rfl (by first | exact .inl rfl | exact .inr (.inl rfl) | exact .inr (.inr rfl)))) (blkOk_by (N := N__law_row) (sc := defScope s__law_row) (by decide +kernel)) (by decide) (fun _ _ _ _ _ => (g_name (i := 2) nd rfl (by first | exact .inl rfl | exact .inr rfl))) (fun _ _ _ _ _ => (o_one (o_not (o_val (x_tree (x_call (ok__law_int T) (hr.mono (by decide)) takesN rfl T.g__law_int T.F__law_int.kp (bd__law_int T.F__law_int) (x_cons (x_var (i := 2) rfl (by first | exact .inl rfl | exact .inr (.inl rfl) | exact .inr (.inr rfl))) x_nil))))))) (fun _ _ _ _ _ => (x_var (i := 2) rfl (by first | exact .inl rfl | exact .inr (.inl rfl) | exact .inr (.inr rfl)))))) x_nil))) x_int (nomark _))) (x_one (x_tree (x_cmp (op_eq.or (op_eqD hu)) f_eq (x_tree (x_typ call_list_of f_list rfl T.n_list (by decide +kernel) (x_cons (x_var (i := 0) rfl (by first | exact .inl rfl | exact .inr (.inl rfl) | exact .inr (.inr rfl))) x_nil))) (x_tree (x_typ call_list_of f_list rfl T.n_list (by decide +kernel) (x_cons (x_var (i := 1) rfl (by first | exact .inl rfl | exact .inr (.inl rfl) | exact .inr (.inr rfl))) x_nil))) (nomark _)))))))))
def M__law_listed : Ms := (mSeq (mSet 1 (mCall D_joinings_of (mCons (mVar 0) mNil)))
  (mSeq (mIfS (mOrT (mNotT (mTst (mIsi .tup (mVar 1)))) (mTst (mTree (m2 fNe (mLenV 1) (mTree (m2 fIx (mTree (mLst (mCons (mC (.int 1)) (mCons (mC (.int 1)) (mCons (mC (.int 2)) (mCons (mC (.int 5)) (mCons (mC (.int 15)) (mCons (mC (.int 52)) mNil)))))))) (mVar 0)))))))
  (mRet (mVal (mC (.bool false))))
  mNx)
  (mSeq (mFor (mRng (mCons (mLenV 1) mNil)) (gN 2)
  (mSeq (mSet 3 (mVal (mIxV 1 (mVar 2))))
  (mSeq (mIfS (mOrT (mNotT (mTst (mIsi .tup (mVar 3)))) (mOrT (mTst (mTree (m2 fNe (mLenV 3) (mVar 0)))) (mTst (mTree (m2 fGt (mTree (mN fLen (mCons (mTree (mComp (mSeq1 (mVar 3)) (gN 5) (mNotT (mTst (mTree (mCall D__law_int (mCons (mVar 5) mNil))))) (mVar 5) [5])) mNil))) (mC (.int 0)))))))
  (mRet (mVal (mC (.bool false))))
  mNx)
  (mSeq (mIfS (mTst (mTree (m2 fGt (mTree (mN fLen (mCons (mTree (mComp (mRng (mCons (mVar 0) mNil)) (gN 4) (mOrT (mNotT (mChainT (mC (.int 0)) (qLink fLe (mIxV 3 (mVar 4)) (qLast fLe (mVar 4))))) (mTst (mTree (m2 fNe (mIxV 3 (mIxV 3 (mVar 4))) (mIxV 3 (mVar 4)))))) (mVar 4) [4])) mNil))) (mC (.int 0)))))
  (mRet (mVal (mC (.bool false))))
  mNx)
  (mIfS (mAndT (mTst (mTree (m2 fGt (mVar 2) (mC (.int 0))))) (mNotT (mTst (mTree (m2 fLtA (mIxV 1 (mTree (m2 fSub (mVar 2) (mC (.int 1))))) (mVar 3))))))
  (mRet (mVal (mC (.bool false))))
  mNx)))))
  (mRet (mVal (mC (.bool true)))))))
def D__law_listed : DF := runDef 6 1 [0] M__law_listed
theorem ok__law_listed (T : Txt K mg A FD CA CI FC) : FnOk P w K mg base (L2N.CX P w) 2 (A 37) (FD 37) ["_law_m"] (spD K mg D__law_listed) := by
  refine def_ok T.F__law_listed sc__law_listed fun cdv A outer s H E hr tk => ?_
  have nd := sc__law_listed.nd
  have hu := hr.u64
  exact (ss_cons (s_set (i := 1) nd rfl (by first | exact .inl rfl | exact .inr rfl) rfl (x_call (ok_joinings_of T) (hr.mono (by decide)) tk rfl T.g_joinings_of T.F_joinings_of.kp (bd_joinings_of T.F_joinings_of) (x_cons (x_var (i := 0) rfl (by first | exact .inl rfl | exact .inr (.inl rfl) | exact .inr (.inr rfl))) x_nil)))
  (ss_cons (s_if (PW.pt (o_or (o_not (o_val (x_isi (y := .tup) rfl T.n_isinstance rfl T.n_tuple (x_var (i := 1) rfl (by first | exact .inl rfl | exact .inr (.inl rfl) | exact .inr (.inr rfl)))))) (o_or1 (o_cmp (op_ne.or (op_neD hu)) f_ne (x_lenV (i := 1) rfl T.n_len rfl (by first | exact .inl rfl | exact .inr (.inl rfl) | exact .inr (.inr rfl))) (x_tree (x_ix (ix_list.or ix_tup) f_ix (x_tree (x_lst (x_cons x_int (x_cons x_int (x_cons x_int (x_cons x_int (x_cons x_int (x_cons x_int x_nil)))))))) (x_var (i := 0) rfl (by first | exact .inl rfl | exact .inr (.inl rfl) | exact .inr (.inr rfl))) (fun _ _ => rfl))) (nomark _)))))
  (ss_one (s_ret (x_val x_bl)))
  ss_nil)
  (ss_cons (s_for (passes_of rfl) rfl (i_rng rfl T.n_range (x_cons (x_lenV (i := 1) rfl T.n_len rfl (by first | exact .inl rfl | exact .inr (.inl rfl) | exact .inr (.inr rfl))) x_nil)) (g_name (i := 2) nd rfl (by first | exact .inl rfl | exact .inr rfl)) rfl
  (ss_cons (s_set (i := 3) nd rfl (by first | exact .inl rfl | exact .inr rfl) rfl (x_val (x_ixV (i := 1) rfl (by first | exact .inl rfl | exact .inr (.inl rfl) | exact .inr (.inr rfl)) (x_var (i := 2) rfl (by first | exact .inl rfl | exact .inr (.inl rfl) | exact .inr (.inr rfl))) (fun _ _ => rfl))))
  (ss_cons (s_if (PW.pt (o_or (o_not (o_val (x_isi (y := .tup) rfl T.n_isinstance rfl T.n_tuple (x_var (i := 3) rfl (by first | exact .inl rfl | exact .inr (.inl rfl) | exact .inr (.inr rfl)))))) (o_or (o_cmp (op_ne.or (op_neD hu)) f_ne (x_lenV (i := 3) rfl T.n_len rfl (by first | exact .inl rfl | exact .inr (.inl rfl) | exact .inr (.inr rfl))) (x_var (i := 0) rfl (by first | exact .inl rfl | exact .inr (.inl rfl) | exact .inr (.inr rfl))) (nomark _)) (o_or1 (o_cmp op_gt f_cmp (x_tree (x_blt call_len_seq f_len rfl T.n_len (by decide +kernel) (x_cons (x_tree (x_lc (own := [("_law_x", 5)]) rfl nd (i_seq (x_var (i := 3) rfl (by first | exact .inl rfl | exact .inr (.inl rfl) | exact .inr (.inr rfl)))) (blkOk_by (N := N__law_listed) (sc := defScope s__law_listed) (by decide +kernel)) (by decide) (fun _ _ _ _ _ => (g_name (i := 5) nd rfl (by first | exact .inl rfl | exact .inr rfl))) (fun _ _ _ _ _ => (o_one (o_not (o_val (x_tree (x_call (ok__law_int T) (hr.mono (by decide)) takesN rfl T.g__law_int T.F__law_int.kp (bd__law_int T.F__law_int) (x_cons (x_var (i := 5) rfl (by first | exact .inl rfl | exact .inr (.inl rfl) | exact .inr (.inr rfl))) x_nil))))))) (fun _ _ _ _ _ => (x_var (i := 5) rfl (by first | exact .inl rfl | exact .inr (.inl rfl) | exact .inr (.inr rfl)))))) x_nil))) x_int (nomark _))))))
  (ss_one (s_ret (x_val x_bl)))
  ss_nil)
  (ss_cons (s_if (o_cmp op_gt f_cmp (x_tree (x_blt call_len_seq f_len rfl T.n_len (by decide +kernel) (x_cons (x_tree (x_lc (own := [("_law_p", 4)]) rfl nd (i_rng rfl T.n_range (x_cons (x_var (i := 0) rfl (by first | exact .inl rfl | exact .inr (.inl rfl) | exact .inr (.inr rfl))) x_nil)) (blkOk_by (N := N__law_listed) (sc := defScope s__law_listed) (by decide +kernel)) (by decide) (fun _ _ _ _ _ => (g_name (i := 4) nd rfl (by first | exact .inl rfl | exact .inr rfl))) (fun _ _ _ _ _ => (o_one (PW.pt (o_or (o_not (o_chain x_int (q_link op_le f_cmp (x_ixV (i := 3) rfl (by first | exact .inl rfl | exact .inr (.inl rfl) | exact .inr (.inr rfl)) (x_var (i := 4) rfl (by first | exact .inl rfl | exact .inr (.inl rfl) | exact .inr (.inr rfl))) (fun _ _ => rfl)) (q_last op_le f_cmp (x_var (i := 4) rfl (by first | exact .inl rfl | exact .inr (.inl rfl) | exact .inr (.inr rfl))))))) (o_or1 (o_cmp (op_ne.or (op_neD hu)) f_ne (x_ixV (i := 3) rfl (by first | exact .inl rfl | exact .inr (.inl rfl) | exact .inr (.inr rfl)) (x_ixV (i := 3) rfl (by first | exact .inl rfl | exact .inr (.inl rfl) | exact .inr (.inr rfl)) (x_var (i := 4) rfl (by first | exact .inl rfl | exact .inr (.inl rfl) | exact .inr (.inr rfl))) (fun _ _ => rfl)) (fun _ _ => rfl)) (x_ixV (i := 3) rfl (by first | exact .inl rfl | exact .inr (.inl rfl) | exact .inr (.inr rfl)) (x_var (i := 4) rfl (by first | exact .inl rfl | exact .inr (.inl rfl) | exact .inr (.inr rfl))) (fun _ _ => rfl)) (nomark _))))))) (fun _ _ _ _ _ => (x_var (i := 4) rfl (by first | exact .inl rfl | exact .inr (.inl rfl) | exact .inr (.inr rfl)))))) x_nil))) x_int (nomark _))
  (ss_one (s_ret (x_val x_bl)))
  ss_nil)
  (ss_one (s_if (PW.pt (o_and (o_cmp op_gt f_cmp (x_var (i := 2) rfl (by first | exact .inl rfl | exact .inr (.inl rfl) | exact .inr (.inr rfl))) x_int (nomark _)) (o_and1 (o_not (o_cmp (op_lt.or (op_ltT (show (A.deeper _).units < cLine from by have := hr.units; omega))) f_ltA (x_ixV (i := 1) rfl (by first | exact .inl rfl | exact .inr (.inl rfl) | exact .inr (.inr rfl)) (x_tree (x_op op_sub f_sub (x_var (i := 2) rfl (by first | exact .inl rfl | exact .inr (.inl rfl) | exact .inr (.inr rfl))) x_int)) (fun _ _ => rfl)) (x_var (i := 3) rfl (by first | exact .inl rfl | exact .inr (.inl rfl) | exact .inr (.inr rfl))) (nomark _))))))
  (ss_one (s_ret (x_val x_bl)))
  ss_nil))))))
  (ss_one (s_ret (x_val x_bl))))))
def M__law_blocks : Ms := (mSeq (mSet 3 (mCall D_blocks_of (mCons (mVar 1) (mCons (mVar 2) mNil))))
  (mSeq (mSet 4 (mComp (mRng (mCons (mVar 1) mNil)) (gN 7) (mTst (mTree (m2 fEq (mIxV 2 (mVar 7)) (mVar 7)))) (mVar 7) [7]))
  (mSeq (mIfS (mOrT (mNotT (mTst (mIsi .tup (mVar 3)))) (mTst (mTree (m2 fNe (mLenV 3) (mLenV 4)))))
  (mRet (mVal (mC (.bool false))))
  mNx)
  (mSeq (mFor (mRng (mCons (mLenV 3) mNil)) (gN 5)
  (mIfS (mNotT (mTst (mTree (mCall D__law_row (mCons (mIxV 3 (mVar 5)) (mCons (mTree (mComp (mRng (mCons (mVar 1) mNil)) (gN 7) (mTst (mTree (m2 fEq (mIxV 2 (mVar 7)) (mIxV 4 (mVar 5))))) (mVar 7) [7])) mNil))))))
  (mRet (mVal (mC (.bool false))))
  mNx))
  (mSeq (mSet 6 (mComp (mSeq1 (mVar 3)) (gN 9) mYes (mVar 9) [9]))
  (mSeq (mFor (mRng (mCons (mLenV 6) mNil)) (gN 5)
  (mSeq (mSet 7 (mCallP D__law_take 0 (mCons (mTree (m2 fAdd (mVar 5) (mC (.int 1)))) mNil)))
  (mSeq (mSet 8 (mVal (mIxV 6 (mVar 7))))
  (mSeq (mSetIx 6 (mVar 7) (mIxV 6 (mVar 5)))
  (mSetIx 6 (mVar 5) (mVar 8))))))
  (mSeq (mIfS (mNotT (mTst (mTree (mCall D__law_row (mCons (mTree (mCall D_joining_of (mCons (mVar 1) (mCons (mTree (mN fTuple (mCons (mVar 6) mNil))) mNil)))) (mCons (mVar 2) mNil))))))
  (mRet (mVal (mC (.bool false))))
  mNx)
  (mRet (mVal (mAndV (mTree (mCall D__law_row (mCons (mTree (mCallKW D_joining_of [1, 0] 2 (mCons (mVar 3) (mCons (mVar 1) mNil)))) (mCons (mVar 2) mNil)))) (mTree (m2 fEq (mTree (mCallKW D_blocks_of [1, 0] 2 (mCons (mVar 2) (mCons (mVar 1) mNil)))) (mVar 3)))))))))))))
def D__law_blocks : DF := runDef 10 3 [0, 1, 2] M__law_blocks
theorem ok__law_blocks (T : Txt K mg A FD CA CI FC) : FnOk P w K mg base (L2N.CX P w) 7 (A 38) (FD 38) ["_law_pool_here", "_law_m", "_law_row_here"] (spD K mg D__law_blocks) := by
  refine def_ok T.F__law_blocks sc__law_blocks fun cdv A outer s H E hr tk => ?_
  have nd := sc__law_blocks.nd
  have hu := hr.u64
  exact (ss_cons (s_set (i := 3) nd rfl (by first | exact .inl rfl | exact .inr rfl) rfl (x_call (ok_blocks_of T) (hr.mono (by decide)) tk rfl T.g_blocks_of T.F_blocks_of.kp (bd_blocks_of T.F_blocks_of) (x_cons (x_var (i := 1) rfl (by first | exact .inl rfl | exact .inr (.inl rfl) | exact .inr (.inr rfl))) (x_cons (x_var (i := 2) rfl (by first | exact .inl rfl | exact .inr (.inl rfl) | exact .inr (.inr rfl))) x_nil))))
  (ss_cons (by first | exact (s_set (i := 4) nd rfl (by first | exact .inl rfl | exact .inr rfl) rfl (x_lc (own := [("_law_p", 7)]) rfl nd (i_rng rfl T.n_range (x_cons (x_var (i := 1) rfl (by first | exact .inl rfl | exact .inr (.inl rfl) | exact .inr (.inr rfl))) x_nil)) (blkOk_by (N := N__law_blocks) (sc := defScope s__law_blocks) (by decide +kernel)) (by decide) (fun _ _ _ _ _ => (g_name (i := 7) nd rfl (by first | exact .inl rfl | exact .inr rfl))) (fun _ _ _ _ _ => (o_one (o_cmp (op_eq.or (op_eqD hu)) f_eq (x_ixV (i := 2) rfl (by first | exact .inl rfl | exact .inr (.inl rfl) | exact .inr (.inr rfl)) (x_var (i := 7) rfl (by first | exact .inl rfl | exact .inr (.inl rfl) | exact .inr (.inr rfl))) (fun _ _ => rfl)) (x_var (i := 7) rfl (by first | exact .inl rfl | exact .inr (.inl rfl) | exact .inr (.inr rfl))) (nomark _)))) (fun _ _ _ _ _ => (x_var (i := 7) rfl (by first | exact .inl rfl | exact .inr (.inl rfl) | exact .inr (.inr rfl)))))) | exact (s_setLc (i := 4) (hc := rfl) (hN := nd) (hy := rfl) (hyl := rfl) (hkeep := rfl) (hsw := sw_true rfl rfl rfl (by decide +kernel)) (own := [("_law_p", 7)]) (hi := (i_rng rfl T.n_range (x_cons (x_var (i := 1) rfl (by first | exact .inl rfl | exact .inr (.inl rfl) | exact .inr (.inr rfl))) x_nil))) (ok := blkOk_by (N := N__law_blocks) (sc := defScope s__law_blocks) (by decide +kernel)) (hk := by decide) (hg := fun _ _ _ _ _ => (g_name (i := 7) nd rfl (by first | exact .inl rfl | exact .inr rfl))) (ht := fun _ _ _ _ _ => (o_one (o_cmp (op_eq.or (op_eqD hu)) f_eq (x_ixV (i := 2) rfl (by first | exact .inl rfl | exact .inr (.inl rfl) | exact .inr (.inr rfl)) (x_var (i := 7) rfl (by first | exact .inl rfl | exact .inr (.inl rfl) | exact .inr (.inr rfl))) (fun _ _ => rfl)) (x_var (i := 7) rfl (by first | exact .inl rfl | exact .inr (.inl rfl) | exact .inr (.inr rfl))) (nomark _)))) (he := fun _ _ _ _ _ => (x_var (i := 7) rfl (by first | exact .inl rfl | exact .inr (.inl rfl) | exact .inr (.inr rfl))))))
  (ss_cons (s_if (PW.pt (o_or (o_not (o_val (x_isi (y := .tup) rfl T.n_isinstance rfl T.n_tuple (x_var (i := 3) rfl (by first | exact .inl rfl | exact .inr (.inl rfl) | exact .inr (.inr rfl)))))) (o_or1 (o_cmp (op_ne.or (op_neD hu)) f_ne (x_lenV (i := 3) rfl T.n_len rfl (by first | exact .inl rfl | exact .inr (.inl rfl) | exact .inr (.inr rfl))) (x_lenV (i := 4) rfl T.n_len rfl (by first | exact .inl rfl | exact .inr (.inl rfl) | exact .inr (.inr rfl))) (nomark _)))))
  (ss_one (s_ret (x_val x_bl)))
  ss_nil)
  (ss_cons (s_for (passes_of rfl) rfl (i_rng rfl T.n_range (x_cons (x_lenV (i := 3) rfl T.n_len rfl (by first | exact .inl rfl | exact .inr (.inl rfl) | exact .inr (.inr rfl))) x_nil)) (g_name (i := 5) nd rfl (by first | exact .inl rfl | exact .inr rfl)) rfl
  (ss_one (s_if (o_not (o_val (x_tree (x_call (ok__law_row T) (hr.mono (by decide)) tk rfl T.g__law_row T.F__law_row.kp (bd__law_row T.F__law_row) (x_cons (x_ixV (i := 3) rfl (by first | exact .inl rfl | exact .inr (.inl rfl) | exact .inr (.inr rfl)) (x_var (i := 5) rfl (by first | exact .inl rfl | exact .inr (.inl rfl) | exact .inr (.inr rfl))) (fun _ _ => rfl)) (x_cons (x_tree (x_lc (own := [("_law_p", 7)]) rfl nd (i_rng rfl T.n_range (x_cons (x_var (i := 1) rfl (by first | exact .inl rfl | exact .inr (.inl rfl) | exact .inr (.inr rfl))) x_nil)) (blkOk_by (N := N__law_blocks) (sc := defScope s__law_blocks) (by decide +kernel)) (by decide) (fun _ _ _ _ _ => (g_name (i := 7) nd rfl (by first | exact .inl rfl | exact .inr rfl))) (fun _ _ _ _ _ => (o_one (o_cmp (op_eq.or (op_eqD hu)) f_eq (x_ixV (i := 2) rfl (by first | exact .inl rfl | exact .inr (.inl rfl) | exact .inr (.inr rfl)) (x_var (i := 7) rfl (by first | exact .inl rfl | exact .inr (.inl rfl) | exact .inr (.inr rfl))) (fun _ _ => rfl)) (x_ixV (i := 4) rfl (by first | exact .inl rfl | exact .inr (.inl rfl) | exact .inr (.inr rfl)) (x_var (i := 5) rfl (by first | exact .inl rfl | exact .inr (.inl rfl) | exact .inr (.inr rfl))) (fun _ _ => rfl)) (nomark _)))) (fun _ _ _ _ _ => (x_var (i := 7) rfl (by first | exact .inl rfl | exact .inr (.inl rfl) | exact .inr (.inr rfl)))))) x_nil))))))
  (ss_one (s_ret (x_val x_bl)))
  ss_nil)))
  (ss_cons (by first | exact (s_set (i := 6) nd rfl (by first | exact .inl rfl | exact .inr rfl) rfl (x_lc (own := [("_law_block", 9)]) rfl nd (i_seq (x_var (i := 3) rfl (by first | exact .inl rfl | exact .inr (.inl rfl) | exact .inr (.inr rfl)))) (blkOk_by (N := N__law_blocks) (sc := defScope s__law_blocks) (by decide +kernel)) (by decide) (fun _ _ _ _ _ => (g_name (i := 9) nd rfl (by first | exact .inl rfl | exact .inr rfl))) (fun _ _ _ _ _ => o_yes) (fun _ _ _ _ _ => (x_var (i := 9) rfl (by first | exact .inl rfl | exact .inr (.inl rfl) | exact .inr (.inr rfl)))))) | exact (s_setLc (i := 6) (hc := rfl) (hN := nd) (hy := rfl) (hyl := rfl) (hkeep := rfl) (hsw := sw_true rfl rfl rfl (by decide +kernel)) (own := [("_law_block", 9)]) (hi := (i_seq (x_var (i := 3) rfl (by first | exact .inl rfl | exact .inr (.inl rfl) | exact .inr (.inr rfl))))) (ok := blkOk_by (N := N__law_blocks) (sc := defScope s__law_blocks) (by decide +kernel)) (hk := by decide) (hg := fun _ _ _ _ _ => (g_name (i := 9) nd rfl (by first | exact .inl rfl | exact .inr rfl))) (ht := fun _ _ _ _ _ => o_yes) (he := fun _ _ _ _ _ => (x_var (i := 9) rfl (by first | exact .inl rfl | exact .inr (.inl rfl) | exact .inr (.inr rfl))))))
  (ss_cons (s_for (passes_of rfl) rfl (i_rng rfl T.n_range (x_cons (x_lenV (i := 6) rfl T.n_len rfl (by first | exact .inl rfl | exact .inr (.inl rfl) | exact .inr (.inr rfl))) x_nil)) (g_name (i := 5) nd rfl (by first | exact .inl rfl | exact .inr rfl)) rfl
  (ss_cons (s_set (i := 7) nd rfl (by first | exact .inl rfl | exact .inr rfl) rfl (x_callP (i := 0) (ok__law_take T) (hr.mono (by decide)) tk rfl T.g__law_take T.F__law_take.kp (bd__law_take T.F__law_take) rfl (by first | exact .inl rfl | exact .inr (.inl rfl) | exact .inr (.inr rfl)) (x_cons (x_tree (x_op o_add f_add (x_var (i := 5) rfl (by first | exact .inl rfl | exact .inr (.inl rfl) | exact .inr (.inr rfl))) x_int)) x_nil)))
  (ss_cons (s_set (i := 8) nd rfl (by first | exact .inl rfl | exact .inr rfl) rfl (x_val (x_ixV (i := 6) rfl (by first | exact .inl rfl | exact .inr (.inl rfl) | exact .inr (.inr rfl)) (x_var (i := 7) rfl (by first | exact .inl rfl | exact .inr (.inl rfl) | exact .inr (.inr rfl))) (fun _ _ => rfl))))
  (ss_cons (s_setIx (i := 6) rfl (by first | exact .inl rfl | exact .inr (.inl rfl) | exact .inr (.inr rfl)) (x_var (i := 7) rfl (by first | exact .inl rfl | exact .inr (.inl rfl) | exact .inr (.inr rfl))) (x_ixV (i := 6) rfl (by first | exact .inl rfl | exact .inr (.inl rfl) | exact .inr (.inr rfl)) (x_var (i := 5) rfl (by first | exact .inl rfl | exact .inr (.inl rfl) | exact .inr (.inr rfl))) (fun _ _ => rfl)))
  (ss_one (s_setIx (i := 6) rfl (by first | exact .inl rfl | exact .inr (.inl rfl) | exact .inr (.inr rfl)) (x_var (i := 5) rfl (by first | exact .inl rfl | exact .inr (.inl rfl) | exact .inr (.inr rfl))) (x_var (i := 8) rfl (by first | exact .inl rfl | exact .inr (.inl rfl) | exact .inr (.inr rfl)))))))))
  (ss_cons (s_if (o_not (o_val (x_tree (x_call (ok__law_row T) (hr.mono (by decide)) tk rfl T.g__law_row T.F__law_row.kp (bd__law_row T.F__law_row) (x_cons (x_tree (x_call (ok_joining_of T) (hr.mono (by decide)) tk rfl T.g_joining_of T.F_joining_of.kp (bd_joining_of T.F_joining_of) (x_cons (x_var (i := 1) rfl (by first | exact .inl rfl | exact .inr (.inl rfl) | exact .inr (.inr rfl))) (x_cons (x_tree (x_typ call_tupX f_tuple rfl T.n_tuple (by decide +kernel) (x_cons (x_var (i := 6) rfl (by first | exact .inl rfl | exact .inr (.inl rfl) | exact .inr (.inr rfl))) x_nil))) x_nil)))) (x_cons (x_var (i := 2) rfl (by first | exact .inl rfl | exact .inr (.inl rfl) | exact .inr (.inr rfl))) x_nil))))))
  (ss_one (s_ret (x_val x_bl)))
  ss_nil)
  (ss_one (s_ret (x_val (x_and (x_tree (x_call (ok__law_row T) (hr.mono (by decide)) tk rfl T.g__law_row T.F__law_row.kp (bd__law_row T.F__law_row) (x_cons (x_tree (x_callK (pm := [1, 0]) (ok_joining_of T) (hr.mono (by decide)) tk rfl T.g_joining_of T.F_joining_of.kp (kb_joining_of_1_0 T.F_joining_of) (k_cons (x_var (i := 3) rfl (by first | exact .inl rfl | exact .inr (.inl rfl) | exact .inr (.inr rfl))) (k_cons (x_var (i := 1) rfl (by first | exact .inl rfl | exact .inr (.inl rfl) | exact .inr (.inr rfl))) k_nil)))) (x_cons (x_var (i := 2) rfl (by first | exact .inl rfl | exact .inr (.inl rfl) | exact .inr (.inr rfl))) x_nil)))) (x_one (x_tree (x_cmp (op_eq.or (op_eqD hu)) f_eq (x_tree (x_callK (pm := [1, 0]) (ok_blocks_of T) (hr.mono (by decide)) tk rfl T.g_blocks_of T.F_blocks_of.kp (kb_blocks_of_1_0 T.F_blocks_of) (k_cons (x_var (i := 2) rfl (by first | exact .inl rfl | exact .inr (.inl rfl) | exact .inr (.inr rfl))) (k_cons (x_var (i := 1) rfl (by first | exact .inl rfl | exact .inr (.inl rfl) | exact .inr (.inr rfl))) k_nil)))) (x_var (i := 3) rfl (by first | exact .inl rfl | exact .inr (.inl rfl) | exact .inr (.inr rfl))) (nomark _)))))))))))))))
def M__law_both : Ms := (mSeq (mSet 3 (mN fList (mCons (mVar 1) mNil)))
  (mSeq (mFor (mRng (mCons (mVar 0) mNil)) (gN 4)
  (mFor (mRng (mCons (mVar 0) mNil)) (gN 6)
  (mSeq (mSet 7 (mN fMin3 (mCons (mIxV 3 (mVar 6)) (mCons (mIxV 3 (mIxV 2 (mVar 6))) (mCons (mIxV 3 (mIxV 1 (mVar 6))) mNil)))))
  (mSeq (mSetIx 3 (mIxV 1 (mVar 6)) (mVar 7))
  (mSeq (mSetIx 3 (mIxV 2 (mVar 6)) (mVar 7))
  (mSetIx 3 (mVar 6) (mVar 7)))))))
  (mSeq (mSet 5 (mCall D_joined_with (mCons (mVar 0) (mCons (mVar 1) (mCons (mVar 2) mNil)))))
  (mRet (mVal (mAndV (mTree (mCall D__law_row (mCons (mVar 5) (mCons (mVar 3) mNil)))) (mTree (mCall D__law_row (mCons (mTree (mCallKW D_joined_with [2, 1, 0] 3 (mCons (mVar 1) (mCons (mVar 2) (mCons (mVar 0) mNil))))) (mCons (mVar 3) mNil))))))))))
def D__law_both : DF := runDef 8 3 [0, 1, 2] M__law_both
theorem ok__law_both (T : Txt K mg A FD CA CI FC) : FnOk P w K mg base (L2N.CX P w) 6 (A 39) (FD 39) ["_law_m", "_law_first", "_law_second"] (spD K mg D__law_both) := by
  refine def_ok T.F__law_both sc__law_both fun cdv A outer s H E hr tk => ?_
  have nd := sc__law_both.nd
  have hu := hr.u64
  exact (ss_cons (s_set (i := 3) nd rfl (by first | exact .inl rfl | exact .inr rfl) rfl (x_typ call_list_of f_list rfl T.n_list (by decide +kernel) (x_cons (x_var (i := 1) rfl (by first | exact .inl rfl | exact .inr (.inl rfl) | exact .inr (.inr rfl))) x_nil)))
  (ss_cons (s_for (passes_of rfl) rfl (i_rng rfl T.n_range (x_cons (x_var (i := 0) rfl (by first | exact .inl rfl | exact .inr (.inl rfl) | exact .inr (.inr rfl))) x_nil)) (g_name (i := 4) nd rfl (by first | exact .inl rfl | exact .inr rfl)) rfl
  (ss_one (s_for (passes_of rfl) rfl (i_rng rfl T.n_range (x_cons (x_var (i := 0) rfl (by first | exact .inl rfl | exact .inr (.inl rfl) | exact .inr (.inr rfl))) x_nil)) (g_name (i := 6) nd rfl (by first | exact .inl rfl | exact .inr rfl)) rfl
  (ss_cons (s_set (i := 7) nd rfl (by first | exact .inl rfl | exact .inr rfl) rfl (x_blt (call_min3Nu rfl) f_min3 rfl T.n_min (by decide +kernel) (x_cons (x_ixV (i := 3) rfl (by first | exact .inl rfl | exact .inr (.inl rfl) | exact .inr (.inr rfl)) (x_var (i := 6) rfl (by first | exact .inl rfl | exact .inr (.inl rfl) | exact .inr (.inr rfl))) (fun _ _ => rfl)) (x_cons (x_ixV (i := 3) rfl (by first | exact .inl rfl | exact .inr (.inl rfl) | exact .inr (.inr rfl)) (x_ixV (i := 2) rfl (by first | exact .inl rfl | exact .inr (.inl rfl) | exact .inr (.inr rfl)) (x_var (i := 6) rfl (by first | exact .inl rfl | exact .inr (.inl rfl) | exact .inr (.inr rfl))) (fun _ _ => rfl)) (fun _ _ => rfl)) (x_cons (x_ixV (i := 3) rfl (by first | exact .inl rfl | exact .inr (.inl rfl) | exact .inr (.inr rfl)) (x_ixV (i := 1) rfl (by first | exact .inl rfl | exact .inr (.inl rfl) | exact .inr (.inr rfl)) (x_var (i := 6) rfl (by first | exact .inl rfl | exact .inr (.inl rfl) | exact .inr (.inr rfl))) (fun _ _ => rfl)) (fun _ _ => rfl)) x_nil)))))
  (ss_cons (s_setIx (i := 3) rfl (by first | exact .inl rfl | exact .inr (.inl rfl) | exact .inr (.inr rfl)) (x_ixV (i := 1) rfl (by first | exact .inl rfl | exact .inr (.inl rfl) | exact .inr (.inr rfl)) (x_var (i := 6) rfl (by first | exact .inl rfl | exact .inr (.inl rfl) | exact .inr (.inr rfl))) (fun _ _ => rfl)) (x_var (i := 7) rfl (by first | exact .inl rfl | exact .inr (.inl rfl) | exact .inr (.inr rfl))))
  (ss_cons (s_setIx (i := 3) rfl (by first | exact .inl rfl | exact .inr (.inl rfl) | exact .inr (.inr rfl)) (x_ixV (i := 2) rfl (by first | exact .inl rfl | exact .inr (.inl rfl) | exact .inr (.inr rfl)) (x_var (i := 6) rfl (by first | exact .inl rfl | exact .inr (.inl rfl) | exact .inr (.inr rfl))) (fun _ _ => rfl)) (x_var (i := 7) rfl (by first | exact .inl rfl | exact .inr (.inl rfl) | exact .inr (.inr rfl))))
  (ss_one (s_setIx (i := 3) rfl (by first | exact .inl rfl | exact .inr (.inl rfl) | exact .inr (.inr rfl)) (x_var (i := 6) rfl (by first | exact .inl rfl | exact .inr (.inl rfl) | exact .inr (.inr rfl))) (x_var (i := 7) rfl (by first | exact .inl rfl | exact .inr (.inl rfl) | exact .inr (.inr rfl)))))))))))
  (ss_cons (s_set (i := 5) nd rfl (by first | exact .inl rfl | exact .inr rfl) rfl (x_call (ok_joined_with T) (hr.mono (by decide)) tk rfl T.g_joined_with T.F_joined_with.kp (bd_joined_with T.F_joined_with) (x_cons (x_var (i := 0) rfl (by first | exact .inl rfl | exact .inr (.inl rfl) | exact .inr (.inr rfl))) (x_cons (x_var (i := 1) rfl (by first | exact .inl rfl | exact .inr (.inl rfl) | exact .inr (.inr rfl))) (x_cons (x_var (i := 2) rfl (by first | exact .inl rfl | exact .inr (.inl rfl) | exact .inr (.inr rfl))) x_nil)))))
  (ss_one (s_ret (x_val (x_and (x_tree (x_call (ok__law_row T) (hr.mono (by decide)) tk rfl T.g__law_row T.F__law_row.kp (bd__law_row T.F__law_row) (x_cons (x_var (i := 5) rfl (by first | exact .inl rfl | exact .inr (.inl rfl) | exact .inr (.inr rfl))) (x_cons (x_var (i := 3) rfl (by first | exact .inl rfl | exact .inr (.inl rfl) | exact .inr (.inr rfl))) x_nil)))) (x_one (x_tree (x_call (ok__law_row T) (hr.mono (by decide)) tk rfl T.g__law_row T.F__law_row.kp (bd__law_row T.F__law_row) (x_cons (x_tree (x_callK (pm := [2, 1, 0]) (ok_joined_with T) (hr.mono (by decide)) tk rfl T.g_joined_with T.F_joined_with.kp (kb_joined_with_2_1_0 T.F_joined_with) (k_cons (x_var (i := 1) rfl (by first | exact .inl rfl | exact .inr (.inl rfl) | exact .inr (.inr rfl))) (k_cons (x_var (i := 2) rfl (by first | exact .inl rfl | exact .inr (.inl rfl) | exact .inr (.inr rfl))) (k_cons (x_var (i := 0) rfl (by first | exact .inl rfl | exact .inr (.inl rfl) | exact .inr (.inr rfl))) k_nil))))) (x_cons (x_var (i := 3) rfl (by first | exact .inl rfl | exact .inr (.inl rfl) | exact .inr (.inr rfl))) x_nil))))))))))))
def M__law_refusals : Ms := (mSeq (mSet 0 (mLst (mCons (mC .none) (mCons (mC (.bool true)) (mCons (mC (.int 3)) (mCons (mC (.str "1")) (mCons (mTup mNil) (mCons (mTup (mCons (mC (.int 1)) mNil)) (mCons (mTup (mCons (mC (.int 1)) (mCons (mC (.int 2)) (mCons (mC (.int 3)) mNil)))) (mCons (mTree (mLst (mCons (mC (.int 1)) (mCons (mC (.int 2)) mNil)))) (mCons (mTup (mCons (mC (.int 2)) (mCons (mC (.int 4)) mNil))) (mCons (mTup (mCons (mC (.int 0)) (mCons (mC (.int 2)) mNil))) (mCons (mTup (mCons (mC (.int 1)) (mCons (mC (.int 0)) mNil))) (mCons (mTup (mCons (mC (.int 1)) (mCons (mTree (m1 fNeg (mC (.int 2)))) mNil))) (mCons (mTup (mCons (mC (.bool true)) (mCons (mC (.int 2)) mNil))) (mCons (mTup (mCons (mC (.int 1)) (mCons (mC (.bool true)) mNil))) mNil))))))))))))))))
  (mSeq (mFor (mSeq1 (mTree (m2 fAdd (mVar 0) (mTree (mLst (mCons (mTup (mCons (mTup (mCons (mC (.int 1)) (mCons (mC (.int 2)) mNil))) (mCons (mTup (mCons (mC (.int 1)) (mCons (mC (.int 2)) mNil))) mNil))) (mCons (mTup (mCons (mTree (m1 fNeg (mC (.int 2)))) (mCons (mC (.int 2)) mNil))) (mCons (mTup (mCons (mC (.int 0)) (mCons (mC (.int 0)) mNil))) (mCons (mTup (mCons (mC (.int 3)) (mCons (mC .none) mNil))) mNil))))))))) (gN 1)
  (mFor (mSeq1 (mTree (mLst (mCons (mC (.str "plus")) (mCons (mC (.str "minus")) (mCons (mC (.str "times")) (mCons (mC (.str "over")) (mCons (mC (.str "less")) mNil)))))))) (gN 2)
  (mSeq (mIfS (mOrT (mNotT (mTst (mTree (mCall D__law_refused (mCons (mVar 2) (mCons (mTup (mCons (mVar 1) (mCons (mTup (mCons (mC (.int 1)) (mCons (mC (.int 2)) mNil))) mNil))) (mCons (mC (.str "one")) mNil))))))) (mNotT (mTst (mTree (mCall D__law_refused (mCons (mVar 2) (mCons (mTup (mCons (mTup (mCons (mC (.int 0)) (mCons (mC (.int 1)) mNil))) (mCons (mVar 1) mNil))) (mCons (mC (.str "other")) mNil))))))))
  (mRet (mVal (mC (.bool false))))
  mNx)
  (mIfS (mNotT (mTst (mTree (mCall D__law_refused (mCons (mVar 2) (mCons (mTup (mCons (mVar 1) (mCons (mVar 1) mNil))) (mCons (mC (.str "one")) mNil)))))))
  (mRet (mVal (mC (.bool false))))
  mNx))))
  (mSeq (mFor (mSeq1 (mTree (mLst (mCons (mC .none) (mCons (mC (.bool true)) (mCons (mC (.bool false)) (mCons (mC (.str "1")) (mCons (mTup (mCons (mC (.int 1)) (mCons (mC (.int 2)) mNil))) (mCons (mTree (mLst (mCons (mC (.int 1)) mNil))) (mCons (mTup mNil) mNil)))))))))) (gN 1)
  (mIfS (mOrT (mNotT (mTst (mTree (mCall D__law_refused (mCons (mC (.str "quotient_of")) (mCons (mTup (mCons (mVar 1) (mCons (mC (.int 0)) mNil))) (mCons (mC (.str "top")) mNil))))))) (mNotT (mTst (mTree (mCall D__law_refused (mCons (mC (.str "quotient_of")) (mCons (mTup (mCons (mC (.int 0)) (mCons (mVar 1) mNil))) (mCons (mC (.str "bottom")) mNil))))))))
  (mRet (mVal (mC (.bool false))))
  mNx))
  (mSeq (mSet 0 (mLst (mCons (mTup (mCons (mC (.int 0)) (mCons (mC (.int 0)) (mCons (mC (.int 1)) mNil)))) (mCons (mTup (mCons (mC (.int 0)) (mCons (mC (.int 1)) mNil))) (mCons (mTup (mCons (mC (.int 0)) (mCons (mC (.int 1)) (mCons (mC (.int 2)) (mCons (mC (.int 3)) mNil))))) (mCons (mTup (mCons (mC (.int 1)) (mCons (mC (.int 1)) (mCons (mC (.int 1)) mNil)))) (mCons (mTup (mCons (mC (.int 0)) (mCons (mC (.int 2)) (mCons (mC (.int 2)) mNil)))) (mCons (mTup (mCons (mC (.int 0)) (mCons (mC (.int 1)) (mCons (mC (.bool true)) mNil)))) (mCons (mTup (mCons (mC (.int 0)) (mCons (mC (.bool false)) (mCons (mC (.int 2)) mNil)))) (mCons (mTree (mLst (mCons (mC (.int 0)) (mCons (mC (.int 1)) (mCons (mC (.int 2)) mNil))))) (mCons (mC .none) (mCons (mC (.int 5)) mNil))))))))))))
  (mSeq (mFor (mSeq1 (mTree (m2 fAdd (mVar 0) (mTree (mLst (mCons (mC (.str "012")) (mCons (mTup (mCons (mC (.int 0)) (mCons (mTree (m1 fNeg (mC (.int 1)))) (mCons (mC (.int 2)) mNil)))) (mCons (mTup (mCons (mC (.int 0)) (mCons (mC (.int 0)) (mCons (mC (.int 3)) mNil)))) (mCons (mTup mNil) (mCons (mTup (mCons (mC (.int 0)) (mCons (mC (.int 0)) (mCons (mC .none) mNil)))) (mCons (mTup (mCons (mTup (mCons (mC (.int 0)) (mCons (mC (.int 1)) mNil))) (mCons (mTup (mCons (mC (.int 2)) mNil)) mNil))) mNil))))))))))) (gN 1)
  (mSeq (mIfS (mNotT (mTst (mTree (mCall D__law_refused (mCons (mC (.str "blocks_of")) (mCons (mTup (mCons (mC (.int 3)) (mCons (mVar 1) mNil))) (mCons (mC (.str "joining")) mNil)))))))
  (mRet (mVal (mC (.bool false))))
  mNx)
  (mSeq (mIfS (mNotT (mTst (mTree (mCall D__law_refused (mCons (mC (.str "joined_with")) (mCons (mTup (mCons (mC (.int 3)) (mCons (mVar 1) (mCons (mVar 1) mNil)))) (mCons (mC (.str "joining")) mNil)))))))
  (mRet (mVal (mC (.bool false))))
  mNx)
  (mIfS (mNotT (mTst (mTree (mCall D__law_refused (mCons (mC (.str "joined_with")) (mCons (mTup (mCons (mC (.int 3)) (mCons (mTup (mCons (mC (.int 0)) (mCons (mC (.int 0)) (mCons (mC (.int 2)) mNil)))) (mCons (mVar 1) mNil)))) (mCons (mC (.str "other")) mNil)))))))
  (mRet (mVal (mC (.bool false))))
  mNx))))
  (mSeq (mSet 0 (mLst (mCons (mTup (mCons (mTup (mCons (mC (.int 0)) (mCons (mC (.int 1)) mNil))) mNil)) (mCons (mTup (mCons (mTup (mCons (mC (.int 0)) (mCons (mC (.int 1)) mNil))) (mCons (mTup (mCons (mC (.int 2)) mNil)) (mCons (mTup (mCons (mC (.int 2)) mNil)) mNil)))) (mCons (mTup (mCons (mTup (mCons (mC (.int 0)) (mCons (mC (.int 1)) mNil))) (mCons (mTup (mCons (mC (.int 1)) (mCons (mC (.int 2)) mNil))) mNil))) (mCons (mTup (mCons (mTup (mCons (mC (.int 1)) (mCons (mC (.int 0)) mNil))) (mCons (mTup (mCons (mC (.int 2)) mNil)) mNil))) (mCons (mTup (mCons (mTup (mCons (mC (.int 0)) (mCons (mC (.int 1)) (mCons (mC (.int 2)) mNil)))) (mCons (mTup mNil) mNil))) (mCons (mTree (mLst (mCons (mTup (mCons (mC (.int 0)) (mCons (mC (.int 1)) (mCons (mC (.int 2)) mNil)))) mNil))) (mCons (mTup (mCons (mC (.int 0)) (mCons (mC (.int 1)) (mCons (mC (.int 2)) mNil)))) mNil)))))))))
  (mSeq (mSet 0 (m2 fAdd (mVar 0) (mTree (mLst (mCons (mTup (mCons (mTree (mLst (mCons (mC (.int 0)) (mCons (mC (.int 1)) (mCons (mC (.int 2)) mNil))))) mNil)) (mCons (mTup (mCons (mTup (mCons (mC (.int 0)) (mCons (mC (.int 1)) mNil))) (mCons (mTup (mCons (mC (.int 2)) mNil)) (mCons (mTup (mCons (mC (.int 3)) mNil)) mNil)))) (mCons (mC .none) (mCons (mTup (mCons (mTup (mCons (mC (.int 0)) (mCons (mC (.bool true)) mNil))) (mCons (mTup (mCons (mC (.int 2)) mNil)) mNil))) (mCons (mTup (mCons (mTup (mCons (mC (.int 0)) (mCons (mC (.int 0)) (mCons (mC (.int 1)) mNil)))) (mCons (mTup (mCons (mC (.int 2)) mNil)) mNil))) (mCons (mTup mNil) (mCons (mC (.int 0)) (mCons (mC (.str "012")) (mCons (mTup (mCons (mTup mNil) mNil)) mNil)))))))))))))
  (mSeq (mFor (mSeq1 (mTree (m2 fAdd (mVar 0) (mTree (mLst (mCons (mTup (mCons (mTup (mCons (mTree (m1 fNeg (mC (.int 1)))) (mCons (mC (.int 0)) (mCons (mC (.int 1)) (mCons (mC (.int 2)) mNil))))) mNil)) (mCons (mTup (mCons (mTup (mCons (mC (.int 0)) (mCons (mC (.int 1)) mNil))) (mCons (mC (.int 2)) mNil))) (mCons (mTup (mCons (mTup (mCons (mC (.int 0)) (mCons (mC (.int 1)) mNil))) (mCons (mTree (mLst (mCons (mC (.int 2)) mNil))) mNil))) mNil)))))))) (gN 1)
  (mIfS (mNotT (mTst (mTree (mCall D__law_refused (mCons (mC (.str "joining_of")) (mCons (mTup (mCons (mC (.int 3)) (mCons (mVar 1) mNil))) (mCons (mC (.str "lots")) mNil)))))))
  (mRet (mVal (mC (.bool false))))
  mNx))
  (mSeq (mIfS (mOrT (mNotT (mTst (mTree (mCall D__law_row (mCons (mTree (mCall D_joining_of (mCons (mC (.int 3)) (mCons (mTup (mCons (mTup (mCons (mC (.int 2)) mNil)) (mCons (mTup (mCons (mC (.int 0)) (mCons (mC (.int 1)) mNil))) mNil))) mNil)))) (mCons (mTup (mCons (mC (.int 0)) (mCons (mC (.int 0)) (mCons (mC (.int 2)) mNil)))) mNil)))))) (mNotT (mTst (mTree (mCall D__law_row (mCons (mTree (mCall D_joining_of (mCons (mC (.int 3)) (mCons (mTup (mCons (mTup (mCons (mC (.int 0)) (mCons (mC (.int 1)) (mCons (mC (.int 2)) mNil)))) mNil)) mNil)))) (mCons (mTup (mCons (mC (.int 0)) (mCons (mC (.int 0)) (mCons (mC (.int 0)) mNil)))) mNil)))))))
  (mRet (mVal (mC (.bool false))))
  mNx)
  (mRet (mVal (mAndV (mTree (mCall D__law_refused (mCons (mC (.str "quotient_of")) (mCons (mTup (mCons (mC (.int 5)) (mCons (mC (.int 0)) mNil))) (mCons (mC (.str "bottom")) mNil))))) (mTree (mCall D__law_stands (mCons (mTree (mCall D_quotient_of (mCons (mC (.int 0)) (mCons (mTree (m1 fNeg (mC (.int 5)))) mNil)))) (mCons (mC (.int 0)) (mCons (mC (.int 1)) mNil)))))))))))))))))
def D__law_refusals : DF := runDef 3 0 [] M__law_refusals
theorem ok__law_refusals (T : Txt K mg A FD CA CI FC) : FnOk P w K mg base (L2N.CX P w) 9 (A 40) (FD 40) [] (spD K mg D__law_refusals) := by
  refine def_ok T.F__law_refusals sc__law_refusals fun cdv A outer s H E hr tk => ?_
  have nd := sc__law_refusals.nd
  have hu := hr.u64
  exact (ss_cons (s_set (i := 0) nd rfl (by first | exact .inl rfl | exact .inr rfl) rfl (x_lst (x_cons x_non (x_cons x_bl (x_cons x_int (x_cons x_str (x_cons (x_tup x_nil) (x_cons (x_tup (x_cons x_int x_nil)) (x_cons (x_tup (x_cons x_int (x_cons x_int (x_cons x_int x_nil)))) (x_cons (x_tree (x_lst (x_cons x_int (x_cons x_int x_nil)))) (x_cons (x_tup (x_cons x_int (x_cons x_int x_nil))) (x_cons (x_tup (x_cons x_int (x_cons x_int x_nil))) (x_cons (x_tup (x_cons x_int (x_cons x_int x_nil))) (x_cons (x_tup (x_cons x_int (x_cons (x_tree (x_un un_neg f_neg x_int)) x_nil))) (x_cons (x_tup (x_cons x_bl (x_cons x_int x_nil))) (x_cons (x_tup (x_cons x_int (x_cons x_bl x_nil))) x_nil))))))))))))))))
  (ss_cons (s_for (passes_of rfl) rfl (i_seq (x_tree (x_op o_add f_add (x_var (i := 0) rfl (by first | exact .inl rfl | exact .inr (.inl rfl) | exact .inr (.inr rfl))) (x_tree (x_lst (x_cons (x_tup (x_cons (x_tup (x_cons x_int (x_cons x_int x_nil))) (x_cons (x_tup (x_cons x_int (x_cons x_int x_nil))) x_nil))) (x_cons (x_tup (x_cons (x_tree (x_un un_neg f_neg x_int)) (x_cons x_int x_nil))) (x_cons (x_tup (x_cons x_int (x_cons x_int x_nil))) (x_cons (x_tup (x_cons x_int (x_cons x_non x_nil))) x_nil))))))))) (g_name (i := 1) nd rfl (by first | exact .inl rfl | exact .inr rfl)) rfl
  (ss_one (s_for (passes_of rfl) rfl (i_seq (x_tree (x_lst (x_cons x_str (x_cons x_str (x_cons x_str (x_cons x_str (x_cons x_str x_nil)))))))) (g_name (i := 2) nd rfl (by first | exact .inl rfl | exact .inr rfl)) rfl
  (ss_cons (s_if (PW.pt (o_or (o_not (o_val (x_tree (x_call (ok__law_refused T) (hr.mono (by decide)) tk rfl T.g__law_refused T.F__law_refused.kp (bd__law_refused T.F__law_refused) (x_cons (x_var (i := 2) rfl (by first | exact .inl rfl | exact .inr (.inl rfl) | exact .inr (.inr rfl))) (x_cons (x_tup (x_cons (x_var (i := 1) rfl (by first | exact .inl rfl | exact .inr (.inl rfl) | exact .inr (.inr rfl))) (x_cons (x_tup (x_cons x_int (x_cons x_int x_nil))) x_nil))) (x_cons x_str x_nil))))))) (o_or1 (o_not (o_val (x_tree (x_call (ok__law_refused T) (hr.mono (by decide)) tk rfl T.g__law_refused T.F__law_refused.kp (bd__law_refused T.F__law_refused) (x_cons (x_var (i := 2) rfl (by first | exact .inl rfl | exact .inr (.inl rfl) | exact .inr (.inr rfl))) (x_cons (x_tup (x_cons (x_tup (x_cons x_int (x_cons x_int x_nil))) (x_cons (x_var (i := 1) rfl (by first | exact .inl rfl | exact .inr (.inl rfl) | exact .inr (.inr rfl))) x_nil))) (x_cons x_str x_nil))))))))))
  (ss_one (s_ret (x_val x_bl)))
  ss_nil)
  (ss_one (s_if (o_not (o_val (x_tree (x_call (ok__law_refused T) (hr.mono (by decide)) tk rfl T.g__law_refused T.F__law_refused.kp (bd__law_refused T.F__law_refused) (x_cons (x_var (i := 2) rfl (by first | exact .inl rfl | exact .inr (.inl rfl) | exact .inr (.inr rfl))) (x_cons (x_tup (x_cons (x_var (i := 1) rfl (by first | exact .inl rfl | exact .inr (.inl rfl) | exact .inr (.inr rfl))) (x_cons (x_var (i := 1) rfl (by first | exact .inl rfl | exact .inr (.inl rfl) | exact .inr (.inr rfl))) x_nil))) (x_cons x_str x_nil)))))))
  (ss_one (s_ret (x_val x_bl)))
  ss_nil))))))
  (ss_cons (s_for (passes_of rfl) rfl (i_seq (x_tree (x_lst (x_cons x_non (x_cons x_bl (x_cons x_bl (x_cons x_str (x_cons (x_tup (x_cons x_int (x_cons x_int x_nil))) (x_cons (x_tree (x_lst (x_cons x_int x_nil))) (x_cons (x_tup x_nil) x_nil)))))))))) (g_name (i := 1) nd rfl (by first | exact .inl rfl | exact .inr rfl)) rfl
  (ss_one (s_if (PW.pt (o_or (o_not (o_val (x_tree (x_call (ok__law_refused T) (hr.mono (by decide)) tk rfl T.g__law_refused T.F__law_refused.kp (bd__law_refused T.F__law_refused) (x_cons x_str (x_cons (x_tup (x_cons (x_var (i := 1) rfl (by first | exact .inl rfl | exact .inr (.inl rfl) | exact .inr (.inr rfl))) (x_cons x_int x_nil))) (x_cons x_str x_nil))))))) (o_or1 (o_not (o_val (x_tree (x_call (ok__law_refused T) (hr.mono (by decide)) tk rfl T.g__law_refused T.F__law_refused.kp (bd__law_refused T.F__law_refused) (x_cons x_str (x_cons (x_tup (x_cons x_int (x_cons (x_var (i := 1) rfl (by first | exact .inl rfl | exact .inr (.inl rfl) | exact .inr (.inr rfl))) x_nil))) (x_cons x_str x_nil))))))))))
  (ss_one (s_ret (x_val x_bl)))
  ss_nil)))
  (ss_cons (s_set (i := 0) nd rfl (by first | exact .inl rfl | exact .inr rfl) rfl (x_lst (x_cons (x_tup (x_cons x_int (x_cons x_int (x_cons x_int x_nil)))) (x_cons (x_tup (x_cons x_int (x_cons x_int x_nil))) (x_cons (x_tup (x_cons x_int (x_cons x_int (x_cons x_int (x_cons x_int x_nil))))) (x_cons (x_tup (x_cons x_int (x_cons x_int (x_cons x_int x_nil)))) (x_cons (x_tup (x_cons x_int (x_cons x_int (x_cons x_int x_nil)))) (x_cons (x_tup (x_cons x_int (x_cons x_int (x_cons x_bl x_nil)))) (x_cons (x_tup (x_cons x_int (x_cons x_bl (x_cons x_int x_nil)))) (x_cons (x_tree (x_lst (x_cons x_int (x_cons x_int (x_cons x_int x_nil))))) (x_cons x_non (x_cons x_int x_nil))))))))))))
  (ss_cons (s_for (passes_of rfl) rfl (i_seq (x_tree (x_op o_add f_add (x_var (i := 0) rfl (by first | exact .inl rfl | exact .inr (.inl rfl) | exact .inr (.inr rfl))) (x_tree (x_lst (x_cons x_str (x_cons (x_tup (x_cons x_int (x_cons (x_tree (x_un un_neg f_neg x_int)) (x_cons x_int x_nil)))) (x_cons (x_tup (x_cons x_int (x_cons x_int (x_cons x_int x_nil)))) (x_cons (x_tup x_nil) (x_cons (x_tup (x_cons x_int (x_cons x_int (x_cons x_non x_nil)))) (x_cons (x_tup (x_cons (x_tup (x_cons x_int (x_cons x_int x_nil))) (x_cons (x_tup (x_cons x_int x_nil)) x_nil))) x_nil))))))))))) (g_name (i := 1) nd rfl (by first | exact .inl rfl | exact .inr rfl)) rfl
  (ss_cons (s_if (o_not (o_val (x_tree (x_call (ok__law_refused T) (hr.mono (by decide)) tk rfl T.g__law_refused T.F__law_refused.kp (bd__law_refused T.F__law_refused) (x_cons x_str (x_cons (x_tup (x_cons x_int (x_cons (x_var (i := 1) rfl (by first | exact .inl rfl | exact .inr (.inl rfl) | exact .inr (.inr rfl))) x_nil))) (x_cons x_str x_nil)))))))
  (ss_one (s_ret (x_val x_bl)))
  ss_nil)
  (ss_cons (s_if (o_not (o_val (x_tree (x_call (ok__law_refused T) (hr.mono (by decide)) tk rfl T.g__law_refused T.F__law_refused.kp (bd__law_refused T.F__law_refused) (x_cons x_str (x_cons (x_tup (x_cons x_int (x_cons (x_var (i := 1) rfl (by first | exact .inl rfl | exact .inr (.inl rfl) | exact .inr (.inr rfl))) (x_cons (x_var (i := 1) rfl (by first | exact .inl rfl | exact .inr (.inl rfl) | exact .inr (.inr rfl))) x_nil)))) (x_cons x_str x_nil)))))))
  (ss_one (s_ret (x_val x_bl)))
  ss_nil)
  (ss_one (s_if (o_not (o_val (x_tree (x_call (ok__law_refused T) (hr.mono (by decide)) tk rfl T.g__law_refused T.F__law_refused.kp (bd__law_refused T.F__law_refused) (x_cons x_str (x_cons (x_tup (x_cons x_int (x_cons (x_tup (x_cons x_int (x_cons x_int (x_cons x_int x_nil)))) (x_cons (x_var (i := 1) rfl (by first | exact .inl rfl | exact .inr (.inl rfl) | exact .inr (.inr rfl))) x_nil)))) (x_cons x_str x_nil)))))))
  (ss_one (s_ret (x_val x_bl)))
  ss_nil)))))
  (ss_cons (s_set (i := 0) nd rfl (by first | exact .inl rfl | exact .inr rfl) rfl (x_lst (x_cons (x_tup (x_cons (x_tup (x_cons x_int (x_cons x_int x_nil))) x_nil)) (x_cons (x_tup (x_cons (x_tup (x_cons x_int (x_cons x_int x_nil))) (x_cons (x_tup (x_cons x_int x_nil)) (x_cons (x_tup (x_cons x_int x_nil)) x_nil)))) (x_cons (x_tup (x_cons (x_tup (x_cons x_int (x_cons x_int x_nil))) (x_cons (x_tup (x_cons x_int (x_cons x_int x_nil))) x_nil))) (x_cons (x_tup (x_cons (x_tup (x_cons x_int (x_cons x_int x_nil))) (x_cons (x_tup (x_cons x_int x_nil)) x_nil))) (x_cons (x_tup (x_cons (x_tup (x_cons x_int (x_cons x_int (x_cons x_int x_nil)))) (x_cons (x_tup x_nil) x_nil))) (x_cons (x_tree (x_lst (x_cons (x_tup (x_cons x_int (x_cons x_int (x_cons x_int x_nil)))) x_nil))) (x_cons (x_tup (x_cons x_int (x_cons x_int (x_cons x_int x_nil)))) x_nil)))))))))
  (ss_cons (s_set (i := 0) nd rfl (by first | exact .inl rfl | exact .inr rfl) rfl (x_op o_add f_add (x_var (i := 0) rfl (by first | exact .inl rfl | exact .inr (.inl rfl) | exact .inr (.inr rfl))) (x_tree (x_lst (x_cons (x_tup (x_cons (x_tree (x_lst (x_cons x_int (x_cons x_int (x_cons x_int x_nil))))) x_nil)) (x_cons (x_tup (x_cons (x_tup (x_cons x_int (x_cons x_int x_nil))) (x_cons (x_tup (x_cons x_int x_nil)) (x_cons (x_tup (x_cons x_int x_nil)) x_nil)))) (x_cons x_non (x_cons (x_tup (x_cons (x_tup (x_cons x_int (x_cons x_bl x_nil))) (x_cons (x_tup (x_cons x_int x_nil)) x_nil))) (x_cons (x_tup (x_cons (x_tup (x_cons x_int (x_cons x_int (x_cons x_int x_nil)))) (x_cons (x_tup (x_cons x_int x_nil)) x_nil))) (x_cons (x_tup x_nil) (x_cons x_int (x_cons x_str (x_cons (x_tup (x_cons (x_tup x_nil) x_nil)) x_nil)))))))))))))
  (ss_cons (s_for (passes_of rfl) rfl (i_seq (x_tree (x_op o_add f_add (x_var (i := 0) rfl (by first | exact .inl rfl | exact .inr (.inl rfl) | exact .inr (.inr rfl))) (x_tree (x_lst (x_cons (x_tup (x_cons (x_tup (x_cons (x_tree (x_un un_neg f_neg x_int)) (x_cons x_int (x_cons x_int (x_cons x_int x_nil))))) x_nil)) (x_cons (x_tup (x_cons (x_tup (x_cons x_int (x_cons x_int x_nil))) (x_cons x_int x_nil))) (x_cons (x_tup (x_cons (x_tup (x_cons x_int (x_cons x_int x_nil))) (x_cons (x_tree (x_lst (x_cons x_int x_nil))) x_nil))) x_nil)))))))) (g_name (i := 1) nd rfl (by first | exact .inl rfl | exact .inr rfl)) rfl
  (ss_one (s_if (o_not (o_val (x_tree (x_call (ok__law_refused T) (hr.mono (by decide)) tk rfl T.g__law_refused T.F__law_refused.kp (bd__law_refused T.F__law_refused) (x_cons x_str (x_cons (x_tup (x_cons x_int (x_cons (x_var (i := 1) rfl (by first | exact .inl rfl | exact .inr (.inl rfl) | exact .inr (.inr rfl))) x_nil))) (x_cons x_str x_nil)))))))
  (ss_one (s_ret (x_val x_bl)))
  ss_nil)))
  (ss_cons (s_if (PW.pt (o_or (o_not (o_val (x_tree (x_call (ok__law_row T) (hr.mono (by decide)) tk rfl T.g__law_row T.F__law_row.kp (bd__law_row T.F__law_row) (x_cons (x_tree (x_call (ok_joining_of T) (hr.mono (by decide)) tk rfl T.g_joining_of T.F_joining_of.kp (bd_joining_of T.F_joining_of) (x_cons x_int (x_cons (x_tup (x_cons (x_tup (x_cons x_int x_nil)) (x_cons (x_tup (x_cons x_int (x_cons x_int x_nil))) x_nil))) x_nil)))) (x_cons (x_tup (x_cons x_int (x_cons x_int (x_cons x_int x_nil)))) x_nil)))))) (o_or1 (o_not (o_val (x_tree (x_call (ok__law_row T) (hr.mono (by decide)) tk rfl T.g__law_row T.F__law_row.kp (bd__law_row T.F__law_row) (x_cons (x_tree (x_call (ok_joining_of T) (hr.mono (by decide)) tk rfl T.g_joining_of T.F_joining_of.kp (bd_joining_of T.F_joining_of) (x_cons x_int (x_cons (x_tup (x_cons (x_tup (x_cons x_int (x_cons x_int (x_cons x_int x_nil)))) x_nil)) x_nil)))) (x_cons (x_tup (x_cons x_int (x_cons x_int (x_cons x_int x_nil)))) x_nil)))))))))
  (ss_one (s_ret (x_val x_bl)))
  ss_nil)
  (ss_one (s_ret (x_val (x_and (x_tree (x_call (ok__law_refused T) (hr.mono (by decide)) tk rfl T.g__law_refused T.F__law_refused.kp (bd__law_refused T.F__law_refused) (x_cons x_str (x_cons (x_tup (x_cons x_int (x_cons x_int x_nil))) (x_cons x_str x_nil))))) (x_one (x_tree (x_call (ok__law_stands T) (hr.mono (by decide)) tk rfl T.g__law_stands T.F__law_stands.kp (bd__law_stands T.F__law_stands) (x_cons (x_tree (x_call (ok_quotient_of T) (hr.mono (by decide)) tk rfl T.g_quotient_of T.F_quotient_of.kp (bd_quotient_of T.F_quotient_of) (x_cons x_int (x_cons (x_tree (x_un un_neg f_neg x_int)) x_nil)))) (x_cons x_int (x_cons x_int x_nil)))))))))))))))))))
def M_law : Ms := (mSeq (mSet 1 (mCall D__law_pool (mCons (mVar 0) mNil)))
  (mSeq (mSet 2 (mComp (mRng (mCons (mC (.int 3)) mNil)) (gN 12) mYes (mTree (mCallP D__law_share 1 mNil)) [12]))
  (mSeq (mSet 3 (mVal (mIxV 2 (mTree (mCallP D__law_take 1 (mCons (mC (.int 3)) mNil))))))
  (mSeq (mIfS (mTst (mTree (m2 fEq (mTree (mCallP D__law_take 1 (mCons (mC (.int 3)) mNil))) (mC (.int 2)))))
  (mSet 3 (mVal (mTup (mCons (mTree (m2 fAdd (mIxV 3 (mC (.int 0))) (mIxV 3 (mC (.int 1))))) (mCons (mIxV 3 (mC (.int 1))) mNil)))))
  mNx)
  (mSeq (mIfS (mTst (mTree (m2 fLe (mTree (mN fAbs (mCons (mIxV 3 (mC (.int 0))) mNil))) (mTree (m2 fPow (mC (.int 10)) (mC (.int 12)))))))
  (mDrop (mApp 2 (mVar 3)))
  mNx)
  (mSeq (mSet 4 (m2 fIx (mTree (mLst (mCons (mC (.int 1)) (mCons (mTree (m1 fNeg (mC (.int 1)))) (mCons (mC (.int 6)) (mCons (mTree (m1 fNeg (mC (.int 35)))) (mCons (mC (.int 0)) mNil))))))) (mTree (mCallP D__law_take 1 (mCons (mC (.int 5)) mNil)))))
  (mSeq (mSet 5 (m2 fMul (mTree (mCallP D__law_take 1 (mCons (mC (.int 1000)) mNil))) (mVar 4)))
  (mSeq (mSet 6 (m2 fMul (mTree (m2 fAdd (mC (.int 1)) (mTree (mCallP D__law_take 1 (mCons (mC (.int 90)) mNil))))) (mTree (m2 fIx (mTree (mLst (mCons (mC (.int 1)) (mCons (mTree (m1 fNeg (mC (.int 1)))) (mCons (mC (.int 6)) (mCons (mTree (m1 fNeg (mC (.int 35)))) mNil)))))) (mTree (mCallP D__law_take 1 (mCons (mC (.int 4)) mNil)))))))
  (mSeq (mIfS (mNotT (mTst (mTree (mCall D__law_stands (mCons (mTree (mCall D_quotient_of (mCons (mVar 5) (mCons (mVar 6) mNil)))) (mCons (mVar 5) (mCons (mVar 6) mNil)))))))
  (mRet (mVal (mC (.bool false))))
  mNx)
  (mSeq (mIfS (mNotT (mTst (mTree (mCall D__law_stands (mCons (mTree (mCallKW D_quotient_of [1, 0] 2 (mCons (mVar 6) (mCons (mVar 5) mNil)))) (mCons (mVar 5) (mCons (mVar 6) mNil)))))))
  (mRet (mVal (mC (.bool false))))
  mNx)
  (mSeq (mIfS (mAndT (mTst (mTree (m2 fEq (mTree (mCallP D__law_take 1 (mCons (mC (.int 4)) mNil))) (mC (.int 3))))) (mNotT (mTst (mTree (mCall00 D__law_refusals)))))
  (mRet (mVal (mC (.bool false))))
  mNx)
  (mSeq (mFor (mSeq1 (mVar 2)) (gN 7)
  (mFor (mSeq1 (mVar 2)) (gN 11)
  (mIfS (mNotT (mTst (mTree (mCall D__law_pair (mCons (mVar 7) (mCons (mVar 11) mNil))))))
  (mRet (mVal (mC (.bool false))))
  mNx)))
  (mSeq (mAsg (gT (gsCons (gN 5) (gsCons (gN 6) gsNil)) 2) (mTree (mCall D__law_number (mCons (mC (.str "minus")) (mCons (mIxV 2 (mC (.int 1))) (mCons (mIxV 2 (mC (.int 0))) mNil))))))
  (mSeq (mIfS (mNotT (mTst (mTree (mCall D__law_stands (mCons (mTree (mCallKW D_minus [1, 0] 2 (mCons (mIxV 2 (mC (.int 0))) (mCons (mIxV 2 (mC (.int 1))) mNil)))) (mCons (mVar 5) (mCons (mVar 6) mNil)))))))
  (mRet (mVal (mC (.bool false))))
  mNx)
  (mSeq (mIfS (mNotT (mTst (mTree (mCall D__law_stands (mCons (mTree (mCallKW D_minus [1, 0] 2 (mCons (mTup (mCons (mC (.int 0)) (mCons (mC (.int 1)) mNil))) (mCons (mTree (mCallKW D_times [1, 0] 2 (mCons (mIxV 2 (mC (.int 0))) (mCons (mTup (mCons (mC (.int 1)) (mCons (mC (.int 1)) mNil))) mNil)))) mNil)))) (mCons (mTree (m2 fIx (mIxV 2 (mC (.int 0))) (mC (.int 0)))) (mCons (mTree (m2 fIx (mIxV 2 (mC (.int 0))) (mC (.int 1)))) mNil)))))))
  (mRet (mVal (mC (.bool false))))
  mNx)
  (mSeq (mIfS (mNotT (mTst (mTree (mCall D__law_stands (mCons (mTree (mCallKW D_plus [1, 0] 2 (mCons (mTree (mCallKW D_over [1, 0] 2 (mCons (mTup (mCons (mC (.int 1)) (mCons (mC (.int 1)) mNil))) (mCons (mIxV 2 (mC (.int 0))) mNil)))) (mCons (mTup (mCons (mC (.int 0)) (mCons (mC (.int 1)) mNil))) mNil)))) (mCons (mTree (m2 fIx (mIxV 2 (mC (.int 0))) (mC (.int 0)))) (mCons (mTree (m2 fIx (mIxV 2 (mC (.int 0))) (mC (.int 1)))) mNil)))))))
  (mRet (mVal (mC (.bool false))))
  mNx)
  (mSeq (mIfS (mOrT (mTst (mTree (m2 fIsN (mTree (mCallKW D_less [1, 0] 2 (mCons (mTup (mCons (mC (.int 1)) (mCons (mC (.int 2)) mNil))) (mCons (mTup (mCons (mC (.int 1)) (mCons (mC (.int 3)) mNil))) mNil)))) (mC (.bool true))))) (mTst (mTree (m2 fIsN (mTree (mCallKW D_less [1, 0] 2 (mCons (mTup (mCons (mC (.int 1)) (mCons (mC (.int 3)) mNil))) (mCons (mTup (mCons (mC (.int 1)) (mCons (mC (.int 2)) mNil))) mNil)))) (mC (.bool false))))))
  (mRet (mVal (mC (.bool false))))
  mNx)
  (mSeq (mIfS (mNotT (mTst (mTree (mCallP D__law_chain 1 (mCons (mIxV 2 (mC (.int 0))) mNil)))))
  (mRet (mVal (mC (.bool false))))
  mNx)
  (mSeq (mSet 8 (m2 fIx (mTree (mLst (mCons (mC (.int 3)) (mCons (mC (.int 0)) (mCons (mC (.int 1)) (mCons (mC (.int 2)) (mCons (mC (.int 4)) (mCons (mC (.int 5)) (mCons (mC (.int 9)) (mCons (mC (.int 16)) mNil)))))))))) (mTree (mCallP D__law_take 1 (mCons (mC (.int 8)) mNil)))))
  (mSeq (mSet 9 (mCallP D__law_joined 1 (mCons (mVar 8) mNil)))
  (mSeq (mSet 10 (mCallP D__law_joined 1 (mCons (mVar 8) mNil)))
  (mSeq (mIfS (mTst (mTree (m2 fEq (mTree (mCallP D__law_take 1 (mCons (mC (.int 6)) mNil))) (mC (.int 5)))))
  (mSet 10 (mVal (mVar 9)))
  mNx)
  (mSeq (mIfS (mOrT (mNotT (mTst (mTree (mCallP D__law_blocks 1 (mCons (mVar 8) (mCons (mVar 9) mNil)))))) (mNotT (mTst (mTree (mCallP D__law_blocks 1 (mCons (mVar 8) (mCons (mVar 10) mNil)))))))
  (mRet (mVal (mC (.bool false))))
  mNx)
  (mSeq (mIfS (mNotT (mTst (mTree (mCall D__law_both (mCons (mVar 8) (mCons (mVar 9) (mCons (mVar 10) mNil)))))))
  (mRet (mVal (mC (.bool false))))
  mNx)
  (mRet (mVal (mAndV (mTree (mCall D__law_listed (mCons (mTree (mCallP D__law_take 1 (mCons (mC (.int 6)) mNil))) mNil))) (mTree (mCall D__law_listed (mCons (mC (.int 2)) mNil))))))))))))))))))))))))))))))
def D_law : DF := runDef 13 1 [0] M_law
theorem ok_law (T : Txt K mg A FD CA CI FC) : FnOk P w K mg base (L2N.CX P w) 10 (A 41) (FD 41) ["_law_script"] (spD K mg D_law) := by
  refine def_ok T.F_law sc_law fun cdv A outer s H E hr tk => ?_
  have nd := sc_law.nd
  have hu := hr.u64
  exact (ss_cons (s_set (i := 1) nd rfl (by first | exact .inl rfl | exact .inr rfl) rfl (x_call (ok__law_pool T) (hr.mono (by decide)) tk rfl T.g__law_pool T.F__law_pool.kp (bd__law_pool T.F__law_pool) (x_cons (x_var (i := 0) rfl (by first | exact .inl rfl | exact .inr (.inl rfl) | exact .inr (.inr rfl))) x_nil)))
  (ss_cons (by first | exact (s_set (i := 2) nd rfl (by first | exact .inl rfl | exact .inr rfl) rfl (x_lc (own := [("_law_k", 12)]) rfl nd (i_rng rfl T.n_range (x_cons x_int x_nil)) (blkOk_by (N := N_law) (sc := defScope s_law) (by decide +kernel)) (by decide) (fun _ _ _ _ _ => (g_name (i := 12) nd rfl (by first | exact .inl rfl | exact .inr rfl))) (fun _ _ _ _ _ => o_yes) (fun _ _ _ _ _ => (x_tree (x_callP (i := 1) (ok__law_share T) (hr.mono (by decide)) takesN rfl T.g__law_share T.F__law_share.kp (bd__law_share T.F__law_share) rfl (by first | exact .inl rfl | exact .inr (.inl rfl) | exact .inr (.inr rfl)) x_nil))))) | exact (s_setLc (i := 2) (hc := rfl) (hN := nd) (hy := rfl) (hyl := rfl) (hkeep := rfl) (hsw := sw_true rfl rfl rfl (by decide +kernel)) (own := [("_law_k", 12)]) (hi := (i_rng rfl T.n_range (x_cons x_int x_nil))) (ok := blkOk_by (N := N_law) (sc := defScope s_law) (by decide +kernel)) (hk := by decide) (hg := fun _ _ _ _ _ => (g_name (i := 12) nd rfl (by first | exact .inl rfl | exact .inr rfl))) (ht := fun _ _ _ _ _ => o_yes) (he := fun _ _ _ _ _ => (x_tree (x_callP (i := 1) (ok__law_share T) (hr.mono (by decide)) takesN rfl T.g__law_share T.F__law_share.kp (bd__law_share T.F__law_share) rfl (by first | exact .inl rfl | exact .inr (.inl rfl) | exact .inr (.inr rfl)) x_nil)))))
  (ss_cons (s_set (i := 3) nd rfl (by first | exact .inl rfl | exact .inr rfl) rfl (x_val (x_ixV (i := 2) rfl (by first | exact .inl rfl | exact .inr (.inl rfl) | exact .inr (.inr rfl)) (x_tree (x_callP (i := 1) (ok__law_take T) (hr.mono (by decide)) tk rfl T.g__law_take T.F__law_take.kp (bd__law_take T.F__law_take) rfl (by first | exact .inl rfl | exact .inr (.inl rfl) | exact .inr (.inr rfl)) (x_cons x_int x_nil))) (fun _ _ => rfl))))
  (ss_cons (s_if (o_cmp (op_eq.or (op_eqD hu)) f_eq (x_tree (x_callP (i := 1) (ok__law_take T) (hr.mono (by decide)) tk rfl T.g__law_take T.F__law_take.kp (bd__law_take T.F__law_take) rfl (by first | exact .inl rfl | exact .inr (.inl rfl) | exact .inr (.inr rfl)) (x_cons x_int x_nil))) x_int (nomark _))
  (ss_one (s_set (i := 3) nd rfl (by first | exact .inl rfl | exact .inr rfl) rfl (x_val (x_tup (x_cons (x_tree (x_op o_add f_add (x_ixV (i := 3) rfl (by first | exact .inl rfl | exact .inr (.inl rfl) | exact .inr (.inr rfl)) x_int (fun _ _ => rfl)) (x_ixV (i := 3) rfl (by first | exact .inl rfl | exact .inr (.inl rfl) | exact .inr (.inr rfl)) x_int (fun _ _ => rfl)))) (x_cons (x_ixV (i := 3) rfl (by first | exact .inl rfl | exact .inr (.inl rfl) | exact .inr (.inr rfl)) x_int (fun _ _ => rfl)) x_nil))))))
  ss_nil)
  (ss_cons (s_if (o_cmp op_le f_cmp (x_tree (x_blt call_abs f_abs rfl T.n_abs (by decide +kernel) (x_cons (x_ixV (i := 3) rfl (by first | exact .inl rfl | exact .inr (.inl rfl) | exact .inr (.inr rfl)) x_int (fun _ _ => rfl)) x_nil))) (x_tree (x_op op_pow f_pow x_int x_int)) (nomark _))
  (ss_one (s_expr (x_app (i := 2) rfl (by first | exact .inl rfl | exact .inr (.inl rfl) | exact .inr (.inr rfl)) (x_var (i := 3) rfl (by first | exact .inl rfl | exact .inr (.inl rfl) | exact .inr (.inr rfl))))))
  ss_nil)
  (ss_cons (s_set (i := 4) nd rfl (by first | exact .inl rfl | exact .inr rfl) rfl (x_ix (ix_list.or ix_tup) f_ix (x_tree (x_lst (x_cons x_int (x_cons (x_tree (x_un un_neg f_neg x_int)) (x_cons x_int (x_cons (x_tree (x_un un_neg f_neg x_int)) (x_cons x_int x_nil))))))) (x_tree (x_callP (i := 1) (ok__law_take T) (hr.mono (by decide)) tk rfl T.g__law_take T.F__law_take.kp (bd__law_take T.F__law_take) rfl (by first | exact .inl rfl | exact .inr (.inl rfl) | exact .inr (.inr rfl)) (x_cons x_int x_nil))) (fun _ _ => rfl)))
  (ss_cons (s_set (i := 5) nd rfl (by first | exact .inl rfl | exact .inr rfl) rfl (x_op op_mulW f_mul (x_tree (x_callP (i := 1) (ok__law_take T) (hr.mono (by decide)) tk rfl T.g__law_take T.F__law_take.kp (bd__law_take T.F__law_take) rfl (by first | exact .inl rfl | exact .inr (.inl rfl) | exact .inr (.inr rfl)) (x_cons x_int x_nil))) (x_var (i := 4) rfl (by first | exact .inl rfl | exact .inr (.inl rfl) | exact .inr (.inr rfl)))))
  (ss_cons (s_set (i := 6) nd rfl (by first | exact .inl rfl | exact .inr rfl) rfl (x_op op_mulW f_mul (x_tree (x_op o_add f_add x_int (x_tree (x_callP (i := 1) (ok__law_take T) (hr.mono (by decide)) tk rfl T.g__law_take T.F__law_take.kp (bd__law_take T.F__law_take) rfl (by first | exact .inl rfl | exact .inr (.inl rfl) | exact .inr (.inr rfl)) (x_cons x_int x_nil))))) (x_tree (x_ix (ix_list.or ix_tup) f_ix (x_tree (x_lst (x_cons x_int (x_cons (x_tree (x_un un_neg f_neg x_int)) (x_cons x_int (x_cons (x_tree (x_un un_neg f_neg x_int)) x_nil)))))) (x_tree (x_callP (i := 1) (ok__law_take T) (hr.mono (by decide)) tk rfl T.g__law_take T.F__law_take.kp (bd__law_take T.F__law_take) rfl (by first | exact .inl rfl | exact .inr (.inl rfl) | exact .inr (.inr rfl)) (x_cons x_int x_nil))) (fun _ _ => rfl)))))
  (ss_cons (s_if (o_not (o_val (x_tree (x_call (ok__law_stands T) (hr.mono (by decide)) tk rfl T.g__law_stands T.F__law_stands.kp (bd__law_stands T.F__law_stands) (x_cons (x_tree (x_call (ok_quotient_of T) (hr.mono (by decide)) tk rfl T.g_quotient_of T.F_quotient_of.kp (bd_quotient_of T.F_quotient_of) (x_cons (x_var (i := 5) rfl (by first | exact .inl rfl | exact .inr (.inl rfl) | exact .inr (.inr rfl))) (x_cons (x_var (i := 6) rfl (by first | exact .inl rfl | exact .inr (.inl rfl) | exact .inr (.inr rfl))) x_nil)))) (x_cons (x_var (i := 5) rfl (by first | exact .inl rfl | exact .inr (.inl rfl) | exact .inr (.inr rfl))) (x_cons (x_var (i := 6) rfl (by first | exact .inl rfl | exact .inr (.inl rfl) | exact .inr (.inr rfl))) x_nil)))))))
  (ss_one (s_ret (x_val x_bl)))
  ss_nil)
  (ss_cons (s_if (o_not (o_val (x_tree (x_call (ok__law_stands T) (hr.mono (by decide)) tk rfl T.g__law_stands T.F__law_stands.kp (bd__law_stands T.F__law_stands) (x_cons (x_tree (x_callK (pm := [1, 0]) (ok_quotient_of T) (hr.mono (by decide)) tk rfl T.g_quotient_of T.F_quotient_of.kp (kb_quotient_of_1_0 T.F_quotient_of) (k_cons (x_var (i := 6) rfl (by first | exact .inl rfl | exact .inr (.inl rfl) | exact .inr (.inr rfl))) (k_cons (x_var (i := 5) rfl (by first | exact .inl rfl | exact .inr (.inl rfl) | exact .inr (.inr rfl))) k_nil)))) (x_cons (x_var (i := 5) rfl (by first | exact .inl rfl | exact .inr (.inl rfl) | exact .inr (.inr rfl))) (x_cons (x_var (i := 6) rfl (by first | exact .inl rfl | exact .inr (.inl rfl) | exact .inr (.inr rfl))) x_nil)))))))
  (ss_one (s_ret (x_val x_bl)))
  ss_nil)
  (ss_cons (s_if (PW.pt (o_and (o_cmp (op_eq.or (op_eqD hu)) f_eq (x_tree (x_callP (i := 1) (ok__law_take T) (hr.mono (by decide)) tk rfl T.g__law_take T.F__law_take.kp (bd__law_take T.F__law_take) rfl (by first | exact .inl rfl | exact .inr (.inl rfl) | exact .inr (.inr rfl)) (x_cons x_int x_nil))) x_int (nomark _)) (o_and1 (o_not (o_val (x_tree (x_call0 (ok__law_refusals T) (hr.mono (by decide)) tk rfl T.g__law_refusals T.F__law_refusals.kp (bd__law_refusals T.F__law_refusals))))))))
  (ss_one (s_ret (x_val x_bl)))
  ss_nil)
  (ss_cons (s_for (passes_of rfl) rfl (i_seq (x_var (i := 2) rfl (by first | exact .inl rfl | exact .inr (.inl rfl) | exact .inr (.inr rfl)))) (g_name (i := 7) nd rfl (by first | exact .inl rfl | exact .inr rfl)) rfl
  (ss_one (s_for (passes_of rfl) rfl (i_seq (x_var (i := 2) rfl (by first | exact .inl rfl | exact .inr (.inl rfl) | exact .inr (.inr rfl)))) (g_name (i := 11) nd rfl (by first | exact .inl rfl | exact .inr rfl)) rfl
  (ss_one (s_if (o_not (o_val (x_tree (x_call (ok__law_pair T) (hr.mono (by decide)) tk rfl T.g__law_pair T.F__law_pair.kp (bd__law_pair T.F__law_pair) (x_cons (x_var (i := 7) rfl (by first | exact .inl rfl | exact .inr (.inl rfl) | exact .inr (.inr rfl))) (x_cons (x_var (i := 11) rfl (by first | exact .inl rfl | exact .inr (.inl rfl) | exact .inr (.inr rfl))) x_nil))))))
  (ss_one (s_ret (x_val x_bl)))
  ss_nil)))))
  (ss_cons (s_asg (x_tree (x_call (ok__law_number T) (hr.mono (by decide)) tk rfl T.g__law_number T.F__law_number.kp (bd__law_number T.F__law_number) (x_cons x_str (x_cons (x_ixV (i := 2) rfl (by first | exact .inl rfl | exact .inr (.inl rfl) | exact .inr (.inr rfl)) x_int (fun _ _ => rfl)) (x_cons (x_ixV (i := 2) rfl (by first | exact .inl rfl | exact .inr (.inl rfl) | exact .inr (.inr rfl)) x_int (fun _ _ => rfl)) x_nil))))) (g_tup rfl (gs_cons (g_name (i := 5) nd rfl (by first | exact .inl rfl | exact .inr rfl)) (gs_cons (g_name (i := 6) nd rfl (by first | exact .inl rfl | exact .inr rfl)) gs_nil))) rfl)
  (ss_cons (s_if (o_not (o_val (x_tree (x_call (ok__law_stands T) (hr.mono (by decide)) tk rfl T.g__law_stands T.F__law_stands.kp (bd__law_stands T.F__law_stands) (x_cons (x_tree (x_callK (pm := [1, 0]) (ok_minus T) (hr.mono (by decide)) tk rfl T.g_minus T.F_minus.kp (kb_minus_1_0 T.F_minus) (k_cons (x_ixV (i := 2) rfl (by first | exact .inl rfl | exact .inr (.inl rfl) | exact .inr (.inr rfl)) x_int (fun _ _ => rfl)) (k_cons (x_ixV (i := 2) rfl (by first | exact .inl rfl | exact .inr (.inl rfl) | exact .inr (.inr rfl)) x_int (fun _ _ => rfl)) k_nil)))) (x_cons (x_var (i := 5) rfl (by first | exact .inl rfl | exact .inr (.inl rfl) | exact .inr (.inr rfl))) (x_cons (x_var (i := 6) rfl (by first | exact .inl rfl | exact .inr (.inl rfl) | exact .inr (.inr rfl))) x_nil)))))))
  (ss_one (s_ret (x_val x_bl)))
  ss_nil)
  (ss_cons (s_if (o_not (o_val (x_tree (x_call (ok__law_stands T) (hr.mono (by decide)) tk rfl T.g__law_stands T.F__law_stands.kp (bd__law_stands T.F__law_stands) (x_cons (x_tree (x_callK (pm := [1, 0]) (ok_minus T) (hr.mono (by decide)) tk rfl T.g_minus T.F_minus.kp (kb_minus_1_0 T.F_minus) (k_cons (x_tup (x_cons x_int (x_cons x_int x_nil))) (k_cons (x_tree (x_callK (pm := [1, 0]) (ok_times T) (hr.mono (by decide)) tk rfl T.g_times T.F_times.kp (kb_times_1_0 T.F_times) (k_cons (x_ixV (i := 2) rfl (by first | exact .inl rfl | exact .inr (.inl rfl) | exact .inr (.inr rfl)) x_int (fun _ _ => rfl)) (k_cons (x_tup (x_cons x_int (x_cons x_int x_nil))) k_nil)))) k_nil)))) (x_cons (x_tree (x_ix (ix_list.or ix_tup) f_ix (x_ixV (i := 2) rfl (by first | exact .inl rfl | exact .inr (.inl rfl) | exact .inr (.inr rfl)) x_int (fun _ _ => rfl)) x_int (fun _ _ => rfl))) (x_cons (x_tree (x_ix (ix_list.or ix_tup) f_ix (x_ixV (i := 2) rfl (by first | exact .inl rfl | exact .inr (.inl rfl) | exact .inr (.inr rfl)) x_int (fun _ _ => rfl)) x_int (fun _ _ => rfl))) x_nil)))))))
  (ss_one (s_ret (x_val x_bl)))
  ss_nil)
  (ss_cons (s_if (o_not (o_val (x_tree (x_call (ok__law_stands T) (hr.mono (by decide)) tk rfl T.g__law_stands T.F__law_stands.kp (bd__law_stands T.F__law_stands) (x_cons (x_tree (x_callK (pm := [1, 0]) (ok_plus T) (hr.mono (by decide)) tk rfl T.g_plus T.F_plus.kp (kb_plus_1_0 T.F_plus) (k_cons (x_tree (x_callK (pm := [1, 0]) (ok_over T) (hr.mono (by decide)) tk rfl T.g_over T.F_over.kp (kb_over_1_0 T.F_over) (k_cons (x_tup (x_cons x_int (x_cons x_int x_nil))) (k_cons (x_ixV (i := 2) rfl (by first | exact .inl rfl | exact .inr (.inl rfl) | exact .inr (.inr rfl)) x_int (fun _ _ => rfl)) k_nil)))) (k_cons (x_tup (x_cons x_int (x_cons x_int x_nil))) k_nil)))) (x_cons (x_tree (x_ix (ix_list.or ix_tup) f_ix (x_ixV (i := 2) rfl (by first | exact .inl rfl | exact .inr (.inl rfl) | exact .inr (.inr rfl)) x_int (fun _ _ => rfl)) x_int (fun _ _ => rfl))) (x_cons (x_tree (x_ix (ix_list.or ix_tup) f_ix (x_ixV (i := 2) rfl (by first | exact .inl rfl | exact .inr (.inl rfl) | exact .inr (.inr rfl)) x_int (fun _ _ => rfl)) x_int (fun _ _ => rfl))) x_nil)))))))
  (ss_one (s_ret (x_val x_bl)))
  ss_nil)
  (ss_cons (s_if (PW.pt (o_or (o_cmp op_isGN f_isN (x_tree (x_callK (pm := [1, 0]) (ok_less T) (hr.mono (by decide)) tk rfl T.g_less T.F_less.kp (kb_less_1_0 T.F_less) (k_cons (x_tup (x_cons x_int (x_cons x_int x_nil))) (k_cons (x_tup (x_cons x_int (x_cons x_int x_nil))) k_nil)))) x_bl (nomark _)) (o_or1 (o_cmp op_isGN f_isN (x_tree (x_callK (pm := [1, 0]) (ok_less T) (hr.mono (by decide)) tk rfl T.g_less T.F_less.kp (kb_less_1_0 T.F_less) (k_cons (x_tup (x_cons x_int (x_cons x_int x_nil))) (k_cons (x_tup (x_cons x_int (x_cons x_int x_nil))) k_nil)))) x_bl (nomark _)))))
  (ss_one (s_ret (x_val x_bl)))
  ss_nil)
  (ss_cons (s_if (o_not (o_val (x_tree (x_callP (i := 1) (ok__law_chain T) (hr.mono (by decide)) tk rfl T.g__law_chain T.F__law_chain.kp (bd__law_chain T.F__law_chain) rfl (by first | exact .inl rfl | exact .inr (.inl rfl) | exact .inr (.inr rfl)) (x_cons (x_ixV (i := 2) rfl (by first | exact .inl rfl | exact .inr (.inl rfl) | exact .inr (.inr rfl)) x_int (fun _ _ => rfl)) x_nil)))))
  (ss_one (s_ret (x_val x_bl)))
  ss_nil)
  (ss_cons (s_set (i := 8) nd rfl (by first | exact .inl rfl | exact .inr rfl) rfl (x_ix (ix_list.or ix_tup) f_ix (x_tree (x_lst (x_cons x_int (x_cons x_int (x_cons x_int (x_cons x_int (x_cons x_int (x_cons x_int (x_cons x_int (x_cons x_int x_nil)))))))))) (x_tree (x_callP (i := 1) (ok__law_take T) (hr.mono (by decide)) tk rfl T.g__law_take T.F__law_take.kp (bd__law_take T.F__law_take) rfl (by first | exact .inl rfl | exact .inr (.inl rfl) | exact .inr (.inr rfl)) (x_cons x_int x_nil))) (fun _ _ => rfl)))
  (ss_cons (s_set (i := 9) nd rfl (by first | exact .inl rfl | exact .inr rfl) rfl (x_callP (i := 1) (ok__law_joined T) (hr.mono (by decide)) tk rfl T.g__law_joined T.F__law_joined.kp (bd__law_joined T.F__law_joined) rfl (by first | exact .inl rfl | exact .inr (.inl rfl) | exact .inr (.inr rfl)) (x_cons (x_var (i := 8) rfl (by first | exact .inl rfl | exact .inr (.inl rfl) | exact .inr (.inr rfl))) x_nil)))
  (ss_cons (s_set (i := 10) nd rfl (by first | exact .inl rfl | exact .inr rfl) rfl (x_callP (i := 1) (ok__law_joined T) (hr.mono (by decide)) tk rfl T.g__law_joined T.F__law_joined.kp (bd__law_joined T.F__law_joined) rfl (by first | exact .inl rfl | exact .inr (.inl rfl) | exact .inr (.inr rfl)) (x_cons (x_var (i := 8) rfl (by first | exact .inl rfl | exact .inr (.inl rfl) | exact .inr (.inr rfl))) x_nil)))
  (ss_cons (s_if (o_cmp (op_eq.or (op_eqD hu)) f_eq (x_tree (x_callP (i := 1) (ok__law_take T) (hr.mono (by decide)) tk rfl T.g__law_take T.F__law_take.kp (bd__law_take T.F__law_take) rfl (by first | exact .inl rfl | exact .inr (.inl rfl) | exact .inr (.inr rfl)) (x_cons x_int x_nil))) x_int (nomark _))
  (ss_one (s_set (i := 10) nd rfl (by first | exact .inl rfl | exact .inr rfl) rfl (x_val (x_var (i := 9) rfl (by first | exact .inl rfl | exact .inr (.inl rfl) | exact .inr (.inr rfl))))))
  ss_nil)
  (ss_cons (s_if (PW.pt (o_or (o_not (o_val (x_tree (x_callP (i := 1) (ok__law_blocks T) (hr.mono (by decide)) tk rfl T.g__law_blocks T.F__law_blocks.kp (bd__law_blocks T.F__law_blocks) rfl (by first | exact .inl rfl | exact .inr (.inl rfl) | exact .inr (.inr rfl)) (x_cons (x_var (i := 8) rfl (by first | exact .inl rfl | exact .inr (.inl rfl) | exact .inr (.inr rfl))) (x_cons (x_var (i := 9) rfl (by first | exact .inl rfl | exact .inr (.inl rfl) | exact .inr (.inr rfl))) x_nil)))))) (o_or1 (o_not (o_val (x_tree (x_callP (i := 1) (ok__law_blocks T) (hr.mono (by decide)) tk rfl T.g__law_blocks T.F__law_blocks.kp (bd__law_blocks T.F__law_blocks) rfl (by first | exact .inl rfl | exact .inr (.inl rfl) | exact .inr (.inr rfl)) (x_cons (x_var (i := 8) rfl (by first | exact .inl rfl | exact .inr (.inl rfl) | exact .inr (.inr rfl))) (x_cons (x_var (i := 10) rfl (by first | exact .inl rfl | exact .inr (.inl rfl) | exact .inr (.inr rfl))) x_nil)))))))))
  (ss_one (s_ret (x_val x_bl)))
  ss_nil)
  (ss_cons (s_if (o_not (o_val (x_tree (x_call (ok__law_both T) (hr.mono (by decide)) tk rfl T.g__law_both T.F__law_both.kp (bd__law_both T.F__law_both) (x_cons (x_var (i := 8) rfl (by first | exact .inl rfl | exact .inr (.inl rfl) | exact .inr (.inr rfl))) (x_cons (x_var (i := 9) rfl (by first | exact .inl rfl | exact .inr (.inl rfl) | exact .inr (.inr rfl))) (x_cons (x_var (i := 10) rfl (by first | exact .inl rfl | exact .inr (.inl rfl) | exact .inr (.inr rfl))) x_nil)))))))
  (ss_one (s_ret (x_val x_bl)))
  ss_nil)
  (ss_one (s_ret (x_val (x_and (x_tree (x_call (ok__law_listed T) (hr.mono (by decide)) tk rfl T.g__law_listed T.F__law_listed.kp (bd__law_listed T.F__law_listed) (x_cons (x_tree (x_callP (i := 1) (ok__law_take T) (hr.mono (by decide)) tk rfl T.g__law_take T.F__law_take.kp (bd__law_take T.F__law_take) rfl (by first | exact .inl rfl | exact .inr (.inl rfl) | exact .inr (.inr rfl)) (x_cons x_int x_nil))) x_nil))) (x_one (x_tree (x_call (ok__law_listed T) (hr.mono (by decide)) tk rfl T.g__law_listed T.F__law_listed.kp (bd__law_listed T.F__law_listed) (x_cons x_int x_nil))))))))))))))))))))))))))))))))
end
end G
end
section
set_option Elab.async false
set_option linter.all false
set_option autoImplicit false
set_option maxRecDepth 100000
set_option maxHeartbeats 4000000
namespace G
open PySem PySem.Spec PyProof.Rows L2 TL
def saysT (r : Res RV) : Bool := match r with
  | .ok (.val (.bool true)) _ => true
  | _ => false
theorem says_is {r : Res RV} (h : saysT r = true) : Is r (.bool true) := by
  unfold saysT at h
  split at h
  · exact ⟨_, rfl⟩
  · cases h
theorem listed_ok {k : Int} (h0 : 0 ≤ k) (h1 : k < 6) : Is (D__law_listed [.val (.int k)]) (.bool true) := by
  have : k = 0 ∨ k = 1 ∨ k = 2 ∨ k = 3 ∨ k = 4 ∨ k = 5 := by omega
  rcases this with rfl | rfl | rfl | rfl | rfl | rfl
  · exact says_is (by decide +kernel)
  · exact says_is (by decide +kernel)
  · exact says_is (by decide +kernel)
  · exact says_is (by decide +kernel)
  · exact says_is (by decide +kernel)
  · exact says_is (by decide +kernel)
theorem refusals_ok : Is (D__law_refusals []) (.bool true) := says_is (by decide +kernel)
end G
end
section
set_option Elab.async false
set_option linter.all false
set_option autoImplicit false
set_option maxRecDepth 100000
set_option maxHeartbeats 2000000
namespace G
open PySem PySem.Spec PyProof.Rows L2 TL
/-! ### the pool -/
theorem take_ok {b : Int} (hb : 0 < b) : PL D__law_take [.val (.int b)] (Rg 0 b) := run_po rfl rfl fun ns => by
  show ∃ r ns' e, M__law_take [some (.own (pn ns)), some (.val (.int b))] = _ ∧ _
  rcases List.eq_nil_or_concat ns with rfl | ⟨ms, x, rfl⟩
  · exact ⟨.int 0, [], [some (.val (.int b))], rfl, 0, rfl, by omega, hb⟩
  · refine ⟨.int (x % b), ms, [some (.val (.int b))], ?_, _, rfl, Int.emod_nonneg _ (by omega), Int.emod_lt_of_pos _ hb⟩
    have e1 : pn (ms.concat x) = pn ms ++ [.int x] := by simp [pn]
    rw [e1]
    have hc : mTst (mTree (m2 fEq (mLenV 0) (mC (.int 0)))) [some (.own (pn ms ++ [.int x])), some (.val (.int b))] = .ok false [some (.own (pn ms ++ [.int x])), some (.val (.int b))] := by
      simp [runDef, List.replicate, mRet, mVal, mTree, mCall, mCons, mNil, mVar, mC, mSeq, mIfS, mNx, mNotT, mTst, mAndT, mOrT, mAndV, mOrV, mNotV, Res.bind, RV.tree, give, mAsg, gT, gN, gsCons, gsNil, mChainT, qLink, qLast, yes, asBool, m2, m1, mN, mTup, mSet, keepE, mLenV, peek, fEq, TL.same]
      omega
    unfold M__law_take
    rw [seq_if_f hc]
    simp [mRet, m2, mTree, mN, mCons, mNil, mPop, mVar, Res.bind, fInt, fMod, give, RV.tree, hb]
theorem loopG : ∀ (f k : Nat) (ns : List Int) (v : Int) (x2 : Option RV), 0 ≤ v → v.natAbs < 1000 ^ k → k + f ≤ 10 → ∃ ns' w y2, mLoop (gN 2) (mSet 1 (m2 fAdd (mTree (m2 fMul (mVar 1) (mC (.int 1000)))) (mTree (mCallP D__law_take 0 (mCons (mC (.int 1000)) mNil))))) (rngT (k : Int) f) [some (.own (pn ns)), some (.val (.int v)), x2]
    = .ok .nx [some (.own (pn ns')), some (.val (.int w)), y2] ∧ 0 ≤ w ∧ w.natAbs < 1000 ^ (k + f)
  | 0, k, ns, v, x2, h0, h1, _ => ⟨ns, v, x2, rfl, h0, h1⟩
  | f + 1, k, ns, v, x2, h0, h1, hk => by
    obtain ⟨r, ns1, hc, i, rfl, hi0, hi1⟩ := callP (take_ok (b := 1000) (by decide)) (ts := [.int 1000]) (i := 0) (ms := mCons (mC (.int 1000)) mNil) (e := [some (.own (pn ns)), some (.val (.int v)), some (.val (.int (k : Int)))]) (ns := ns) rfl rfl
    have hs : small v = true := by
      unfold small
      rw [decide_eq_true_iff]
      have hv : v.natAbs < 2 ^ 110 := by
        have h2 : 1000 ^ k ≤ 1000 ^ 10 := Nat.pow_le_pow_right (by decide) (by omega)
        have h3 : 1000 ^ 10 < 2 ^ 110 := by decide
        omega
      by_cases hz : v.natAbs = 0
      · rw [hz]; decide
      · have := (Nat.log2_lt hz).mpr hv
        omega
    have st : mSet 1 (m2 fAdd (mTree (m2 fMul (mVar 1) (mC (.int 1000)))) (mTree (mCallP D__law_take 0 (mCons (mC (.int 1000)) mNil)))) [some (.own (pn ns)), some (.val (.int v)), some (.val (.int (k : Int)))]
        = .ok .nx [some (.own (pn ns1)), some (.val (.int (v * 1000 + i))), some (.val (.int (k : Int)))] := by
      have hs2 : small 1000 = true := by decide
      have hm : mTree (m2 fMul (mVar 1) (mC (.int 1000))) [some (.own (pn ns)), some (.val (.int v)), some (.val (.int (k : Int)))] = .ok (.int (v * 1000)) [some (.own (pn ns)), some (.val (.int v)), some (.val (.int (k : Int)))] := by
        simp [mTree, m2, mVar, mC, Res.bind, fMul, hs, hs2, give, RV.tree]
      have ht := tree_ok hc
      refine set_eq (e1 := [some (.own (pn ns1)), some (.val (.int v)), some (.val (.int (k : Int)))]) (r := .val (.int (v * 1000 + i))) ?_
      simp only [m2]
      rw [hm]
      simp only [Res.bind]
      rw [ht]
      rfl
    rw [rng_cons]
    have hp : 1000 ^ (k + 1) = 1000 ^ k * 1000 := Nat.pow_succ _ _
    obtain ⟨ns', w, y2, ih, g0, g1⟩ := loopG f (k + 1) ns1 (v * 1000 + i) (some (.val (.int (k : Int)))) (by omega) (by omega) (by omega)
    refine ⟨ns', w, y2, ?_, g0, by rwa [show k + (f + 1) = k + 1 + f by omega]⟩
    unfold mLoop
    simp only [gN, List.set]
    rw [st]
    simpa using ih
theorem great_ok : PL D__law_great [] (Rg 0 1000000000000) := run_po rfl rfl fun ns => by
  obtain ⟨ns', w, y2, hl, h0, h1⟩ := loopG 4 0 ns 0 none (by decide) (by decide) (by decide)
  have hf : mFor (mRng (mCons (mC (.int 4)) mNil)) (gN 2) (mSet 1 (m2 fAdd (mTree (m2 fMul (mVar 1) (mC (.int 1000)))) (mTree (mCallP D__law_take 0 (mCons (mC (.int 1000)) mNil))))) [some (.own (pn ns)), some (.val (.int 0)), none] = _ := hl
  refine ⟨.int w, ns', [none, y2], ?_, w, rfl, h0, ?_⟩
  rotate_left
  · have h3 : 1000 ^ (0 + 4) = 1000000000000 := by decide
    omega
  exact (seq_set (e1 := [some (.own (pn ns)), none, none]) (r := .val (.int 0)) rfl).trans ((seq_nx hf).trans (ret_eq rfl))
def bodyI : Ms := (mSeq (mIfS (mTst (mTree (m2 fEq (mVar 5) (mC (.int 0)))))
  (fun e => .ok .bk e)
  mNx)
  (mSeq (mDrop (mApp 1 (mTree (m2 fMod (mTree (mN fInt (mCons (mVar 5) mNil))) (mC (.int 1013))))))
  (mSet 5 (m2 fDiv (mVar 5) (mC (.int 1013))))))
def bodyO : Ms := (mSeq (mSet 2 (m2 fMod (mTree (mN fInt (mCons (mTree (m2 fAdd (mTree (m2 fAdd (mTree (m2 fMul (mVar 2) (mC (.int 40692)))) (mTree (m2 fMod (mTree (mN fInt (mCons (mVar 3) mNil))) (mC (.int 2147483587)))))) (mC (.int 11)))) mNil))) (mC (.int 2147483399))))
  (mIfS (mTst (mTree (m2 fLt (mLenV 1) (mC (.int 100)))))
  (mIfS (mTst (mTree (m2 fGe (mVar 3) (mTree (m2 fPow (mC (.int 10)) (mC (.int 18)))))))
  (mSeq (mSet 5 (mVal (mVar 3)))
  (mFor (mRng (mCons (mC (.int 60)) mNil)) (gN 4)
  bodyI))
  (mDrop (mApp 1 (mTree (m2 fMod (mTree (mN fInt (mCons (mTree (m2 fAdd (mTree (m2 fMul (mTree (m2 fDiv (mVar 2) (mC (.int 7)))) (mC (.int 40014)))) (mVar 2))) mNil))) (mC (.int 1000033)))))))
  mNx))
def bodyT : Ms := (mSeq (mSet 2 (m2 fMod (mTree (mN fInt (mCons (mTree (m2 fAdd (mTree (m2 fAdd (mTree (m2 fMul (mVar 2) (mC (.int 40014)))) (mC (.int 70001)))) (mVar 4))) mNil))) (mC (.int 2147483563))))
  (mDrop (mApp 1 (mTree (m2 fMod (mTree (mN fInt (mCons (mTree (m2 fAdd (mTree (m2 fMul (mTree (m2 fDiv (mVar 2) (mC (.int 13)))) (mVar 2))) (mTree (m2 fDiv (mVar 2) (mC (.int 5)))))) mNil))) (mC (.int 999979)))))))
def Mpool : Ms := (mSeq (mSet 1 (mLst mNil))
  (mSeq (mIfS (mTst (mTree (m2 fEq (mLenV 0) (mC (.int 0)))))
  (mRet (mTake 1))
  mNx)
  (mSeq (mSet 2 (mVal (mC (.int 31607))))
  (mSeq (mFor (mSeq1 (mVar 0)) (gN 3)
  bodyO)
  (mSeq (mFor (mRng (mCons (mC (.int 130)) mNil)) (gN 4)
  bodyT)
  (mRet (m1 fRev (mVar 1))))))))
theorem Mpool_eq : M__law_pool = Mpool := rfl
theorem stepI {s c3 k4 : Option RV} {xs : List Int} {st : Option RV} {l : Int} (hx : xs.length < 1000) : bodyI [s, some (.own (pn xs)), st, c3, k4, some (.val (.int l))] = (if l = 0 then .ok .bk [s, some (.own (pn xs)), st, c3, k4, some (.val (.int l))] else .ok .nx [s, some (.own (pn (xs ++ [l % 1013]))), st, c3, k4, some (.val (.int (l / 1013)))]) := by
  have hl : (pn xs).length < 100000 := by rw [len_pn]; omega
  have hs : small 1013 = true := by decide
  by_cases h : l = 0
  · subst h
    rw [if_pos rfl]
    rfl
  · rw [if_neg h]
    simp [runDef, List.replicate, mRet, mVal, mTree, mCall, mCons, mNil, mVar, mC, mSeq, mIfS, mNx, mNotT, mTst, mAndT, mOrT, mAndV, mOrV, mNotV, Res.bind, RV.tree, give, mAsg, gT, gN, gsCons, gsNil, mChainT, qLink, qLast, yes, asBool, m2, m1, mN, mTup, mSet, keepE, bodyI, fEq, TL.same, h, mDrop, mApp, fInt, fMod, fDiv, hl, hs, app_pn]
theorem loopI {s c3 st : Option RV} : ∀ (f : Nat) (lo : Int) (xs : List Int) (k4 : Option RV) (l : Int), xs.length + f < 1000 → ∃ xs' y4 y5, mLoop (gN 4) bodyI (rngT lo f) [s, some (.own (pn xs)), st, c3, k4, some (.val (.int l))] = .ok .nx [s, some (.own (pn xs')), st, c3, y4, y5] ∧ xs'.length ≤ xs.length + f
  | 0, lo, xs, k4, l, h => ⟨xs, k4, _, rfl, by omega⟩
  | f + 1, lo, xs, k4, l, h => by
    rw [rng_cons]
    unfold mLoop
    simp only [gN, List.set]
    rw [stepI (by omega)]
    by_cases hl : l = 0
    · rw [if_pos hl]
      exact ⟨xs, _, _, rfl, by omega⟩
    · rw [if_neg hl]
      obtain ⟨xs', y4, y5, ih, g⟩ := loopI (s := s) (c3 := c3) (st := st) f (lo + 1) (xs ++ [l % 1013]) (some (.val (.int lo))) (l / 1013) (by simp; omega)
      exact ⟨xs', y4, y5, ih, by simp at g; omega⟩
theorem small_st {n : Int} (h0 : 0 ≤ n) (h : n < 2147483648) : small n = true := by
  unfold small
  rw [decide_eq_true_iff]
  have hv : n.natAbs < 2 ^ 31 := by omega
  by_cases hz : n.natAbs = 0
  · rw [hz]; decide
  · have := (Nat.log2_lt hz).mpr hv
    omega
theorem stepO {s k4 l5 : Option RV} {xs : List Int} {st c : Int} (hx : xs.length ≤ 180) (h0 : 0 ≤ st) (h1 : st < 2147483647) : ∃ xs' st' y4 y5, bodyO [s, some (.own (pn xs)), some (.val (.int st)), some (.val (.int c)), k4, l5] = .ok .nx [s, some (.own (pn xs')), some (.val (.int st')), some (.val (.int c)), y4, y5] ∧ xs'.length ≤ 180 ∧ 0 ≤ st' ∧ st' < 2147483647 := by
  have a0 : 0 ≤ (st * 40692 + c % 2147483587 + 11) % 2147483399 := Int.emod_nonneg _ (by decide)
  have a1 : (st * 40692 + c % 2147483587 + 11) % 2147483399 < 2147483647 := Int.lt_trans (Int.emod_lt_of_pos _ (by decide)) (by decide)
  generalize hst : (st * 40692 + c % 2147483587 + 11) % 2147483399 = st' at a0 a1
  have hs := small_st h0 (by omega : st < 2147483648)
  have hs2 : small 40692 = true := by decide
  have e2 : m2 fMod (mTree (mN fInt (mCons (mTree (m2 fAdd (mTree (m2 fAdd (mTree (m2 fMul (mVar 2) (mC (.int 40692)))) (mTree (m2 fMod (mTree (mN fInt (mCons (mVar 3) mNil))) (mC (.int 2147483587)))))) (mC (.int 11)))) mNil))) (mC (.int 2147483399)) [s, some (.own (pn xs)), some (.val (.int st)), some (.val (.int c)), k4, l5]
      = .ok (.val (.int st')) [s, some (.own (pn xs)), some (.val (.int st)), some (.val (.int c)), k4, l5] := by
    simp [m2, mN, mTree, mCons, mNil, mVar, mC, Res.bind, fMul, fMod, fInt, fAdd, hs, hs2, give, RV.tree, hst]
  unfold bodyO
  rw [seq_set e2]
  simp only [List.set]
  by_cases hlen : xs.length < 100
  · have c1 : mTst (mTree (m2 fLt (mLenV 1) (mC (.int 100)))) [s, some (.own (pn xs)), some (.val (.int st')), some (.val (.int c)), k4, l5] = .ok true [s, some (.own (pn xs)), some (.val (.int st')), some (.val (.int c)), k4, l5] := by
      have : (xs.length : Int) < 100 := by omega
      simp [runDef, List.replicate, mRet, mVal, mTree, mCall, mCons, mNil, mVar, mC, mSeq, mIfS, mNx, mNotT, mTst, mAndT, mOrT, mAndV, mOrV, mNotV, Res.bind, RV.tree, give, mAsg, gT, gN, gsCons, gsNil, mChainT, qLink, qLast, yes, asBool, m2, m1, mN, mTup, mSet, keepE, mLenV, peek, fCmp, len_pn, this]
    by_cases hc : (1000000000000000000 : Int) ≤ c
    · have c2 : mTst (mTree (m2 fGe (mVar 3) (mTree (m2 fPow (mC (.int 10)) (mC (.int 18)))))) [s, some (.own (pn xs)), some (.val (.int st')), some (.val (.int c)), k4, l5] = .ok true [s, some (.own (pn xs)), some (.val (.int st')), some (.val (.int c)), k4, l5] := by
        simp [runDef, List.replicate, mRet, mVal, mTree, mCall, mCons, mNil, mVar, mC, mSeq, mIfS, mNx, mNotT, mTst, mAndT, mOrT, mAndV, mOrV, mNotV, Res.bind, RV.tree, give, mAsg, gT, gN, gsCons, gsNil, mChainT, qLink, qLast, yes, asBool, m2, m1, mN, mTup, mSet, keepE, fCmp, fPow, hc]
      obtain ⟨xs', y4, y5, hl, g⟩ := loopI (s := s) (c3 := some (.val (.int c))) (st := some (.val (.int st'))) 60 0 xs k4 c (by omega)
      refine ⟨xs', st', y4, y5, ?_, by omega, a0, a1⟩
      simp only [mIfS, c1, Res.bind, if_true, c2]
      rw [seq_set (i := 5) (m := mVal (mVar 3)) (e1 := [s, some (.own (pn xs)), some (.val (.int st')), some (.val (.int c)), k4, l5]) (r := .val (.int c)) rfl]
      simp only [List.set]
      exact hl
    · have c2 : mTst (mTree (m2 fGe (mVar 3) (mTree (m2 fPow (mC (.int 10)) (mC (.int 18)))))) [s, some (.own (pn xs)), some (.val (.int st')), some (.val (.int c)), k4, l5] = .ok false [s, some (.own (pn xs)), some (.val (.int st')), some (.val (.int c)), k4, l5] := by
        simp [runDef, List.replicate, mRet, mVal, mTree, mCall, mCons, mNil, mVar, mC, mSeq, mIfS, mNx, mNotT, mTst, mAndT, mOrT, mAndV, mOrV, mNotV, Res.bind, RV.tree, give, mAsg, gT, gN, gsCons, gsNil, mChainT, qLink, qLast, yes, asBool, m2, m1, mN, mTup, mSet, keepE, fCmp, fPow, hc]
      have hl : (pn xs).length < 100000 := by rw [len_pn]; omega
      have hs5 : small 7 = true := by decide
      have hs6 : small 40014 = true := by decide
      have hd : small (st' / 7) = true := small_st (Int.ediv_nonneg a0 (by decide)) (by omega)
      refine ⟨xs ++ [(st' / 7 * 40014 + st') % 1000033], st', k4, l5, ?_, by simp; omega, a0, a1⟩
      simp only [mIfS, c1, Res.bind, if_true, c2]
      simp [mDrop, mApp, m2, mN, mTree, mCons, mNil, mVar, mC, Res.bind, fMul, fMod, fInt, fAdd, fDiv, hs5, hs6, hd, give, RV.tree, hl, app_pn]
  · have c1 : mTst (mTree (m2 fLt (mLenV 1) (mC (.int 100)))) [s, some (.own (pn xs)), some (.val (.int st')), some (.val (.int c)), k4, l5] = .ok false [s, some (.own (pn xs)), some (.val (.int st')), some (.val (.int c)), k4, l5] := by
      have : ¬ (xs.length : Int) < 100 := by omega
      simp [runDef, List.replicate, mRet, mVal, mTree, mCall, mCons, mNil, mVar, mC, mSeq, mIfS, mNx, mNotT, mTst, mAndT, mOrT, mAndV, mOrV, mNotV, Res.bind, RV.tree, give, mAsg, gT, gN, gsCons, gsNil, mChainT, qLink, qLast, yes, asBool, m2, m1, mN, mTup, mSet, keepE, mLenV, peek, fCmp, len_pn, this]
    refine ⟨xs, st', k4, l5, ?_, hx, a0, a1⟩
    simp [mIfS, c1, Res.bind, mNx]
theorem loopO {s : Option RV} : ∀ (cs : List Int) (xs : List Int) (st : Int) (c3 k4 l5 : Option RV), xs.length ≤ 180 → 0 ≤ st → st < 2147483647 → ∃ xs' st' y3 y4 y5, mLoop (gN 3) bodyO (pn cs) [s, some (.own (pn xs)), some (.val (.int st)), c3, k4, l5] = .ok .nx [s, some (.own (pn xs')), some (.val (.int st')), y3, y4, y5] ∧ xs'.length ≤ 180 ∧ 0 ≤ st' ∧ st' < 2147483647
  | [], xs, st, c3, k4, l5, h, h0, h1 => ⟨xs, st, c3, k4, l5, rfl, h, h0, h1⟩
  | c :: cs, xs, st, c3, k4, l5, h, h0, h1 => by
    obtain ⟨xs1, st1, y4, y5, hs, g, g0, g1⟩ := stepO (s := s) (k4 := k4) (l5 := l5) (c := c) h h0 h1
    obtain ⟨xs', st', z3, z4, z5, ih, r⟩ := loopO (s := s) cs xs1 st1 (some (.val (.int c))) y4 y5 g g0 g1
    refine ⟨xs', st', z3, z4, z5, ?_, r⟩
    show mLoop (gN 3) bodyO (.int c :: pn cs) _ = _
    unfold mLoop
    simp only [gN, List.set]
    rw [hs]
    exact ih
theorem stepT {s c3 l5 : Option RV} {xs : List Int} {st k : Int} (hx : xs.length < 1000) (h0 : 0 ≤ st) (h1 : st < 2147483647) : ∃ x st', bodyT [s, some (.own (pn xs)), some (.val (.int st)), c3, some (.val (.int k)), l5] = .ok .nx [s, some (.own (pn (xs ++ [x]))), some (.val (.int st')), c3, some (.val (.int k)), l5] ∧ 0 ≤ st' ∧ st' < 2147483647 := by
  have a0 : 0 ≤ (st * 40014 + 70001 + k) % 2147483563 := Int.emod_nonneg _ (by decide)
  have a1 : (st * 40014 + 70001 + k) % 2147483563 < 2147483647 := Int.lt_trans (Int.emod_lt_of_pos _ (by decide)) (by decide)
  generalize hst : (st * 40014 + 70001 + k) % 2147483563 = st' at a0 a1
  have hs := small_st h0 (by omega : st < 2147483648)
  have hs1 := small_st a0 (by omega : st' < 2147483648)
  have hs2 : small 40014 = true := by decide
  have hs3 : small 13 = true := by decide
  have hs4 : small 5 = true := by decide
  have hd : small (st' / 13) = true := small_st (Int.ediv_nonneg a0 (by decide)) (by omega)
  have hl : (pn xs).length < 100000 := by rw [len_pn]; omega
  have e2 : m2 fMod (mTree (mN fInt (mCons (mTree (m2 fAdd (mTree (m2 fAdd (mTree (m2 fMul (mVar 2) (mC (.int 40014)))) (mC (.int 70001)))) (mVar 4))) mNil))) (mC (.int 2147483563)) [s, some (.own (pn xs)), some (.val (.int st)), c3, some (.val (.int k)), l5]
      = .ok (.val (.int st')) [s, some (.own (pn xs)), some (.val (.int st)), c3, some (.val (.int k)), l5] := by
    simp [m2, mN, mTree, mCons, mNil, mVar, mC, Res.bind, fMul, fMod, fInt, fAdd, hs, hs2, give, RV.tree, hst]
  refine ⟨(st' / 13 * st' + st' / 5) % 999979, st', ?_, a0, a1⟩
  unfold bodyT
  rw [seq_set e2]
  simp only [List.set]
  simp [mDrop, mApp, m2, mN, mTree, mCons, mNil, mVar, mC, Res.bind, fMul, fMod, fInt, fAdd, fDiv, hs1, hs3, hs4, hd, give, RV.tree, hl, app_pn]
theorem loopT {s c3 l5 : Option RV} : ∀ (f : Nat) (lo : Int) (xs : List Int) (st : Int) (k4 : Option RV), xs.length + f < 1000 → 0 ≤ st → st < 2147483647 → ∃ xs' st' y4, mLoop (gN 4) bodyT (rngT lo f) [s, some (.own (pn xs)), some (.val (.int st)), c3, k4, l5] = .ok .nx [s, some (.own (pn xs')), some (.val (.int st')), c3, y4, l5]
  | 0, lo, xs, st, k4, h, h0, h1 => ⟨xs, st, k4, rfl⟩
  | f + 1, lo, xs, st, k4, h, h0, h1 => by
    obtain ⟨x, st1, hs, g0, g1⟩ := stepT (s := s) (c3 := c3) (l5 := l5) (k := lo) (xs := xs) (by omega) h0 h1
    obtain ⟨xs', st', y4, ih⟩ := loopT (s := s) (c3 := c3) (l5 := l5) f (lo + 1) (xs ++ [x]) st1 (some (.val (.int lo))) (by simp; omega) g0 g1
    refine ⟨xs', st', y4, ?_⟩
    rw [rng_cons]
    unfold mLoop
    simp only [gN, List.set]
    rw [hs]
    exact ih
theorem pool_ok (ns : List Int) (hn : ns.length ≤ 63) : ∃ xs e, D__law_pool [.val (scrT ns)] = .ok (.own (pn xs)) e := by
  have key : ∃ xs e, M__law_pool [some (.val (scrT ns)), none, none, none, none, none] = .ok (.rt (.own (pn xs))) e := by
    rw [Mpool_eq]
    unfold Mpool
    rw [seq_set (i := 1) (m := mLst mNil) (e1 := [some (.val (scrT ns)), none, none, none, none, none]) (r := .own []) rfl]
    simp only [List.set]
    have c0 : mTst (mTree (m2 fEq (mLenV 0) (mC (.int 0)))) [some (.val (scrT ns)), some (.own []), none, none, none, none] = .ok (decide (ns.length = 0)) [some (.val (scrT ns)), some (.own []), none, none, none, none] := by
      simp [runDef, List.replicate, mRet, mVal, mTree, mCall, mCons, mNil, mVar, mC, mSeq, mIfS, mNx, mNotT, mTst, mAndT, mOrT, mAndV, mOrV, mNotV, Res.bind, RV.tree, give, mAsg, gT, gN, gsCons, gsNil, mChainT, qLink, qLast, yes, asBool, m2, m1, mN, mTup, mSet, keepE, mLenV, peek, items_scr, fEq, TL.same, len_pn]
    by_cases h : ns.length = 0
    · rw [decide_eq_true h] at c0
      exact ⟨[], [some (.val (scrT ns)), none, none, none, none, none], seq_if_t c0 (ret_eq rfl)⟩
    · rw [decide_eq_false h] at c0
      rw [seq_if_f c0, seq_set (i := 2) (m := mVal (mC (.int 31607))) (e1 := [some (.val (scrT ns)), some (.own []), none, none, none, none]) (r := .val (.int 31607)) rfl]
      simp only [List.set]
      obtain ⟨xs1, st1, y3, y4, y5, h1, g1, g2, g3⟩ := loopO (s := some (.val (scrT ns))) ns [] 31607 none none none (by decide) (by decide) (by decide)
      obtain ⟨xs2, st2, y6, h2⟩ := loopT (s := some (.val (scrT ns))) (c3 := y3) (l5 := y5) 130 0 xs1 st1 y4 (by omega) g2 g3
      have f1 : mFor (mSeq1 (mVar 0)) (gN 3) bodyO [some (.val (scrT ns)), some (.own []), some (.val (.int 31607)), none, none, none] = .ok .nx [some (.val (scrT ns)), some (.own (pn xs1)), some (.val (.int st1)), y3, y4, y5] := by
        rw [← h1]
        simp only [mFor, mSeq1, mVar, Res.bind, List.getElem?_cons_zero, items_scr]
        rfl
      have f2 : mFor (mRng (mCons (mC (.int 130)) mNil)) (gN 4) bodyT [some (.val (scrT ns)), some (.own (pn xs1)), some (.val (.int st1)), y3, y4, y5] = _ := h2
      rw [seq_nx f1, seq_nx f2]
      refine ⟨xs2.reverse, _, ret_eq (e1 := [some (.val (scrT ns)), some (.val (.list (pn xs2))), some (.val (.int st2)), y3, y6, y5]) ?_⟩
      simp [m1, mVar, Res.bind, fRev, give, pn]
  obtain ⟨xs, e, h⟩ := key
  refine ⟨xs, keepE [0] 1 e, ?_⟩
  unfold D__law_pool runDef
  rw [if_pos (show [RV.val (scrT ns)].length = 1 from rfl)]
  rw [show M__law_pool (List.map some [RV.val (scrT ns)] ++ List.replicate (6 - 1) none) = _ from h]
end G
end
section
set_option Elab.async false
set_option linter.all false
set_option autoImplicit false
set_option maxRecDepth 100000
set_option maxHeartbeats 1000000
namespace G
open PySem PySem.Spec PyProof.Rows L2 TL
/-! ### small numbers; the quotients -/
def Q (x y : Int) : T := .tuple [.int x, .int y]
theorem sm {n : Int} (h : n.natAbs < 2 ^ 200) : small n = true := small_200 h
/-- a mirror's answer where nothing was changed -/
theorem is_integer_int (i : Int) : Is (D_is_integer [.val (.int i)]) (.bool true) := ⟨_, rfl⟩
theorem law_int_int (i : Int) : Is (D__law_int [.val (.int i)]) (.bool true) := ⟨_, rfl⟩
theorem is_positive_int {i : Int} (h : 1 ≤ i) : Is (D_is_positive [.val (.int i)]) (.bool true) := by
  refine run_ret (e := [some (.val (.int i))]) rfl ((and_t (call1 rfl (is_integer_int i))).trans ?_)
  show Res.ok (PyData.bool (decide (1 ≤ i))) _ = _
  rw [decide_eq_true h]
  rfl
theorem tup_of_two (a b : T) : Is (D_is_tuple_of [.val (.int 2), .val (.tuple [a, b])]) (.bool true) := ⟨_, rfl⟩
theorem need_t (s : Str) : Is (D_need [.val (.bool true), .val (.str s)]) .none := ⟨_, rfl⟩
/-- a quotient in lowest terms, not too long -/
def Low (x y : Int) : Prop := 1 ≤ y ∧ Nat.gcd x.natAbs y.natAbs = 1
theorem is_quotient_ok {x y : Int} (h : Low x y) : Is (D_is_quotient [.val (Q x y)]) (.bool true) := by
  have c1 : mNotT (mTst (mTree (mCall D_is_tuple_of (mCons (mC (.int 2)) (mCons (mVar 0) mNil))))) [some (.val (Q x y)), none, none] = .ok false [some (.val (Q x y)), none, none] :=
    notT_ok (tst_eq (call2 rfl rfl (tup_of_two _ _)))
  have c2 : mAsg (gT (gsCons (gN 1) (gsCons (gN 2) gsNil)) 2) (mVar 0) [some (.val (Q x y)), none, none] = .ok .nx [some (.val (Q x y)), some (.val (.int x)), some (.val (.int y))] := rfl
  have c3 : mTree (m2 fEq (mTree (mN fGcd (mCons (mVar 1) (mCons (mVar 2) mNil)))) (mC (.int 1))) [some (.val (Q x y)), some (.val (.int x)), some (.val (.int y))] = .ok (.bool true) [some (.val (Q x y)), some (.val (.int x)), some (.val (.int y))] := by
    show Res.ok (PyData.bool (decide ((Nat.gcd x.natAbs y.natAbs : Nat) = (1 : Int)))) _ = _
    rw [h.2]
    rfl
  exact run_body rfl ((seq_if_f c1).trans ((seq_nx c2).trans (ret_eq (val_ok ((and_t (call1 rfl (is_integer_int x))).trans ((and_t (call1 rfl (is_positive_int h.1))).trans c3))))))
theorem drop_eq {m : Mv} {r : RV} {e e1 : En} (h : m e = .ok r e1) : mDrop m e = .ok .nx e1 := by
  simp [mDrop, Res.bind, h]
theorem run_nx {n np : Nat} {keep : List Nat} {m : Ms} {args : List RV} {e : En} (hl : args.length = np) (h : m (args.map some ++ List.replicate (n - np) none) = .ok .nx e) : Is (runDef n np keep m args) .none := by
  unfold Is runDef
  rw [if_pos hl, h]
  exact ⟨_, rfl⟩
theorem need_both_ok {a b c d : Int} (h : Low a b) (h2 : Low c d) : Is (D_need_both [.val (Q a b), .val (Q c d)]) .none :=
  run_nx (e := [some (.val (Q a b)), some (.val (Q c d))]) rfl ((seq_nx (drop_eq (callV2 (call1 rfl (is_quotient_ok h)) rfl (need_t _)))).trans (drop_eq (callV2 (call1 rfl (is_quotient_ok h2)) rfl (need_t _))))
theorem natAbs_fdiv_le (a b : Int) (h : b ≠ 0) (hd : b ∣ a) : (a.fdiv b).natAbs ≤ a.natAbs ∧ a.fdiv b * b = a := by
  obtain ⟨k, rfl⟩ := hd
  rw [Int.mul_fdiv_cancel_left _ h, Int.natAbs_mul]
  refine ⟨Nat.le_mul_of_pos_left _ (by omega), Int.mul_comm _ _⟩
theorem dv_ok {m k : Mt} {i j : Int} {e e1 e2 : En} (h : m e = .ok (.int i) e1) (h2 : k e1 = .ok (.int j) e2) (h0 : j ≠ 0) (hs : small j = true) : mTree (m2 fDivG m k) e = .ok (.int (i.fdiv j)) e2 := by
  refine tree_ok (r := .val (.int (i.fdiv j))) ?_
  simp only [m2, h, h2, Res.bind, fDivG]
  rw [if_pos ⟨h0, hs⟩]
  rfl
theorem quotient_of_ok {h l : Int} (hh : h.natAbs < 2 ^ 200) (hl : l.natAbs < 2 ^ 200) (h0 : l ≠ 0) : ∃ x y, Is (D_quotient_of [.val (.int h), .val (.int l)]) (Q x y) ∧ Low x y ∧ x * l = h * y ∧ x.natAbs ≤ h.natAbs ∧ y.natAbs ≤ l.natAbs := by
  have g0 : Nat.gcd h.natAbs l.natAbs ≠ 0 := fun z => h0 (by have := Nat.eq_zero_of_gcd_eq_zero_right z; omega)
  have gle : Nat.gcd h.natAbs l.natAbs ≤ l.natAbs := Nat.le_of_dvd (by omega) (Nat.gcd_dvd_right _ _)
  generalize hc : (if l < 0 then -((Nat.gcd h.natAbs l.natAbs : Nat) : Int) else ((Nat.gcd h.natAbs l.natAbs : Nat) : Int)) = c
  have ca : c.natAbs = Nat.gcd h.natAbs l.natAbs := by
    rw [← hc]
    split <;> omega
  have c0 : c ≠ 0 := by omega
  have d1 : c ∣ h := Int.natAbs_dvd_natAbs.mp (by rw [ca]; exact Nat.gcd_dvd_left _ _)
  have d2 : c ∣ l := Int.natAbs_dvd_natAbs.mp (by rw [ca]; exact Nat.gcd_dvd_right _ _)
  obtain ⟨a1, a2⟩ := natAbs_fdiv_le h c c0 d1
  obtain ⟨b1, b2⟩ := natAbs_fdiv_le l c c0 d2
  have sc : small c = true := sm (by omega)
  refine ⟨h.fdiv c, l.fdiv c, ?_, ⟨?_, ?_⟩, ?_, a1, b1⟩
  · have s0 : mDrop (mCall D_need (mCons (mTree (mCall D_is_integer (mCons (mVar 0) mNil))) (mCons (mC (.str "top")) mNil))) [some (.val (.int h)), some (.val (.int l)), none] = .ok .nx [some (.val (.int h)), some (.val (.int l)), none] :=
      drop_eq (callV2 (call1 rfl (is_integer_int h)) rfl (need_t "top"))
    have s1 : mDrop (mCall D_need (mCons (mAndV (mTree (mCall D_is_integer (mCons (mVar 1) mNil))) (mTree (m2 fNe (mVar 1) (mC (.int 0))))) (mCons (mC (.str "bottom")) mNil))) [some (.val (.int h)), some (.val (.int l)), none] = .ok .nx [some (.val (.int h)), some (.val (.int l)), none] := by
      have q : mTree (m2 fNe (mVar 1) (mC (.int 0))) [some (.val (.int h)), some (.val (.int l)), none] = .ok (.bool true) [some (.val (.int h)), some (.val (.int l)), none] := by
        show Res.ok (PyData.bool (!decide (l = 0))) _ = _
        rw [decide_eq_false h0]
        rfl
      exact drop_eq (callV2 ((and_t (call1 rfl (is_integer_int l))).trans q) rfl (need_t _))
    have s2 : mSeq (mIfS (mTst (mTree (m2 fLt (mVar 1) (mC (.int 0))))) (mSet 2 (m1 fNeg (mVar 2))) mNx) (mRet (mVal (mTup (mCons (mTree (m2 fDivG (mVar 0) (mVar 2))) (mCons (mTree (m2 fDivG (mVar 1) (mVar 2))) mNil))))) [some (.val (.int h)), some (.val (.int l)), some (.val (.int ((Nat.gcd h.natAbs l.natAbs : Nat) : Int)))]
        = .ok (.rt (.val (Q (h.fdiv c) (l.fdiv c)))) [some (.val (.int h)), some (.val (.int l)), some (.val (.int c))] := by
      have fin : mRet (mVal (mTup (mCons (mTree (m2 fDivG (mVar 0) (mVar 2))) (mCons (mTree (m2 fDivG (mVar 1) (mVar 2))) mNil)))) [some (.val (.int h)), some (.val (.int l)), some (.val (.int c))] = .ok (.rt (.val (Q (h.fdiv c) (l.fdiv c)))) [some (.val (.int h)), some (.val (.int l)), some (.val (.int c))] := by
        exact ret_eq (val_ok (tup_ok (cons_ok (dv_ok rfl rfl c0 sc) (cons_ok (dv_ok rfl rfl c0 sc) rfl)) (by simp)))
      by_cases hn : l < 0
      · rw [if_pos hn] at hc
        subst hc
        refine (seq_if_nx (e2 := [some (.val (.int h)), some (.val (.int l)), some (.val (.int (-((Nat.gcd h.natAbs l.natAbs : Nat) : Int))))]) (e1 := [some (.val (.int h)), some (.val (.int l)), some (.val (.int ((Nat.gcd h.natAbs l.natAbs : Nat) : Int)))]) ?_ (set_eq (r := .val (.int (-((Nat.gcd h.natAbs l.natAbs : Nat) : Int)))) (e1 := [some (.val (.int h)), some (.val (.int l)), some (.val (.int ((Nat.gcd h.natAbs l.natAbs : Nat) : Int)))]) rfl)).trans fin
        show Res.ok (decide (l < 0)) _ = _
        rw [decide_eq_true hn]
      · rw [if_neg hn] at hc
        subst hc
        refine (seq_if_f (e1 := [some (.val (.int h)), some (.val (.int l)), some (.val (.int ((Nat.gcd h.natAbs l.natAbs : Nat) : Int)))]) ?_).trans fin
        show Res.ok (decide (l < 0)) _ = _
        rw [decide_eq_false hn]
    exact run_body rfl ((seq_nx s0).trans ((seq_nx s1).trans ((seq_set (e1 := [some (.val (.int h)), some (.val (.int l)), none]) (r := .val (.int ((Nat.gcd h.natAbs l.natAbs : Nat) : Int))) rfl).trans s2)))
  · have : 0 < l.fdiv c := by
      rcases Int.lt_trichotomy l 0 with hn | hn | hn
      · rw [if_pos hn] at hc
        refine Int.not_le.mp fun z => ?_
        have : 0 ≤ l.fdiv c * c := Int.mul_nonneg_of_nonpos_of_nonpos z (by omega)
        omega
      · exact absurd hn h0
      · rw [if_neg (by omega)] at hc
        refine Int.not_le.mp fun z => ?_
        have : l.fdiv c * c ≤ 0 := Int.mul_nonpos_of_nonpos_of_nonneg z (by omega)
        omega
    omega
  · have e1 : (h.fdiv c).natAbs * c.natAbs = h.natAbs := by rw [← Int.natAbs_mul, a2]
    have e2 : (l.fdiv c).natAbs * c.natAbs = l.natAbs := by rw [← Int.natAbs_mul, b2]
    have e3 : Nat.gcd (h.fdiv c).natAbs (l.fdiv c).natAbs * c.natAbs = 1 * c.natAbs := by
      rw [← Nat.gcd_mul_right, e1, e2, ca, Nat.one_mul]
    exact Nat.eq_of_mul_eq_mul_right (by omega) e3
  · refine Int.eq_of_mul_eq_mul_right c0 ?_
    rw [Int.mul_right_comm, a2, Int.mul_assoc, b2]
end G
end
section
set_option Elab.async false
set_option linter.all false
set_option autoImplicit false
set_option maxRecDepth 100000
set_option maxHeartbeats 1000000
set_option exponentiation.threshold 10000
namespace G
open PySem PySem.Spec PyProof.Rows L2 TL
theorem orT_f {a b : Mb} {e e1 : En} (h : a e = .ok false e1) : mOrT a b e = b e1 := by simp [mOrT, h, Res.bind]
theorem orT_t {a b : Mb} {e e1 : En} (h : a e = .ok true e1) : mOrT a b e = .ok true e1 := by simp [mOrT, h, Res.bind]
theorem andT_t {a b : Mb} {e e1 : En} (h : a e = .ok true e1) : mAndT a b e = b e1 := by simp [mAndT, h, Res.bind]
theorem andT_f {a b : Mb} {e e1 : En} (h : a e = .ok false e1) : mAndT a b e = .ok false e1 := by simp [mAndT, h, Res.bind]
theorem not_t {c : Mb} {e e1 : En} (h : c e = .ok true e1) : mNotT c e = .ok false e1 := notT_ok h
theorem not_f {c : Mb} {e e1 : En} (h : c e = .ok false e1) : mNotT c e = .ok true e1 := notT_ok h
def eqs (s t : Str) : Bool := decide (s = t)
theorem eqS {i : Nat} {e : En} {s t : Str} {b : Bool} (h : e[i]? = some (some (.val (.str s)))) (hb : eqs s t = b) : mTst (mTree (m2 fEq (mVar i) (mC (.str t)))) e = .ok b e := by
  subst hb
  simp [mTst, mTree, m2, mVar, h, mC, Res.bind, fEq, TL.same, give, RV.tree, eqs]
/-! ### the greatest common part by laps -/
def euc : Nat → Nat → Nat → Nat
  | 0, l, _ => l
  | f + 1, l, r => if r = 0 then l else euc f r (l % r)
theorem euc_zero : ∀ f l, euc f l 0 = l
  | 0, _ => rfl
  | f + 1, l => by simp [euc]
theorem euc_gcd : ∀ (k l r : Nat), r < 2 ^ k → euc (2 * k) l r = Nat.gcd l r
  | 0, l, r, h => by
    have : r = 0 := by simpa using h
    subst this
    simp [euc]
  | k + 1, l, r, h => by
    show euc (2 * k + 1 + 1) l r = _
    unfold euc
    by_cases hr : r = 0
    · subst hr; simp
    · rw [if_neg hr]
      unfold euc
      by_cases hs : l % r = 0
      · rw [if_pos hs, Nat.gcd_comm, Nat.gcd_rec, hs]
        simp
      · rw [if_neg hs]
        have h1 : l % r < r := Nat.mod_lt _ (by omega)
        have h2 : r % (l % r) < l % r := Nat.mod_lt _ (by omega)
        have h3 : r % (l % r) + (l % r) ≤ r := by
          have := Nat.div_add_mod r (l % r)
          have q : 1 ≤ r / (l % r) := Nat.div_pos (by omega) (by omega)
          have : (l % r) * 1 ≤ (l % r) * (r / (l % r)) := Nat.mul_le_mul_left _ q
          omega
        rw [euc_gcd k _ _ (by rw [Nat.pow_succ] at h; omega)]
        rw [Nat.gcd_comm l r, Nat.gcd_rec r l, Nat.gcd_rec (l % r) r, Nat.gcd_comm]
def bodyE : Ms := (mSeq (mIfS (mTst (mTree (m2 fEq (mVar 1) (mC (.int 0)))))
  (fun e => .ok .bk e)
  mNx)
  (mSeq (mSet 3 (m2 fSub (mVar 0) (mTree (m2 fMul (mTree (m2 fDivG (mVar 0) (mVar 1))) (mVar 1)))))
  (mSeq (mSet 0 (mVal (mVar 1)))
  (mSet 1 (mVal (mVar 3))))))
theorem smN {n : Nat} (h : n < 2 ^ 200) : small (n : Int) = true := sm (by rw [Int.natAbs_natCast]; exact h)
theorem stepE {l r : Nat} {x2 x3 : Option RV} (hl : l < 2 ^ 200) (hr : r < 2 ^ 200) (h0 : r ≠ 0) : bodyE [some (.val (.int (l : Nat))), some (.val (.int (r : Nat))), x2, x3] = .ok .nx [some (.val (.int (r : Nat))), some (.val (.int (l % r : Nat))), x2, some (.val (.int (l % r : Nat)))] := by
  have e1 : (Int.fdiv (l : Int) (r : Int)) = ((l / r : Nat) : Int) := by
    rw [Int.fdiv_eq_ediv_of_nonneg _ (by omega), Int.natCast_ediv]
  have e2 : (l : Int) - ((l / r : Nat) : Int) * (r : Int) = ((l % r : Nat) : Int) := by
    rw [Int.natCast_emod, Int.emod_def, Int.natCast_ediv, Int.mul_comm]
  have e3 := smN hr
  have e4 := smN (Nat.lt_of_le_of_lt (Nat.div_le_self l r) hl)
  have hc : mTst (mTree (m2 fEq (mVar 1) (mC (.int 0)))) [some (.val (.int (l : Nat))), some (.val (.int (r : Nat))), x2, x3] = .ok false [some (.val (.int (l : Nat))), some (.val (.int (r : Nat))), x2, x3] := by
    simp [runDef, List.replicate, mRet, mVal, mTree, mCall, mCons, mNil, mVar, mC, mSeq, mIfS, mNx, mNotT, mTst, mAndT, mOrT, mAndV, mOrV, mNotV, Res.bind, RV.tree, give, mAsg, gT, gN, gsCons, gsNil, mChainT, qLink, qLast, yes, asBool, m2, m1, mN, mTup, mSet, keepE, fEq, TL.same, h0]
  have d1 : mTree (m2 fDivG (mVar 0) (mVar 1)) [some (.val (.int (l : Nat))), some (.val (.int (r : Nat))), x2, x3] = .ok (.int (Int.fdiv (l : Int) (r : Int))) [some (.val (.int (l : Nat))), some (.val (.int (r : Nat))), x2, x3] := dv_ok rfl rfl (by omega) e3
  rw [e1] at d1
  have h1 : m2 fSub (mVar 0) (mTree (m2 fMul (mTree (m2 fDivG (mVar 0) (mVar 1))) (mVar 1))) [some (.val (.int (l : Nat))), some (.val (.int (r : Nat))), x2, x3] = .ok (.val (.int (l % r : Nat))) [some (.val (.int (l : Nat))), some (.val (.int (r : Nat))), x2, x3] := by
    have d2 : mTree (m2 fMul (mTree (m2 fDivG (mVar 0) (mVar 1))) (mVar 1)) [some (.val (.int (l : Nat))), some (.val (.int (r : Nat))), x2, x3] = .ok (.int (((l / r : Nat) : Int) * (r : Int))) [some (.val (.int (l : Nat))), some (.val (.int (r : Nat))), x2, x3] :=
      mul_ok d1 rfl (by rw [Int.natAbs_natCast]; exact Nat.lt_of_le_of_lt (Nat.div_le_self l r) hl) (by rw [Int.natAbs_natCast]; exact hr)
    have d3 : mVar 0 [some (.val (.int (l : Nat))), some (.val (.int (r : Nat))), x2, x3] = .ok (.int (l : Nat)) [some (.val (.int (l : Nat))), some (.val (.int (r : Nat))), x2, x3] := rfl
    simp only [m2, d3, d2, Res.bind, fSub, give, e2]
  unfold bodyE
  rw [seq_if_f hc, seq_set h1]
  rfl
theorem loopE : ∀ (f lo l r : Nat) (x2 x3 : Option RV), l < 2 ^ 200 → r < 2 ^ 200 → ∃ y1 y2 y3, mLoop (gN 2) bodyE (rngT (lo : Int) f) [some (.val (.int (l : Nat))), some (.val (.int (r : Nat))), x2, x3] = .ok .nx [some (.val (.int (euc f l r : Nat))), y1, y2, y3]
  | 0, lo, l, r, x2, x3, _, _ => ⟨_, _, _, rfl⟩
  | f + 1, lo, l, r, x2, x3, hl, hr => by
    rw [rng_cons]
    by_cases h0 : r = 0
    · subst h0
      refine ⟨some (.val (.int 0)), some (.val (.int (lo : Int))), x3, ?_⟩
      rw [show euc (f + 1) l 0 = l from euc_zero _ _]
      rfl
    · have hm : l % r < 2 ^ 200 := Nat.lt_of_lt_of_le (Nat.mod_lt _ (by omega)) (Nat.le_of_lt hr)
      obtain ⟨y1, y2, y3, ih⟩ := loopE f (lo + 1) r (l % r) (some (.val (.int (lo : Int)))) (some (.val (.int (l % r : Nat)))) hr hm
      refine ⟨y1, y2, y3, ?_⟩
      unfold mLoop
      simp only [gN, List.set]
      rw [stepE hl hr h0, show euc (f + 1) l r = euc f r (l % r) by simp [euc, h0]]
      simpa using ih
theorem common_ok {a b : Nat} (ha : a < 2 ^ 200) (hb : b < 2 ^ 200) : Is (D__law_common [.val (.int (a : Nat)), .val (.int (b : Nat))]) (.int (Nat.gcd a b : Nat)) := by
  obtain ⟨y1, y2, y3, h⟩ := loopE 400 0 a b none none ha hb
  have hf : mFor (mRng (mCons (mC (.int 400)) mNil)) (gN 2) bodyE [some (.val (.int (a : Nat))), some (.val (.int (b : Nat))), none, none] = _ := h
  rw [euc_gcd 200 a b hb] at hf
  exact run_body rfl ((seq_nx hf).trans (ret_eq (val_ok rfl)))
/-! ### it stands for the number -/
theorem abs_ok {m : Mt} {i : Int} {e e1 : En} (h : m e = .ok (.int i) e1) : mTree (mN fAbs (mCons m mNil)) e = .ok (.int ((i.natAbs : Nat) : Int)) e1 := by
  have hab : (if i < 0 then -i else i) = (i.natAbs : Int) := by split <;> omega
  simp [mTree, mN, mCons, mNil, h, Res.bind, fAbs, hab, give, RV.tree]
theorem stands_ok {x y h l : Int} (g : Low x y) (hx : x.natAbs < 2 ^ 200) (hy : y.natAbs < 2 ^ 200) (hh : h.natAbs < 2 ^ 200) (hl : l.natAbs < 2 ^ 200) (q : x * l = h * y) : Is (D__law_stands [.val (Q x y), .val (.int h), .val (.int l)]) (.bool true) := by
  obtain ⟨y', rfl⟩ : ∃ y' : Nat, y = (y' : Int) := ⟨y.toNat, by have := g.1; omega⟩
  have hy' : y' < 2 ^ 200 := by rw [Int.natAbs_natCast] at hy; exact hy
  have c1 : mOrT (mNotT (mTst (mIsi .tup (mVar 0)))) (mOrT (mTst (mTree (m2 fNe (mLenV 0) (mC (.int 2))))) (mOrT (mNotT (mTst (mTree (mCall D__law_int (mCons (mIxV 0 (mC (.int 0))) mNil))))) (mNotT (mTst (mTree (mCall D__law_int (mCons (mIxV 0 (mC (.int 1))) mNil))))))) [some (.val (Q x y')), some (.val (.int h)), some (.val (.int l))]
      = .ok false [some (.val (Q x y')), some (.val (.int h)), some (.val (.int l))] :=
    (orT_f (not_t rfl)).trans ((orT_f rfl).trans ((orT_f (not_t (tst_eq (call1 rfl (law_int_int x))))).trans (not_t (tst_eq (call1 rfl (law_int_int y'))))))
  have c2a : mTst (mTree (m2 fLt (mIxV 0 (mC (.int 1))) (mC (.int 1)))) [some (.val (Q x y')), some (.val (.int h)), some (.val (.int l))] = .ok false [some (.val (Q x y')), some (.val (.int h)), some (.val (.int l))] := by
    show Res.ok (decide ((y' : Int) < 1)) _ = _
    rw [decide_eq_false (by have := g.1; omega)]
  have c2b : mTst (mTree (m2 fNe (mTree (mCall D__law_common (mCons (mTree (mN fAbs (mCons (mIxV 0 (mC (.int 0))) mNil))) (mCons (mIxV 0 (mC (.int 1))) mNil)))) (mC (.int 1)))) [some (.val (Q x y')), some (.val (.int h)), some (.val (.int l))] = .ok false [some (.val (Q x y')), some (.val (.int h)), some (.val (.int l))] := by
    have q1 := call2 (m := mTree (mN fAbs (mCons (mIxV 0 (mC (.int 0))) mNil))) (n := mIxV 0 (mC (.int 1))) (e := [some (.val (Q x y')), some (.val (.int h)), some (.val (.int l))]) (abs_ok rfl) rfl (common_ok hx hy')
    have g2 : Nat.gcd x.natAbs y' = 1 := by have := g.2; rwa [Int.natAbs_natCast] at this
    rw [g2] at q1
    simp only [mTst, mTree, m2] at q1 ⊢
    rw [q1]
    rfl
  have r1 : mTree (m2 fMul (mIxV 0 (mC (.int 0))) (mVar 2)) [some (.val (Q x y')), some (.val (.int h)), some (.val (.int l))] = .ok (.int (x * l)) [some (.val (Q x y')), some (.val (.int h)), some (.val (.int l))] := mul_ok rfl rfl hx hl
  have r2 : mTree (m2 fMul (mVar 1) (mIxV 0 (mC (.int 1)))) [some (.val (Q x y')), some (.val (.int h)), some (.val (.int l))] = .ok (.int (h * y')) [some (.val (Q x y')), some (.val (.int h)), some (.val (.int l))] := mul_ok rfl rfl hh hy
  refine run_body rfl ((seq_if_f c1).trans ((seq_if_f ((orT_f c2a).trans c2b)).trans (ret_eq (e1 := [some (.val (Q x y')), some (.val (.int h)), some (.val (.int l))]) ?_)))
  show m2 fEq _ _ [some (.val (Q x y')), some (.val (.int h)), some (.val (.int l))] = _
  have r3 : ∀ (m k : Mt) (e : En) (i j : Int), m e = .ok (.int i) e → k e = .ok (.int j) e → i = j → m2 fEq m k e = .ok (.val (.bool true)) e := fun m k e i j h1 h2 h3 => by
    subst h3
    simp [m2, h1, h2, Res.bind, fEq, TL.same, give]
  exact r3 _ _ _ _ _ r1 r2 q
end G
end
section
set_option Elab.async false
set_option linter.all false
set_option autoImplicit false
set_option maxRecDepth 100000
set_option maxHeartbeats 1000000
set_option exponentiation.threshold 10000
namespace G
open PySem PySem.Spec PyProof.Rows L2 TL
theorem run_exc {n np : Nat} {keep : List Nat} {m : Ms} {args : List RV} {x : Exn} {e : En} (hl : args.length = np) (h : m (args.map some ++ List.replicate (n - np) none) = .exc x e) : runDef n np keep m args = .exc x (keepE keep np e) := by
  unfold runDef
  rw [if_pos hl, h]
theorem callV_exc2 {D : DF} {m n : Mt} {e e1 e2 e3 : En} {t s : T} {x : Exn} (hm : m e = .ok t e1) (hn : n e1 = .ok s e2) (h : D [.val t, .val s] = .exc x e3) : mCall D (mCons m (mCons n mNil)) e = .exc x e2 := by
  simp [mCall, mCons, mNil, Res.bind, hm, hn, h]
/-- the answer is a quotient in lowest terms that stands for h over l -/
def Ans (r : Res RV) (h l : Int) : Prop := ∃ x y, Is r (Q x y) ∧ Low x y ∧ x * l = h * y ∧ x.natAbs ≤ h.natAbs ∧ y.natAbs ≤ l.natAbs
theorem mulB {x y : Int} (hx : x.natAbs < 2 ^ 80) (hy : y.natAbs < 2 ^ 80) : (x * y).natAbs < 2 ^ 160 := by
  rw [Int.natAbs_mul, show (2 : Nat) ^ 160 = 2 ^ 80 * 2 ^ 80 by decide]
  exact Nat.mul_lt_mul'' hx hy
theorem b160 {n : Nat} (h : n < 2 ^ 160) : n < 2 ^ 200 := Nat.lt_of_lt_of_le h (by decide)
theorem b80 {n : Nat} (h : n < 2 ^ 80) : n < 2 ^ 200 := Nat.lt_of_lt_of_le h (by decide)
theorem b161 {n : Nat} (h : n < 2 ^ 161) : n < 2 ^ 200 := Nat.lt_of_lt_of_le h (by decide)
theorem addB {x y : Int} (hx : x.natAbs < 2 ^ 160) (hy : y.natAbs < 2 ^ 160) : (x + y).natAbs < 2 ^ 161 := by
  rw [show (2 : Nat) ^ 161 = 2 ^ 160 + 2 ^ 160 by decide]
  omega
theorem subB {x y : Int} (hx : x.natAbs < 2 ^ 160) (hy : y.natAbs < 2 ^ 160) : (x - y).natAbs < 2 ^ 161 := by
  rw [show (2 : Nat) ^ 161 = 2 ^ 160 + 2 ^ 160 by decide]
  omega
/-- a quotient in lowest terms, of numbers that are not too long -/
structure Qt (a b : Int) : Prop where
  low : Low a b
  sa : a.natAbs < 2 ^ 80
  sb : b.natAbs < 2 ^ 80
section
variable {a b c d : Int}
theorem nb_ok (h : Qt a b) (h2 : Qt c d) : mDrop (mCall D_need_both (mCons (mVar 0) (mCons (mVar 1) mNil))) [some (.val (Q a b)), some (.val (Q c d))] = .ok .nx [some (.val (Q a b)), some (.val (Q c d))] :=
  drop_eq (callV2 rfl rfl (need_both_ok h.low h2.low))
theorem ad_ok (h : Qt a b) (h2 : Qt c d) : mTree (m2 fMul (mIxV 0 (mC (.int 0))) (mIxV 1 (mC (.int 1)))) [some (.val (Q a b)), some (.val (Q c d))] = .ok (.int (a * d)) [some (.val (Q a b)), some (.val (Q c d))] := mul_ok rfl rfl (b80 h.sa) (b80 h2.sb)
theorem cb_ok (h : Qt a b) (h2 : Qt c d) : mTree (m2 fMul (mIxV 1 (mC (.int 0))) (mIxV 0 (mC (.int 1)))) [some (.val (Q a b)), some (.val (Q c d))] = .ok (.int (c * b)) [some (.val (Q a b)), some (.val (Q c d))] := mul_ok rfl rfl (b80 h2.sa) (b80 h.sb)
theorem bd_ok (h : Qt a b) (h2 : Qt c d) : mTree (m2 fMul (mIxV 0 (mC (.int 1))) (mIxV 1 (mC (.int 1)))) [some (.val (Q a b)), some (.val (Q c d))] = .ok (.int (b * d)) [some (.val (Q a b)), some (.val (Q c d))] := mul_ok rfl rfl (b80 h.sb) (b80 h2.sb)
theorem ac_ok (h : Qt a b) (h2 : Qt c d) : mTree (m2 fMul (mIxV 0 (mC (.int 0))) (mIxV 1 (mC (.int 0)))) [some (.val (Q a b)), some (.val (Q c d))] = .ok (.int (a * c)) [some (.val (Q a b)), some (.val (Q c d))] := mul_ok rfl rfl (b80 h.sa) (b80 h2.sa)
theorem bc_ok (h : Qt a b) (h2 : Qt c d) : mTree (m2 fMul (mIxV 0 (mC (.int 1))) (mIxV 1 (mC (.int 0)))) [some (.val (Q a b)), some (.val (Q c d))] = .ok (.int (b * c)) [some (.val (Q a b)), some (.val (Q c d))] := mul_ok rfl rfl (b80 h.sb) (b80 h2.sa)
theorem bd0 (h : Qt a b) (h2 : Qt c d) : b * d ≠ 0 := Int.mul_ne_zero (by have := h.low.1; omega) (by have := h2.low.1; omega)
theorem bdB (h : Qt a b) (h2 : Qt c d) : (b * d).natAbs < 2 ^ 200 := b160 (mulB h.sb h2.sb)
theorem plus_ok (h : Qt a b) (h2 : Qt c d) : Ans (D_plus [.val (Q a b), .val (Q c d)]) (a * d + c * b) (b * d) := by
  obtain ⟨x, y, hq, r⟩ := quotient_of_ok (b161 (addB (mulB h.sa h2.sb) (mulB h2.sa h.sb))) (bdB h h2) (bd0 h h2)
  exact ⟨x, y, run_body rfl ((seq_nx (nb_ok h h2)).trans (ret_eq (callV2 (adds_ok (ad_ok h h2) (cb_ok h h2)) (bd_ok h h2) hq))), r⟩
theorem minus_ok (h : Qt a b) (h2 : Qt c d) : Ans (D_minus [.val (Q a b), .val (Q c d)]) (a * d - c * b) (b * d) := by
  obtain ⟨x, y, hq, r⟩ := quotient_of_ok (b161 (subB (mulB h.sa h2.sb) (mulB h2.sa h.sb))) (bdB h h2) (bd0 h h2)
  exact ⟨x, y, run_body rfl ((seq_nx (nb_ok h h2)).trans (ret_eq (callV2 (sub_ok (ad_ok h h2) (cb_ok h h2)) (bd_ok h h2) hq))), r⟩
theorem times_ok (h : Qt a b) (h2 : Qt c d) : Ans (D_times [.val (Q a b), .val (Q c d)]) (a * c) (b * d) := by
  obtain ⟨x, y, hq, r⟩ := quotient_of_ok (b160 (mulB h.sa h2.sa)) (bdB h h2) (bd0 h h2)
  exact ⟨x, y, run_body rfl ((seq_nx (nb_ok h h2)).trans (ret_eq (callV2 (ac_ok h h2) (bd_ok h h2) hq))), r⟩
theorem ne0_ok : mTree (m2 fNe (mIxV 1 (mC (.int 0))) (mC (.int 0))) [some (.val (Q a b)), some (.val (Q c d))] = .ok (.bool (!decide (c = 0))) [some (.val (Q a b)), some (.val (Q c d))] := rfl
theorem over_ok (h : Qt a b) (h2 : Qt c d) (h0 : c ≠ 0) : Ans (D_over [.val (Q a b), .val (Q c d)]) (a * d) (b * c) := by
  obtain ⟨x, y, hq, r⟩ := quotient_of_ok (b160 (mulB h.sa h2.sb)) (b160 (mulB h.sb h2.sa)) (Int.mul_ne_zero (by have := h.low.1; omega) h0)
  have s1 : mDrop (mCall D_need (mCons (mTree (m2 fNe (mIxV 1 (mC (.int 0))) (mC (.int 0)))) (mCons (mC (.str "other")) mNil))) [some (.val (Q a b)), some (.val (Q c d))] = .ok .nx [some (.val (Q a b)), some (.val (Q c d))] := by
    refine drop_eq (r := .val .none) (callV2 (e1 := [some (.val (Q a b)), some (.val (Q c d))]) (t := .bool true) ?_ rfl (need_t "other"))
    rw [ne0_ok, decide_eq_false h0]
    rfl
  exact ⟨x, y, run_body rfl ((seq_nx (nb_ok h h2)).trans ((seq_nx s1).trans (ret_eq (callV2 (ad_ok h h2) (bc_ok h h2) hq)))), r⟩
theorem less_ok (h : Qt a b) (h2 : Qt c d) : Is (D_less [.val (Q a b), .val (Q c d)]) (.bool (decide (a * d < c * b))) := by
  refine run_body (e := [some (.val (Q a b)), some (.val (Q c d))]) rfl ((seq_nx (nb_ok h h2)).trans (ret_eq (e1 := [some (.val (Q a b)), some (.val (Q c d))]) ?_))
  show m2 fLt _ _ [some (.val (Q a b)), some (.val (Q c d))] = _
  simp only [m2, ad_ok h h2, cb_ok h h2, Res.bind]
  rfl
/-- what is raised where the other is none -/
theorem over_no (h : Qt a b) (h2 : Qt 0 d) : ∃ e, D_over [.val (Q a b), .val (Q 0 d)] = .exc ⟨"NotUsable", [("at", .int (-1)), ("word", .str "other")]⟩ e := by
  have s1 : mDrop (mCall D_need (mCons (mTree (m2 fNe (mIxV 1 (mC (.int 0))) (mC (.int 0)))) (mCons (mC (.str "other")) mNil))) [some (.val (Q a b)), some (.val (Q 0 d))] = .exc ⟨"NotUsable", [("at", .int (-1)), ("word", .str "other")]⟩ [some (.val (Q a b)), some (.val (Q 0 d))] := rfl
  refine ⟨[some (.val (Q a b)), some (.val (Q 0 d))], ?_⟩
  have s2 : M_over [some (.val (Q a b)), some (.val (Q 0 d))] = .exc ⟨"NotUsable", [("at", .int (-1)), ("word", .str "other")]⟩ [some (.val (Q a b)), some (.val (Q 0 d))] := by
    unfold M_over
    rw [seq_nx (nb_ok h h2)]
    unfold mSeq
    rw [s1]
  exact run_exc (n := 2) (np := 2) (keep := [0, 1]) (m := M_over) (args := [.val (Q a b), .val (Q 0 d)]) rfl s2
end
/-! ### the deeds by name -/
section
variable {a b c d : Int}
def W2 (a b c d : Int) : T := .tuple [Q a b, Q c d]
theorem deed_plus {u : T} (h : Is (D_plus [.val (Q a b), .val (Q c d)]) u) : Is (D__law_deed [.val (.str "plus"), .val (W2 a b c d)]) u :=
  run_body rfl (seq_if_t (eqS (b := true) rfl (by decide +kernel)) (ret_eq (callV2 rfl rfl h)))
theorem deed_minus {u : T} (h : Is (D_minus [.val (Q a b), .val (Q c d)]) u) : Is (D__law_deed [.val (.str "minus"), .val (W2 a b c d)]) u :=
  run_body rfl ((seq_if_f (eqS (b := false) rfl (by decide +kernel))).trans (seq_if_t (eqS (b := true) rfl (by decide +kernel)) (ret_eq (callV2 rfl rfl h))))
theorem deed_times {u : T} (h : Is (D_times [.val (Q a b), .val (Q c d)]) u) : Is (D__law_deed [.val (.str "times"), .val (W2 a b c d)]) u :=
  run_body rfl ((seq_if_f (eqS (b := false) rfl (by decide +kernel))).trans ((seq_if_f (eqS (b := false) rfl (by decide +kernel))).trans (seq_if_t (eqS (b := true) rfl (by decide +kernel)) (ret_eq (callV2 rfl rfl h)))))
theorem deed_over {u : T} (h : Is (D_over [.val (Q a b), .val (Q c d)]) u) : Is (D__law_deed [.val (.str "over"), .val (W2 a b c d)]) u :=
  run_body rfl ((seq_if_f (eqS (b := false) rfl (by decide +kernel))).trans ((seq_if_f (eqS (b := false) rfl (by decide +kernel))).trans ((seq_if_f (eqS (b := false) rfl (by decide +kernel))).trans (seq_if_t (eqS (b := true) rfl (by decide +kernel)) (ret_eq (callV2 rfl rfl h))))))
def other0 : Exn := ⟨"NotUsable", [("at", .int (-1)), ("word", .str "other")]⟩
theorem deed_no {e : En} (h : D_over [.val (Q a b), .val (Q c d)] = .exc other0 e) : ∃ e2, D__law_deed [.val (.str "over"), .val (W2 a b c d)] = .exc other0 e2 := by
  refine ⟨_, run_exc rfl (e := [some (.val (.str "over")), some (.val (W2 a b c d))]) ((seq_if_f (eqS (b := false) rfl (by decide +kernel))).trans ((seq_if_f (eqS (b := false) rfl (by decide +kernel))).trans ((seq_if_f (eqS (b := false) rfl (by decide +kernel))).trans ?_)))⟩
  have q : mCall D_over (mCons (mIxV 1 (mC (.int 0))) (mCons (mIxV 1 (mC (.int 1))) mNil)) [some (.val (.str "over")), some (.val (W2 a b c d))] = .exc other0 [some (.val (.str "over")), some (.val (W2 a b c d))] := callV_exc2 rfl rfl h
  have c1 : mTst (mTree (m2 fEq (mVar 0) (mC (.str "over")))) [some (.val (.str "over")), some (.val (W2 a b c d))] = .ok true [some (.val (.str "over")), some (.val (W2 a b c d))] := eqS rfl (by decide +kernel)
  simp only [mSeq, mIfS, Res.bind, mRet]
  have c1' : mTst (mTree (m2 fEq (mVar 0) (mC (.str "over")))) (List.map some [RV.val (.str "over"), .val (W2 a b c d)] ++ List.replicate (2 - 2) none) = .ok true [some (.val (.str "over")), some (.val (W2 a b c d))] := c1
  rw [c1']
  simp only [if_true, q]
theorem refused_ok (h : Qt a b) (h2 : Qt 0 d) : Is (D__law_refused [.val (.str "over"), .val (W2 a b 0 d), .val (.str "other")]) (.bool true) := by
  obtain ⟨e1, h1⟩ := over_no h h2
  obtain ⟨e2, h3⟩ := deed_no h1
  have q : mDrop (mCall D__law_deed (mCons (mVar 0) (mCons (mVar 1) mNil))) [some (.val (.str "over")), some (.val (W2 a b 0 d)), some (.val (.str "other")), none, none] = .exc other0 [some (.val (.str "over")), some (.val (W2 a b 0 d)), some (.val (.str "other")), none, none] := by
    have z : mCall D__law_deed (mCons (mVar 0) (mCons (mVar 1) mNil)) [some (.val (.str "over")), some (.val (W2 a b 0 d)), some (.val (.str "other")), none, none] = .exc other0 [some (.val (.str "over")), some (.val (W2 a b 0 d)), some (.val (.str "other")), none, none] := callV_exc2 rfl rfl h3
    simp only [mDrop, z, Res.bind]
  have su : ∀ t u : T, Su__law_refused_0 0 0 [some (.val t), some (.val u), some (.val (.str "other")), some (.val (exnT 0 0 other0.fs)), none] = .ok (.rt (.val (.bool true))) [some (.val t), some (.val u), some (.val (.str "other")), some (.val (exnT 0 0 other0.fs)), some (.val (.bool true))] := fun t u => by
    rfl
  refine run_body (e := [some (.val (.str "over")), some (.val (W2 a b 0 d)), some (.val (.str "other")), none, some (.val (.bool true))]) rfl (seq_rt ?_)
  show mTry _ _ _ _ _ [some (.val (.str "over")), some (.val (W2 a b 0 d)), some (.val (.str "other")), none, none] = _
  unfold mTry
  rw [q]
  dsimp only
  rw [if_pos ⟨rfl, rfl, by decide⟩]
  show fgt 3 (Su__law_refused_0 0 0 [some (.val (.str "over")), some (.val (W2 a b 0 d)), some (.val (.str "other")), some (.val (exnT 0 0 other0.fs)), none]) = _
  rw [su]
  rfl
end
end G
end
section
set_option Elab.async false
set_option linter.all false
set_option autoImplicit false
set_option maxRecDepth 100000
set_option maxHeartbeats 1000000
set_option exponentiation.threshold 10000
namespace G
open PySem PySem.Spec PyProof.Rows L2 TL
section
variable {a b c d : Int}
/-! ### the number that is due -/
section
variable {s : Str}
theorem n_ad (h : Qt a b) (h2 : Qt c d) : mTree (m2 fMul (mIxV 1 (mC (.int 0))) (mIxV 2 (mC (.int 1)))) [some (.val (.str s)), some (.val (Q a b)), some (.val (Q c d))] = .ok (.int (a * d)) [some (.val (.str s)), some (.val (Q a b)), some (.val (Q c d))] := mul_ok rfl rfl (b80 h.sa) (b80 h2.sb)
theorem n_cb (h : Qt a b) (h2 : Qt c d) : mTree (m2 fMul (mIxV 2 (mC (.int 0))) (mIxV 1 (mC (.int 1)))) [some (.val (.str s)), some (.val (Q a b)), some (.val (Q c d))] = .ok (.int (c * b)) [some (.val (.str s)), some (.val (Q a b)), some (.val (Q c d))] := mul_ok rfl rfl (b80 h2.sa) (b80 h.sb)
theorem n_bd (h : Qt a b) (h2 : Qt c d) : mTree (m2 fMul (mIxV 1 (mC (.int 1))) (mIxV 2 (mC (.int 1)))) [some (.val (.str s)), some (.val (Q a b)), some (.val (Q c d))] = .ok (.int (b * d)) [some (.val (.str s)), some (.val (Q a b)), some (.val (Q c d))] := mul_ok rfl rfl (b80 h.sb) (b80 h2.sb)
theorem n_ac (h : Qt a b) (h2 : Qt c d) : mTree (m2 fMul (mIxV 1 (mC (.int 0))) (mIxV 2 (mC (.int 0)))) [some (.val (.str s)), some (.val (Q a b)), some (.val (Q c d))] = .ok (.int (a * c)) [some (.val (.str s)), some (.val (Q a b)), some (.val (Q c d))] := mul_ok rfl rfl (b80 h.sa) (b80 h2.sa)
theorem n_bc (h : Qt a b) (h2 : Qt c d) : mTree (m2 fMul (mIxV 1 (mC (.int 1))) (mIxV 2 (mC (.int 0)))) [some (.val (.str s)), some (.val (Q a b)), some (.val (Q c d))] = .ok (.int (b * c)) [some (.val (.str s)), some (.val (Q a b)), some (.val (Q c d))] := mul_ok rfl rfl (b80 h.sb) (b80 h2.sa)
end
theorem number_plus (h : Qt a b) (h2 : Qt c d) : Is (D__law_number [.val (.str "plus"), .val (Q a b), .val (Q c d)]) (Q (a * d + c * b) (b * d)) :=
  run_body rfl (seq_if_t (eqS (b := true) rfl (by decide +kernel)) (ret_eq (val_ok (tup_ok (cons_ok (adds_ok (n_ad h h2) (n_cb h h2)) (cons_ok (n_bd h h2) rfl)) (by simp)))))
theorem number_minus (h : Qt a b) (h2 : Qt c d) : Is (D__law_number [.val (.str "minus"), .val (Q a b), .val (Q c d)]) (Q (a * d - c * b) (b * d)) :=
  run_body rfl ((seq_if_f (eqS (b := false) rfl (by decide +kernel))).trans (seq_if_t (eqS (b := true) rfl (by decide +kernel)) (ret_eq (val_ok (tup_ok (cons_ok (sub_ok (n_ad h h2) (n_cb h h2)) (cons_ok (n_bd h h2) rfl)) (by simp))))))
theorem number_times (h : Qt a b) (h2 : Qt c d) : Is (D__law_number [.val (.str "times"), .val (Q a b), .val (Q c d)]) (Q (a * c) (b * d)) :=
  run_body rfl ((seq_if_f (eqS (b := false) rfl (by decide +kernel))).trans ((seq_if_f (eqS (b := false) rfl (by decide +kernel))).trans (seq_if_t (eqS (b := true) rfl (by decide +kernel)) (ret_eq (val_ok (tup_ok (cons_ok (n_ac h h2) (cons_ok (n_bd h h2) rfl)) (by simp)))))))
theorem number_over (h : Qt a b) (h2 : Qt c d) : Is (D__law_number [.val (.str "over"), .val (Q a b), .val (Q c d)]) (Q (a * d) (b * c)) :=
  run_body rfl ((seq_if_f (eqS (b := false) rfl (by decide +kernel))).trans ((seq_if_f (eqS (b := false) rfl (by decide +kernel))).trans ((seq_if_f (eqS (b := false) rfl (by decide +kernel))).trans (ret_eq (val_ok (tup_ok (cons_ok (n_ad h h2) (cons_ok (n_bc h h2) rfl)) (by simp)))))))
/-- a deed, done and told -/
structure Deed (s : Str) (a b c d : Int) (x y h l : Int) : Prop where
  num : Is (D__law_number [.val (.str s), .val (Q a b), .val (Q c d)]) (Q h l)
  did : Is (D__law_deed [.val (.str s), .val (W2 a b c d)]) (Q x y)
  low : Low x y
  eq : x * l = h * y
  bx : x.natAbs ≤ h.natAbs
  by' : y.natAbs ≤ l.natAbs
  bh : h.natAbs < 2 ^ 200
  bl : l.natAbs < 2 ^ 200
theorem Deed.st {s : Str} {x y h l : Int} (g : Deed s a b c d x y h l) : Is (D__law_stands [.val (Q x y), .val (.int h), .val (.int l)]) (.bool true) :=
  stands_ok g.low (Nat.lt_of_le_of_lt g.bx g.bh) (Nat.lt_of_le_of_lt g.by' g.bl) g.bh g.bl g.eq
theorem deedP (h : Qt a b) (h2 : Qt c d) : ∃ x y, Deed "plus" a b c d x y (a * d + c * b) (b * d) := by
  obtain ⟨x, y, g1, g2, g3, g4, g5⟩ := plus_ok h h2
  exact ⟨x, y, number_plus h h2, deed_plus g1, g2, g3, g4, g5, b161 (addB (mulB h.sa h2.sb) (mulB h2.sa h.sb)), bdB h h2⟩
theorem deedM (h : Qt a b) (h2 : Qt c d) : ∃ x y, Deed "minus" a b c d x y (a * d - c * b) (b * d) := by
  obtain ⟨x, y, g1, g2, g3, g4, g5⟩ := minus_ok h h2
  exact ⟨x, y, number_minus h h2, deed_minus g1, g2, g3, g4, g5, b161 (subB (mulB h.sa h2.sb) (mulB h2.sa h.sb)), bdB h h2⟩
theorem deedT (h : Qt a b) (h2 : Qt c d) : ∃ x y, Deed "times" a b c d x y (a * c) (b * d) := by
  obtain ⟨x, y, g1, g2, g3, g4, g5⟩ := times_ok h h2
  exact ⟨x, y, number_times h h2, deed_times g1, g2, g3, g4, g5, b160 (mulB h.sa h2.sa), bdB h h2⟩
theorem deedO (h : Qt a b) (h2 : Qt c d) (h0 : c ≠ 0) : ∃ x y, Deed "over" a b c d x y (a * d) (b * c) := by
  obtain ⟨x, y, g1, g2, g3, g4, g5⟩ := over_ok h h2 h0
  exact ⟨x, y, number_over h h2, deed_over g1, g2, g3, g4, g5, b160 (mulB h.sa h2.sb), b160 (mulB h.sb h2.sa)⟩
/-! ### a pair -/
def bodyP : Ms := (mIfS (mAndT (mTst (mTree (m2 fEq (mVar 2) (mC (.str "over"))))) (mTst (mTree (m2 fEq (mIxV 1 (mC (.int 0))) (mC (.int 0))))))
  (mIfS (mNotT (mTst (mTree (mCall D__law_refused (mCons (mVar 2) (mCons (mTup (mCons (mVar 0) (mCons (mVar 1) mNil))) (mCons (mC (.str "other")) mNil)))))))
  (mRet (mVal (mC (.bool false))))
  mNx)
  (mSeq (mAsg (gT (gsCons (gN 4) (gsCons (gN 5) gsNil)) 2) (mTree (mCall D__law_number (mCons (mVar 2) (mCons (mVar 0) (mCons (mVar 1) mNil))))))
  (mIfS (mNotT (mTst (mTree (mCall D__law_stands (mCons (mTree (mCall D__law_deed (mCons (mVar 2) (mCons (mTup (mCons (mVar 0) (mCons (mVar 1) mNil))) mNil)))) (mCons (mVar 4) (mCons (mVar 5) mNil)))))))
  (mRet (mVal (mC (.bool false))))
  mNx)))
theorem if_nx {c : Mb} {m k : Ms} {e e1 : En} (h : c e = .ok false e1) : mIfS c m k e = k e1 := by simp [mIfS, h, Res.bind]
theorem if_yes {c : Mb} {m k : Ms} {e e1 : En} (h : c e = .ok true e1) : mIfS c m k e = m e1 := by simp [mIfS, h, Res.bind]
theorem asg_ok {g : Mg} {m : Mt} {t : T} {e e1 e2 : En} (h : m e = .ok t e1) (hg : g t e1 = some e2) : mAsg g m e = .ok .nx e2 := by
  simp [mAsg, h, Res.bind, hg]
theorem call3 {D : DF} {m n k : Mt} {e e1 e2 e3 : En} {t s r u : T} (hm : m e = .ok t e1) (hn : n e1 = .ok s e2) (hk : k e2 = .ok r e3) (h : Is (D [.val t, .val s, .val r]) u) : mTree (mCall D (mCons m (mCons n (mCons k mNil)))) e = .ok u e3 := tree_ok (callV3 hm hn hk h)
theorem stepP {s : Str} {x y h l : Int} {x3 x4 x5 : Option RV} (g : Deed s a b c d x y h l) (hc : mAndT (mTst (mTree (m2 fEq (mVar 2) (mC (.str "over"))))) (mTst (mTree (m2 fEq (mIxV 1 (mC (.int 0))) (mC (.int 0))))) [some (.val (Q a b)), some (.val (Q c d)), some (.val (.str s)), x3, x4, x5] = .ok false [some (.val (Q a b)), some (.val (Q c d)), some (.val (.str s)), x3, x4, x5]) :
    bodyP [some (.val (Q a b)), some (.val (Q c d)), some (.val (.str s)), x3, x4, x5] = .ok .nx [some (.val (Q a b)), some (.val (Q c d)), some (.val (.str s)), x3, some (.val (.int h)), some (.val (.int l))] := by
  unfold bodyP
  rw [if_nx hc]
  refine (seq_nx (asg_ok (e2 := [some (.val (Q a b)), some (.val (Q c d)), some (.val (.str s)), x3, some (.val (.int h)), some (.val (.int l))]) (call3 rfl rfl rfl g.num) rfl)).trans ?_
  exact if_nx (not_t (tst_eq (call3 (call2 rfl rfl g.did) rfl rfl g.st)))
theorem notover {s : Str} (hs : eqs s "over" = false) {x3 x4 x5 : Option RV} : mAndT (mTst (mTree (m2 fEq (mVar 2) (mC (.str "over"))))) (mTst (mTree (m2 fEq (mIxV 1 (mC (.int 0))) (mC (.int 0))))) [some (.val (Q a b)), some (.val (Q c d)), some (.val (.str s)), x3, x4, x5] = .ok false [some (.val (Q a b)), some (.val (Q c d)), some (.val (.str s)), x3, x4, x5] :=
  andT_f (eqS rfl hs)
theorem isover {x3 x4 x5 : Option RV} : mAndT (mTst (mTree (m2 fEq (mVar 2) (mC (.str "over"))))) (mTst (mTree (m2 fEq (mIxV 1 (mC (.int 0))) (mC (.int 0))))) [some (.val (Q a b)), some (.val (Q c d)), some (.val (.str "over")), x3, x4, x5] = .ok (decide (c = 0)) [some (.val (Q a b)), some (.val (Q c d)), some (.val (.str "over")), x3, x4, x5] :=
  (andT_t (eqS (b := true) rfl (by decide +kernel))).trans rfl
theorem stepO' (h : Qt a b) (h2 : Qt c d) {x3 x4 x5 : Option RV} : ∃ y4 y5, bodyP [some (.val (Q a b)), some (.val (Q c d)), some (.val (.str "over")), x3, x4, x5] = .ok .nx [some (.val (Q a b)), some (.val (Q c d)), some (.val (.str "over")), x3, y4, y5] := by
  by_cases h0 : c = 0
  · subst h0
    refine ⟨x4, x5, ?_⟩
    unfold bodyP
    rw [if_yes isover]
    exact if_nx (not_t (tst_eq (call3 rfl rfl rfl (refused_ok h h2))))
  · obtain ⟨x, y, g⟩ := deedO h h2 h0
    exact ⟨_, _, stepP g (isover.trans (by rw [decide_eq_false h0]))⟩
theorem loopP (h : Qt a b) (h2 : Qt c d) : ∃ y2 y4 y5, mLoop (gN 2) bodyP [.str "plus", .str "minus", .str "times", .str "over"] [some (.val (Q a b)), some (.val (Q c d)), none, none, none, none] = .ok .nx [some (.val (Q a b)), some (.val (Q c d)), y2, none, y4, y5] := by
  obtain ⟨_, _, g1⟩ := deedP h h2
  obtain ⟨_, _, g2⟩ := deedM h h2
  obtain ⟨_, _, g3⟩ := deedT h h2
  obtain ⟨y4, y5, g4⟩ := stepO' h h2 (x3 := none) (x4 := some (.val (.int (a * c)))) (x5 := some (.val (.int (b * d))))
  refine ⟨some (.val (.str "over")), y4, y5, ?_⟩
  simp only [mLoop, gN, List.set]
  rw [stepP g1 (notover (by decide +kernel))]
  simp only [List.set]
  rw [stepP g2 (notover (by decide +kernel))]
  simp only [List.set]
  rw [stepP g3 (notover (by decide +kernel))]
  simp only [List.set]
  rw [g4]
theorem pair_ok (h : Qt a b) (h2 : Qt c d) : Is (D__law_pair [.val (Q a b), .val (Q c d)]) (.bool true) := by
  obtain ⟨y2, y4, y5, hl⟩ := loopP h h2
  have hf : mFor (mSeq1 (mTree (mLst (mCons (mC (.str "plus")) (mCons (mC (.str "minus")) (mCons (mC (.str "times")) (mCons (mC (.str "over")) mNil))))))) (gN 2) bodyP [some (.val (Q a b)), some (.val (Q c d)), none, none, none, none] = _ := hl
  have ad : mTree (m2 fMul (mIxV 0 (mC (.int 0))) (mIxV 1 (mC (.int 1)))) [some (.val (Q a b)), some (.val (Q c d)), y2, some (.val (.bool (decide (a * d < c * b)))), y4, y5] = .ok (.int (a * d)) [some (.val (Q a b)), some (.val (Q c d)), y2, some (.val (.bool (decide (a * d < c * b)))), y4, y5] := mul_ok rfl rfl (b80 h.sa) (b80 h2.sb)
  have cb : mTree (m2 fMul (mIxV 1 (mC (.int 0))) (mIxV 0 (mC (.int 1)))) [some (.val (Q a b)), some (.val (Q c d)), y2, some (.val (.bool (decide (a * d < c * b)))), y4, y5] = .ok (.int (c * b)) [some (.val (Q a b)), some (.val (Q c d)), y2, some (.val (.bool (decide (a * d < c * b)))), y4, y5] := mul_ok rfl rfl (b80 h2.sa) (b80 h.sb)
  have cc : mTst (mTree (m2 fLt (mTree (m2 fMul (mIxV 0 (mC (.int 0))) (mIxV 1 (mC (.int 1))))) (mTree (m2 fMul (mIxV 1 (mC (.int 0))) (mIxV 0 (mC (.int 1))))))) [some (.val (Q a b)), some (.val (Q c d)), y2, some (.val (.bool (decide (a * d < c * b)))), y4, y5] = .ok (decide (a * d < c * b)) [some (.val (Q a b)), some (.val (Q c d)), y2, some (.val (.bool (decide (a * d < c * b)))), y4, y5] := by
    refine tst_eq (tree_ok (r := .val (.bool (decide (a * d < c * b)))) ?_)
    simp only [m2, ad, cb, Res.bind]
    rfl
  refine run_body (e := [some (.val (Q a b)), some (.val (Q c d)), y2, some (.val (.bool (decide (a * d < c * b)))), y4, y5]) rfl ((seq_nx hf).trans ((seq_set (callV2 (e := [some (.val (Q a b)), some (.val (Q c d)), y2, none, y4, y5]) rfl rfl (less_ok h h2))).trans ?_))
  show mSeq _ _ [some (.val (Q a b)), some (.val (Q c d)), y2, some (.val (.bool (decide (a * d < c * b)))), y4, y5] = _
  by_cases hz : a * d < c * b
  · rw [decide_eq_true hz] at cc ⊢
    exact seq_if_t cc rfl
  · rw [decide_eq_false hz] at cc ⊢
    exact (seq_if_f cc).trans rfl
end
end G
end
section
set_option Elab.async false
set_option linter.all false
set_option autoImplicit false
set_option maxRecDepth 100000
set_option maxHeartbeats 1000000
set_option exponentiation.threshold 10000
namespace G
open PySem PySem.Spec PyProof.Rows L2 TL
theorem low_div {h l : Int} (h0 : 1 ≤ l) : (Nat.gcd h.natAbs l.natAbs : Int) ≠ 0 ∧ Low (h.fdiv (Nat.gcd h.natAbs l.natAbs : Nat)) (l.fdiv (Nat.gcd h.natAbs l.natAbs : Nat)) ∧ (h.fdiv (Nat.gcd h.natAbs l.natAbs : Nat)).natAbs ≤ h.natAbs ∧ (l.fdiv (Nat.gcd h.natAbs l.natAbs : Nat)).natAbs ≤ l.natAbs := by
  have g0 : Nat.gcd h.natAbs l.natAbs ≠ 0 := fun z => by have := Nat.eq_zero_of_gcd_eq_zero_right z; omega
  generalize hc : ((Nat.gcd h.natAbs l.natAbs : Nat) : Int) = c
  have ca : c.natAbs = Nat.gcd h.natAbs l.natAbs := by omega
  have c0 : c ≠ 0 := by omega
  have d1 : c ∣ h := Int.natAbs_dvd_natAbs.mp (by rw [ca]; exact Nat.gcd_dvd_left _ _)
  have d2 : c ∣ l := Int.natAbs_dvd_natAbs.mp (by rw [ca]; exact Nat.gcd_dvd_right _ _)
  obtain ⟨a1, a2⟩ := natAbs_fdiv_le h c c0 d1
  obtain ⟨b1, b2⟩ := natAbs_fdiv_le l c c0 d2
  refine ⟨c0, ⟨?_, ?_⟩, a1, b1⟩
  · have : 0 < l.fdiv c := Int.not_le.mp fun z => by
      have : l.fdiv c * c ≤ 0 := Int.mul_nonpos_of_nonpos_of_nonneg z (by omega)
      omega
    omega
  · have e1 : (h.fdiv c).natAbs * c.natAbs = h.natAbs := by rw [← Int.natAbs_mul, a2]
    have e2 : (l.fdiv c).natAbs * c.natAbs = l.natAbs := by rw [← Int.natAbs_mul, b2]
    have e3 : Nat.gcd (h.fdiv c).natAbs (l.fdiv c).natAbs * c.natAbs = 1 * c.natAbs := by
      rw [← Nat.gcd_mul_right, e1, e2, ca, Nat.one_mul]
    exact Nat.eq_of_mul_eq_mul_right (by omega) e3
/-- a share: a quotient that is not long -/
def shP (r : T) : Prop := ∃ a b, r = Q a b ∧ Low a b ∧ a.natAbs ≤ 500000000000 ∧ b.natAbs ≤ 1000000000000
theorem sub_C {m : Mv} {i j : Int} {e e1 : En} (h : m e = .ok (.val (.int i)) e1) : m2 fSub (mTree m) (mC (.int j)) e = .ok (.val (.int (i - j))) e1 := by
  simp [m2, mTree, h, mC, Res.bind, fSub, give, RV.tree]
theorem take_at {b : Int} (hb : 0 < b) {i : Nat} {e : En} {ns : List Int} (he : e[i]? = some (some (.own (pn ns)))) : ∃ (j : Int) (ns' : List Int), mCallP D__law_take i (mCons (mC (.int b)) mNil) e = .ok (.val (.int j)) (e.set i (some (.own (pn ns')))) ∧ 0 ≤ j ∧ j < b := by
  obtain ⟨r, ns', hc, j, rfl, h0, h1⟩ := callP (take_ok hb) (ts := [.int b]) (i := i) (ms := mCons (mC (.int b)) mNil) (e := e) (ns := ns) he rfl
  exact ⟨j, ns', hc, h0, h1⟩
theorem great_at {i : Nat} {e : En} {ns : List Int} (he : e[i]? = some (some (.own (pn ns)))) : ∃ (j : Int) (ns' : List Int), mCallP D__law_great i mNil e = .ok (.val (.int j)) (e.set i (some (.own (pn ns')))) ∧ 0 ≤ j ∧ j < 1000000000000 := by
  obtain ⟨r, ns', hc, j, rfl, h0, h1⟩ := callP great_ok (ts := []) (i := i) (ms := mNil) (e := e) (ns := ns) he rfl
  exact ⟨j, ns', hc, h0, h1⟩
theorem eqI {i : Nat} {e : En} {j k : Int} (h : e[i]? = some (some (.val (.int j)))) : mTst (mTree (m2 fEq (mVar i) (mC (.int k)))) e = .ok (decide (j = k)) e := by
  simp [mTst, mTree, m2, mVar, h, mC, Res.bind, fEq, TL.same, give, RV.tree]
theorem eqB {i : Nat} {e : En} {j k : Int} {b : Bool} (h : e[i]? = some (some (.val (.int j)))) (hb : decide (j = k) = b) : mTst (mTree (m2 fEq (mVar i) (mC (.int k)))) e = .ok b e := by
  subst hb
  exact eqI h
theorem n40 {n : Nat} (h : n ≤ 1000000000000) : n < 2 ^ 200 := Nat.lt_of_le_of_lt h (by decide)
theorem n80 {n : Nat} (h : n ≤ 1000000000000) : n < 2 ^ 80 := Nat.lt_of_le_of_lt h (by decide)
def tailH : Ms := (mSeq (mSet 4 (mCall D__law_common (mCons (mTree (mN fAbs (mCons (mVar 1) mNil))) (mCons (mVar 2) mNil))))
  (mRet (mVal (mTup (mCons (mTree (m2 fDivG (mVar 1) (mVar 4))) (mCons (mTree (m2 fDivG (mVar 2) (mVar 4))) mNil))))))
theorem tail_ok {x0 x3 x4 : Option RV} {h l : Int} (hh : h.natAbs ≤ 500000000000) (h0 : 1 ≤ l) (hl : l.natAbs ≤ 1000000000000) : ∃ r y4, tailH [x0, some (.val (.int h)), some (.val (.int l)), x3, x4] = .ok (.rt (.val r)) [x0, some (.val (.int h)), some (.val (.int l)), x3, y4] ∧ shP r := by
  obtain ⟨g0, g1, g2, g3⟩ := low_div (h := h) h0
  obtain ⟨l', rfl⟩ : ∃ l' : Nat, l = (l' : Int) := ⟨l.toNat, by omega⟩
  rw [Int.natAbs_natCast] at hl
  have gs : small ((Nat.gcd h.natAbs l' : Nat) : Int) = true := smN (Nat.lt_of_le_of_lt (Nat.le_of_dvd (by omega) (Nat.gcd_dvd_right h.natAbs l')) (n40 hl))
  rw [Int.natAbs_natCast] at g0 g1 g2 g3
  refine ⟨Q (h.fdiv (Nat.gcd h.natAbs l' : Nat)) ((l' : Int).fdiv (Nat.gcd h.natAbs l' : Nat)), some (.val (.int (Nat.gcd h.natAbs l' : Nat))), ?_, _, _, rfl, g1, by omega, by omega⟩
  refine (seq_set (callV2 (e := [x0, some (.val (.int h)), some (.val (.int (l' : Int))), x3, x4]) (abs_ok rfl) rfl (common_ok (n40 (by omega)) (n40 hl)))).trans ?_
  exact ret_eq (val_ok (tup_ok (cons_ok (dv_ok rfl rfl g0 gs) (cons_ok (dv_ok rfl rfl g0 gs) rfl)) (by simp)))
theorem share_ok : PL D__law_share [] shP := run_po rfl rfl fun ns => by
  show ∃ r ns' e, M__law_share [some (.own (pn ns)), none, none, none, none] = _ ∧ _
  obtain ⟨i, ns1, t1, i0, i1⟩ := take_at (b := 25) (by decide) (i := 0) (e := [some (.own (pn ns)), none, none, none, none]) rfl
  obtain ⟨j, ns2, t2, j0, j1⟩ := take_at (b := 12) (by decide) (i := 0) (e := [some (.own (pn ns1)), some (.val (.int (i - 12))), none, none, none]) rfl
  obtain ⟨c, ns3, t3, c0, c1⟩ := take_at (b := 6) (by decide) (i := 0) (e := [some (.own (pn ns2)), some (.val (.int (i - 12))), some (.val (.int (1 + j))), none, none]) rfl
  unfold M__law_share
  rw [seq_set (sub_C t1)]
  simp only [List.set]
  rw [seq_set (add_ok (tree_ok t2))]
  simp only [List.set]
  rw [seq_set t3]
  simp only [List.set]
  by_cases h5 : c = 5
  · subst h5
    obtain ⟨g, ns4, t4, g0, g1⟩ := great_at (i := 0) (e := [some (.own (pn ns3)), some (.val (.int (i - 12))), some (.val (.int (1 + j))), some (.val (.int 5)), none]) rfl
    obtain ⟨k, ns5, t5, k0, k1⟩ := great_at (i := 0) (e := [some (.own (pn ns4)), some (.val (.int (g - 500000000000))), some (.val (.int (1 + j))), some (.val (.int 5)), none]) rfl
    obtain ⟨r, y4, ht, hp⟩ := tail_ok (x0 := some (.own (pn ns5))) (x3 := some (.val (.int 5))) (x4 := none) (h := g - 500000000000) (l := 1 + k) (by omega) (by omega) (by omega)
    refine ⟨r, ns5, [some (.val (.int (g - 500000000000))), some (.val (.int (1 + k))), some (.val (.int 5)), y4], ?_, hp⟩
    have s1 : m2 fSub (mTree (mCallP D__law_great 0 mNil)) (mTree (m2 fMul (mC (.int 5)) (mTree (m2 fPow (mC (.int 10)) (mC (.int 11)))))) [some (.own (pn ns3)), some (.val (.int (i - 12))), some (.val (.int (1 + j))), some (.val (.int 5)), none] = .ok (.val (.int (g - 500000000000))) [some (.own (pn ns4)), some (.val (.int (i - 12))), some (.val (.int (1 + j))), some (.val (.int 5)), none] := by
      have z := tree_ok t4
      simp only [m2, z, Res.bind]
      rfl
    refine (seq_if_nx (e1 := [some (.own (pn ns3)), some (.val (.int (i - 12))), some (.val (.int (1 + j))), some (.val (.int 5)), none]) (eqB rfl (by decide)) ((seq_set s1).trans (set_eq (add_ok (tree_ok t5))))).trans ?_
    refine (seq_if_f (e1 := [some (.own (pn ns5)), some (.val (.int (g - 500000000000))), some (.val (.int (1 + k))), some (.val (.int 5)), none]) (eqB rfl (by decide))).trans ?_
    exact ht
  · by_cases h4 : c = 4
    · subst h4
      obtain ⟨r, y4, ht, hp⟩ := tail_ok (x0 := some (.own (pn ns3))) (x3 := some (.val (.int 4))) (x4 := none) (h := (i - 12) * 10000000000) (l := 1 + j) (by omega) (by omega) (by omega)
      refine ⟨r, ns3, [some (.val (.int ((i - 12) * 10000000000))), some (.val (.int (1 + j))), some (.val (.int 4)), y4], ?_, hp⟩
      have s1 : m2 fMul (mVar 1) (mTree (m2 fPow (mC (.int 10)) (mC (.int 10)))) [some (.own (pn ns3)), some (.val (.int (i - 12))), some (.val (.int (1 + j))), some (.val (.int 4)), none] = .ok (.val (.int ((i - 12) * 10000000000))) [some (.own (pn ns3)), some (.val (.int (i - 12))), some (.val (.int (1 + j))), some (.val (.int 4)), none] := by
        have q1 : mTree (m2 fPow (mC (.int 10)) (mC (.int 10))) [some (.own (pn ns3)), some (.val (.int (i - 12))), some (.val (.int (1 + j))), some (.val (.int 4)), none] = .ok (.int 10000000000) [some (.own (pn ns3)), some (.val (.int (i - 12))), some (.val (.int (1 + j))), some (.val (.int 4)), none] := rfl
        have q2 : mVar 1 [some (.own (pn ns3)), some (.val (.int (i - 12))), some (.val (.int (1 + j))), some (.val (.int 4)), none] = .ok (.int (i - 12)) [some (.own (pn ns3)), some (.val (.int (i - 12))), some (.val (.int (1 + j))), some (.val (.int 4)), none] := rfl
        simp only [m2, q1, q2, Res.bind, fMul, sm (n := i - 12) (n40 (by omega)), sm (n := 10000000000) (n40 (by decide))]
        rfl
      refine (seq_if_f (e1 := [some (.own (pn ns3)), some (.val (.int (i - 12))), some (.val (.int (1 + j))), some (.val (.int 4)), none]) (eqB rfl (by decide))).trans ?_
      refine (seq_if_nx (e1 := [some (.own (pn ns3)), some (.val (.int (i - 12))), some (.val (.int (1 + j))), some (.val (.int 4)), none]) (eqB rfl (by decide)) (set_eq s1)).trans ?_
      exact ht
    · obtain ⟨r, y4, ht, hp⟩ := tail_ok (x0 := some (.own (pn ns3))) (x3 := some (.val (.int c))) (x4 := none) (h := i - 12) (l := 1 + j) (by omega) (by omega) (by omega)
      refine ⟨r, ns3, [some (.val (.int (i - 12))), some (.val (.int (1 + j))), some (.val (.int c)), y4], ?_, hp⟩
      refine (seq_if_f (e1 := [some (.own (pn ns3)), some (.val (.int (i - 12))), some (.val (.int (1 + j))), some (.val (.int c)), none]) (eqB rfl (decide_eq_false h5))).trans ?_
      refine (seq_if_f (e1 := [some (.own (pn ns3)), some (.val (.int (i - 12))), some (.val (.int (1 + j))), some (.val (.int c)), none]) (eqB rfl (decide_eq_false h4))).trans ?_
      exact ht
end G
end
section
set_option Elab.async false
set_option linter.all false
set_option autoImplicit false
set_option maxRecDepth 100000
set_option maxHeartbeats 1000000
set_option exponentiation.threshold 10000
namespace G
open PySem PySem.Spec PyProof.Rows L2 TL
def endC : Ms := (mSeq (mAsg (gT (gsCons (gN 6) (gsCons (gN 7) gsNil)) 2) (mTree (mCall D__law_number (mCons (mVar 5) (mCons (mVar 1) (mCons (mVar 3) mNil))))))
  (mSeq (mSet 1 (mCall D__law_deed (mCons (mVar 5) (mCons (mTup (mCons (mVar 1) (mCons (mVar 3) mNil))) mNil))))
  (mSeq (mIfS (mNotT (mTst (mTree (mCall D__law_stands (mCons (mVar 1) (mCons (mVar 6) (mCons (mVar 7) mNil)))))))
  (mRet (mVal (mC (.bool false))))
  mNx)
  (mIfS (mOrT (mTst (mTree (m2 fGt (mTree (mN fAbs (mCons (mIxV 1 (mC (.int 0))) mNil))) (mTree (m2 fPow (mC (.int 10)) (mC (.int 12))))))) (mTst (mTree (m2 fGt (mIxV 1 (mC (.int 1))) (mTree (m2 fPow (mC (.int 10)) (mC (.int 12))))))))
  (mRet (mVal (mC (.bool true))))
  mNx))))
def bodyC : Ms := (mSeq (mSet 3 (mVal (mTup (mCons (mTree (m2 fSub (mTree (mCallP D__law_take 0 (mCons (mC (.int 13)) mNil))) (mC (.int 6)))) (mCons (mTree (m2 fAdd (mC (.int 1)) (mTree (mCallP D__law_take 0 (mCons (mC (.int 4)) mNil))))) mNil)))))
  (mSeq (mSet 4 (mCall D__law_common (mCons (mTree (mN fAbs (mCons (mIxV 3 (mC (.int 0))) mNil))) (mCons (mIxV 3 (mC (.int 1))) mNil))))
  (mSeq (mSet 3 (mVal (mTup (mCons (mTree (m2 fDivG (mIxV 3 (mC (.int 0))) (mVar 4))) (mCons (mTree (m2 fDivG (mIxV 3 (mC (.int 1))) (mVar 4))) mNil)))))
  (mSeq (mSet 5 (m2 fIx (mTree (mLst (mCons (mC (.str "times")) (mCons (mC (.str "plus")) (mCons (mC (.str "minus")) (mCons (mC (.str "over")) mNil)))))) (mTree (mCallP D__law_take 0 (mCons (mC (.int 4)) mNil)))))
  (mSeq (mIfS (mAndT (mTst (mTree (m2 fEq (mVar 5) (mC (.str "over"))))) (mTst (mTree (m2 fEq (mIxV 3 (mC (.int 0))) (mC (.int 0))))))
  (mSet 5 (mVal (mC (.str "plus"))))
  mNx)
  endC)))))
section
variable {a b c d : Int}
/-- the quotient that the chain holds -/
def Ch (a b : Int) : Prop := Low a b ∧ a.natAbs ≤ 1000000000000 ∧ b.natAbs ≤ 1000000000000
theorem Ch.qt (h : Ch a b) : Qt a b := ⟨h.1, n80 h.2.1, n80 h.2.2⟩
theorem endC_ok {s : Str} {x y h l : Int} {p k x4 x6 x7 : Option RV} (g : Deed s a b c d x y h l) : (endC [p, some (.val (Q a b)), k, some (.val (Q c d)), x4, some (.val (.str s)), x6, x7] = .ok .nx [p, some (.val (Q x y)), k, some (.val (Q c d)), x4, some (.val (.str s)), some (.val (.int h)), some (.val (.int l))] ∧ Ch x y)
    ∨ endC [p, some (.val (Q a b)), k, some (.val (Q c d)), x4, some (.val (.str s)), x6, x7] = .ok (.rt (.val (.bool true))) [p, some (.val (Q x y)), k, some (.val (Q c d)), x4, some (.val (.str s)), some (.val (.int h)), some (.val (.int l))] := by
  have st : ∀ r, mIfS (mOrT (mTst (mTree (m2 fGt (mTree (mN fAbs (mCons (mIxV 1 (mC (.int 0))) mNil))) (mTree (m2 fPow (mC (.int 10)) (mC (.int 12))))))) (mTst (mTree (m2 fGt (mIxV 1 (mC (.int 1))) (mTree (m2 fPow (mC (.int 10)) (mC (.int 12))))))))
      (mRet (mVal (mC (.bool true)))) mNx [p, some (.val (Q x y)), k, some (.val (Q c d)), x4, some (.val (.str s)), some (.val (.int h)), some (.val (.int l))] = r → endC [p, some (.val (Q a b)), k, some (.val (Q c d)), x4, some (.val (.str s)), x6, x7] = r := fun r hr => by
    refine (seq_nx (asg_ok (e2 := [p, some (.val (Q a b)), k, some (.val (Q c d)), x4, some (.val (.str s)), some (.val (.int h)), some (.val (.int l))]) (call3 rfl rfl rfl g.num) rfl)).trans ?_
    refine (seq_set (callV2 (e := [p, some (.val (Q a b)), k, some (.val (Q c d)), x4, some (.val (.str s)), some (.val (.int h)), some (.val (.int l))]) rfl rfl g.did)).trans ?_
    exact (seq_if_f (e1 := [p, some (.val (Q x y)), k, some (.val (Q c d)), x4, some (.val (.str s)), some (.val (.int h)), some (.val (.int l))]) (not_t (tst_eq (call3 rfl rfl rfl g.st)))).trans hr
  have c1 : mTst (mTree (m2 fGt (mTree (mN fAbs (mCons (mIxV 1 (mC (.int 0))) mNil))) (mTree (m2 fPow (mC (.int 10)) (mC (.int 12)))))) [p, some (.val (Q x y)), k, some (.val (Q c d)), x4, some (.val (.str s)), some (.val (.int h)), some (.val (.int l))] = .ok (decide ((1000000000000 : Int) < (x.natAbs : Nat))) [p, some (.val (Q x y)), k, some (.val (Q c d)), x4, some (.val (.str s)), some (.val (.int h)), some (.val (.int l))] := by
    have z : mTree (mN fAbs (mCons (mIxV 1 (mC (.int 0))) mNil)) [p, some (.val (Q x y)), k, some (.val (Q c d)), x4, some (.val (.str s)), some (.val (.int h)), some (.val (.int l))] = .ok (.int (x.natAbs : Nat)) [p, some (.val (Q x y)), k, some (.val (Q c d)), x4, some (.val (.str s)), some (.val (.int h)), some (.val (.int l))] := abs_ok rfl
    refine tst_eq (tree_ok (r := .val (.bool (decide ((1000000000000 : Int) < (x.natAbs : Nat))))) ?_)
    simp only [m2, z, Res.bind]
    rfl
  have c2 : mTst (mTree (m2 fGt (mIxV 1 (mC (.int 1))) (mTree (m2 fPow (mC (.int 10)) (mC (.int 12)))))) [p, some (.val (Q x y)), k, some (.val (Q c d)), x4, some (.val (.str s)), some (.val (.int h)), some (.val (.int l))] = .ok (decide ((1000000000000 : Int) < y)) [p, some (.val (Q x y)), k, some (.val (Q c d)), x4, some (.val (.str s)), some (.val (.int h)), some (.val (.int l))] := rfl
  by_cases h1 : (1000000000000 : Int) < (x.natAbs : Nat)
  · rw [decide_eq_true h1] at c1
    exact .inr (st _ ((if_yes (orT_t c1)).trans rfl))
  · rw [decide_eq_false h1] at c1
    by_cases h2 : (1000000000000 : Int) < y
    · rw [decide_eq_true h2] at c2
      exact .inr (st _ ((if_yes ((orT_f c1).trans c2)).trans rfl))
    · rw [decide_eq_false h2] at c2
      have := g.low.1
      exact .inl ⟨st _ ((if_nx ((orT_f c1).trans c2)).trans rfl), g.low, by omega, by omega⟩
theorem pick4 {ns : List Int} {e : En} (he : e[0]? = some (some (.own (pn ns)))) : ∃ (s : Str) (ns' : List Int), m2 fIx (mTree (mLst (mCons (mC (.str "times")) (mCons (mC (.str "plus")) (mCons (mC (.str "minus")) (mCons (mC (.str "over")) mNil)))))) (mTree (mCallP D__law_take 0 (mCons (mC (.int 4)) mNil))) e = .ok (.val (.str s)) (e.set 0 (some (.own (pn ns')))) ∧ (s = "times" ∨ s = "plus" ∨ s = "minus" ∨ s = "over") := by
  obtain ⟨j, ns', hc, h0, h1⟩ := take_at (b := 4) (by decide) he
  have ht := tree_ok hc
  have hl : mTree (mLst (mCons (mC (.str "times")) (mCons (mC (.str "plus")) (mCons (mC (.str "minus")) (mCons (mC (.str "over")) mNil))))) e = .ok (.list [.str "times", .str "plus", .str "minus", .str "over"]) e := rfl
  have q : j = 0 ∨ j = 1 ∨ j = 2 ∨ j = 3 := by omega
  have go : ∀ s, fIx (.list [.str "times", .str "plus", .str "minus", .str "over"]) (.int j) = some (.val (.str s)) → m2 fIx (mTree (mLst (mCons (mC (.str "times")) (mCons (mC (.str "plus")) (mCons (mC (.str "minus")) (mCons (mC (.str "over")) mNil)))))) (mTree (mCallP D__law_take 0 (mCons (mC (.int 4)) mNil))) e = .ok (.val (.str s)) (e.set 0 (some (.own (pn ns')))) := fun s hs => by
    simp only [m2, hl, Res.bind]
    rw [ht]
    simp only [RV.tree, hs, give]
  rcases q with rfl | rfl | rfl | rfl
  · exact ⟨_, ns', go "times" rfl, .inl rfl⟩
  · exact ⟨_, ns', go "plus" rfl, .inr (.inl rfl)⟩
  · exact ⟨_, ns', go "minus" rfl, .inr (.inr (.inl rfl))⟩
  · exact ⟨_, ns', go "over" rfl, .inr (.inr (.inr rfl))⟩
theorem guard_ok {s : Str} {p k x4 x6 x7 : Option RV} (ha : Ch a b) (hc : Qt c d) (hs : s = "times" ∨ s = "plus" ∨ s = "minus" ∨ s = "over") : ∃ s' x y h l, Deed s' a b c d x y h l ∧
    mSeq (mIfS (mAndT (mTst (mTree (m2 fEq (mVar 5) (mC (.str "over"))))) (mTst (mTree (m2 fEq (mIxV 3 (mC (.int 0))) (mC (.int 0)))))) (mSet 5 (mVal (mC (.str "plus")))) mNx) endC [p, some (.val (Q a b)), k, some (.val (Q c d)), x4, some (.val (.str s)), x6, x7]
      = endC [p, some (.val (Q a b)), k, some (.val (Q c d)), x4, some (.val (.str s')), x6, x7] := by
  rcases hs with rfl | rfl | rfl | rfl
  · obtain ⟨x, y, g⟩ := deedT ha.qt hc
    exact ⟨_, x, y, _, _, g, seq_if_f (andT_f (eqS rfl (by decide +kernel)))⟩
  · obtain ⟨x, y, g⟩ := deedP ha.qt hc
    exact ⟨_, x, y, _, _, g, seq_if_f (andT_f (eqS rfl (by decide +kernel)))⟩
  · obtain ⟨x, y, g⟩ := deedM ha.qt hc
    exact ⟨_, x, y, _, _, g, seq_if_f (andT_f (eqS rfl (by decide +kernel)))⟩
  · have cc : mAndT (mTst (mTree (m2 fEq (mVar 5) (mC (.str "over"))))) (mTst (mTree (m2 fEq (mIxV 3 (mC (.int 0))) (mC (.int 0))))) [p, some (.val (Q a b)), k, some (.val (Q c d)), x4, some (.val (.str "over")), x6, x7] = .ok (decide (c = 0)) [p, some (.val (Q a b)), k, some (.val (Q c d)), x4, some (.val (.str "over")), x6, x7] :=
      (andT_t (eqS (b := true) rfl (by decide +kernel))).trans rfl
    by_cases h0 : c = 0
    · rw [decide_eq_true h0] at cc
      obtain ⟨x, y, g⟩ := deedP ha.qt hc
      exact ⟨_, x, y, _, _, g, seq_if_nx cc (set_eq rfl)⟩
    · rw [decide_eq_false h0] at cc
      obtain ⟨x, y, g⟩ := deedO ha.qt hc h0
      exact ⟨_, x, y, _, _, g, seq_if_f cc⟩
theorem bodyC_ok {a b : Int} {ns : List Int} {k x3 x4 x5 x6 x7 : Option RV} (ha : Ch a b) : ∃ ns' x y y3 y4 y5 y6 y7, (bodyC [some (.own (pn ns)), some (.val (Q a b)), k, x3, x4, x5, x6, x7] = .ok .nx [some (.own (pn ns')), some (.val (Q x y)), k, y3, y4, y5, y6, y7] ∧ Ch x y)
    ∨ bodyC [some (.own (pn ns)), some (.val (Q a b)), k, x3, x4, x5, x6, x7] = .ok (.rt (.val (.bool true))) [some (.own (pn ns')), some (.val (Q x y)), k, y3, y4, y5, y6, y7] := by
  obtain ⟨i, ns1, t1, i0, i1⟩ := take_at (b := 13) (by decide) (i := 0) (e := [some (.own (pn ns)), some (.val (Q a b)), k, x3, x4, x5, x6, x7]) rfl
  obtain ⟨j, ns2, t2, j0, j1⟩ := take_at (b := 4) (by decide) (i := 0) (e := [some (.own (pn ns1)), some (.val (Q a b)), k, x3, x4, x5, x6, x7]) rfl
  obtain ⟨g0, g1, g2, g3⟩ := low_div (h := i - 6) (l := 1 + j) (by omega)
  have gs : small ((Nat.gcd (i - 6).natAbs (1 + j).natAbs : Nat) : Int) = true := smN (Nat.lt_of_le_of_lt (Nat.le_of_dvd (by omega) (Nat.gcd_dvd_right _ _)) (n40 (by omega)))
  have cm := common_ok (a := (i - 6).natAbs) (b := (1 + j).natAbs) (n40 (by omega)) (n40 (by omega))
  have ej : (((1 + j).natAbs : Nat) : Int) = 1 + j := by omega
  rw [ej] at cm
  generalize ((Nat.gcd (i - 6).natAbs (1 + j).natAbs : Nat) : Int) = G at *
  have bc : ((i - 6).fdiv G).natAbs < 2 ^ 80 := n80 (by omega)
  have bd : ((1 + j).fdiv G).natAbs < 2 ^ 80 := n80 (by omega)
  generalize hc : (i - 6).fdiv G = c at *
  generalize hd : (1 + j).fdiv G = d at *
  obtain ⟨s, ns3, t3, hs⟩ := pick4 (e := [some (.own (pn ns2)), some (.val (Q a b)), k, some (.val (Q c d)), some (.val (.int G)), x5, x6, x7]) rfl
  obtain ⟨s', x, y, h, l, gd, hg⟩ := guard_ok (p := some (.own (pn ns3))) (k := k) (x4 := some (.val (.int G))) (x6 := x6) (x7 := x7) ha (⟨g1, bc, bd⟩ : Qt _ _) hs
  have e1 : mVal (mTup (mCons (mTree (m2 fSub (mTree (mCallP D__law_take 0 (mCons (mC (.int 13)) mNil))) (mC (.int 6)))) (mCons (mTree (m2 fAdd (mC (.int 1)) (mTree (mCallP D__law_take 0 (mCons (mC (.int 4)) mNil))))) mNil))) [some (.own (pn ns)), some (.val (Q a b)), k, x3, x4, x5, x6, x7]
      = .ok (.val (Q (i - 6) (1 + j))) [some (.own (pn ns2)), some (.val (Q a b)), k, x3, x4, x5, x6, x7] :=
    val_ok (tup_ok (ts := [.int (i - 6), .int (1 + j)]) (cons_ok (tree_ok (sub_C t1)) (cons_ok (tree_ok (add_ok (tree_ok t2))) rfl)) (by simp))
  have e2 : mCall D__law_common (mCons (mTree (mN fAbs (mCons (mIxV 3 (mC (.int 0))) mNil))) (mCons (mIxV 3 (mC (.int 1))) mNil)) [some (.own (pn ns2)), some (.val (Q a b)), k, some (.val (Q (i - 6) (1 + j))), x4, x5, x6, x7]
      = .ok (.val (.int G)) [some (.own (pn ns2)), some (.val (Q a b)), k, some (.val (Q (i - 6) (1 + j))), x4, x5, x6, x7] := callV2 (abs_ok rfl) rfl cm
  have d1 : mTree (m2 fDivG (mIxV 3 (mC (.int 0))) (mVar 4)) [some (.own (pn ns2)), some (.val (Q a b)), k, some (.val (Q (i - 6) (1 + j))), some (.val (.int G)), x5, x6, x7] = .ok (.int c) [some (.own (pn ns2)), some (.val (Q a b)), k, some (.val (Q (i - 6) (1 + j))), some (.val (.int G)), x5, x6, x7] := by
    rw [← hc]
    exact dv_ok rfl rfl g0 gs
  have d2 : mTree (m2 fDivG (mIxV 3 (mC (.int 1))) (mVar 4)) [some (.own (pn ns2)), some (.val (Q a b)), k, some (.val (Q (i - 6) (1 + j))), some (.val (.int G)), x5, x6, x7] = .ok (.int d) [some (.own (pn ns2)), some (.val (Q a b)), k, some (.val (Q (i - 6) (1 + j))), some (.val (.int G)), x5, x6, x7] := by
    rw [← hd]
    exact dv_ok rfl rfl g0 gs
  have e3 : mVal (mTup (mCons (mTree (m2 fDivG (mIxV 3 (mC (.int 0))) (mVar 4))) (mCons (mTree (m2 fDivG (mIxV 3 (mC (.int 1))) (mVar 4))) mNil))) [some (.own (pn ns2)), some (.val (Q a b)), k, some (.val (Q (i - 6) (1 + j))), some (.val (.int G)), x5, x6, x7]
      = .ok (.val (Q c d)) [some (.own (pn ns2)), some (.val (Q a b)), k, some (.val (Q (i - 6) (1 + j))), some (.val (.int G)), x5, x6, x7] :=
    val_ok (tup_ok (ts := [.int c, .int d]) (cons_ok d1 (cons_ok d2 rfl)) (by simp))
  have all : bodyC [some (.own (pn ns)), some (.val (Q a b)), k, x3, x4, x5, x6, x7] = endC [some (.own (pn ns3)), some (.val (Q a b)), k, some (.val (Q c d)), some (.val (.int G)), some (.val (.str s')), x6, x7] :=
    (seq_set e1).trans ((seq_set e2).trans ((seq_set e3).trans ((seq_set t3).trans hg)))
  refine ⟨ns3, x, y, some (.val (Q c d)), some (.val (.int G)), some (.val (.str s')), some (.val (.int h)), some (.val (.int l)), ?_⟩
  rw [all]
  exact endC_ok gd
end
theorem loopC : ∀ (f : Nat) (lo : Int) (ns : List Int) (a b : Int) (k x3 x4 x5 x6 x7 : Option RV), Ch a b → ∃ ns' rest o, mLoop (gN 2) bodyC (rngT lo f) [some (.own (pn ns)), some (.val (Q a b)), k, x3, x4, x5, x6, x7] = .ok o (some (.own (pn ns')) :: rest) ∧ (o = .nx ∨ o = .rt (.val (.bool true)))
  | 0, lo, ns, a, b, k, x3, x4, x5, x6, x7, h => ⟨_, _, _, rfl, .inl rfl⟩
  | f + 1, lo, ns, a, b, k, x3, x4, x5, x6, x7, h => by
    obtain ⟨ns1, x, y, y3, y4, y5, y6, y7, hb⟩ := bodyC_ok (ns := ns) (k := some (.val (.int lo))) (x3 := x3) (x4 := x4) (x5 := x5) (x6 := x6) (x7 := x7) h
    rw [rng_cons]
    unfold mLoop
    simp only [gN, List.set]
    rcases hb with ⟨hb, hc⟩ | hb
    · rw [hb]
      exact loopC f (lo + 1) ns1 x y _ y3 y4 y5 y6 y7 hc
    · rw [hb]
      exact ⟨_, _, _, rfl, .inr rfl⟩
theorem chain_ok {a b : Int} (h : Ch a b) : PL D__law_chain [.val (Q a b)] (fun r => r = .bool true) := run_po rfl rfl fun ns => by
  show ∃ r ns' e, M__law_chain [some (.own (pn ns)), some (.val (Q a b)), none, none, none, none, none, none] = _ ∧ _
  obtain ⟨ns', rest, o, hl, ho⟩ := loopC 6 0 ns a b none none none none none none h
  have hf : mFor (mRng (mCons (mC (.int 6)) mNil)) (gN 2) bodyC [some (.own (pn ns)), some (.val (Q a b)), none, none, none, none, none, none] = _ := hl
  refine ⟨.bool true, ns', rest, ?_, rfl⟩
  rcases ho with rfl | rfl
  · exact (seq_nx hf).trans rfl
  · exact seq_rt hf
end G
end
section
set_option Elab.async false
set_option linter.all false
set_option autoImplicit false
set_option maxRecDepth 100000
set_option maxHeartbeats 1000000
set_option exponentiation.threshold 10000
namespace G
open PySem PySem.Spec PyProof.Rows L2 TL
/-! ### rows of numbers, compared -/
theorem eqvAll_tn : ∀ a b : List Nat, PyData.eqvAll (tn a) (tn b) = decide (a = b)
  | [], [] => by simp [tn, PyData.eqvAll]
  | [], _ :: _ => by simp [tn, PyData.eqvAll]
  | _ :: _, [] => by simp [tn, PyData.eqvAll]
  | x :: a, y :: b => by
    have ih := eqvAll_tn a b
    unfold tn at ih
    simp only [tn, List.map_cons, PyData.eqvAll, PyData.eqv, ih]
    by_cases hxy : x = y
    · subst hxy; simp
    · simp [hxy]
      intro h
      omega
theorem noDicts_tn : ∀ a : List Nat, noDicts (tn a) = true
  | [] => rfl
  | _ :: a => by
    have := noDicts_tn a
    show (true && noDicts (tn a)) = true
    rw [this]; rfl
theorem canLay_tn : ∀ a : List Nat, PyData.canLayAll0 (tn a) = true
  | [] => by simp [tn, PyData.canLayAll0]
  | _ :: a => by
    have := canLay_tn a
    unfold tn at this
    simp [tn, PyData.canLayAll0, PyData.canLay0, this]
theorem depth_tn : ∀ a : List Nat, PyData.depthAll (tn a) = 0
  | [] => by simp [tn, PyData.depthAll]
  | _ :: a => by
    have := depth_tn a
    unfold tn at this
    simp [tn, PyData.depthAll, PyData.depth, this]
theorem same_tup (a b : List Nat) : TL.same (.tuple (tn a)) (.tuple (tn b)) = some (decide (a = b)) := by
  have h1 : ∀ a, noDict (.tuple (tn a)) = true := fun a => noDicts_tn a
  have h2 : ∀ a, SeqAt.shaped (.tuple (tn a)) = true := fun a => by
    unfold SeqAt.shaped
    simp [PyData.canLay0, canLay_tn, PyData.depth, depth_tn]
  simp only [TL.same, h1, h2, Bool.and_self, if_true, PyData.eqv, eqvAll_tn]
theorem same_lst (a b : List Nat) : TL.same (.list (tn a)) (.list (tn b)) = some (decide (a = b)) := by
  have h1 : ∀ a, noDict (.list (tn a)) = true := fun a => noDicts_tn a
  have h2 : ∀ a, SeqAt.shaped (.list (tn a)) = true := fun a => by
    unfold SeqAt.shaped
    simp [PyData.canLay0, canLay_tn, PyData.depth, depth_tn]
  simp only [TL.same, h1, h2, Bool.and_self, if_true, PyData.eqv, eqvAll_tn]
/-- tuples of rows -/
def tt (ls : List (List Nat)) : List T := ls.map fun l => .tuple (tn l)
theorem same_tt (ls : List (List Nat)) : TL.same (.tuple (tt ls)) (.tuple (tt ls)) = some true := by
  have h1 : ∀ ls : List (List Nat), noDicts (tt ls) = true := fun ls => by
    induction ls with
    | nil => rfl
    | cons l ls ih =>
      show (noDicts (tn l) && noDicts (tt ls)) = true
      rw [noDicts_tn, ih]; rfl
  have h2 : ∀ ls : List (List Nat), PyData.canLayAll0 (tt ls) = true := fun ls => by
    induction ls with
    | nil => simp [tt, PyData.canLayAll0]
    | cons l ls ih =>
      unfold tt at ih
      simp [tt, PyData.canLayAll0, PyData.canLay0, canLay_tn, ih]
  have h3 : ∀ ls : List (List Nat), PyData.depthAll (tt ls) ≤ 1 := fun ls => by
    induction ls with
    | nil => simp [tt, PyData.depthAll]
    | cons l ls ih =>
      unfold tt at ih
      simp [tt, PyData.depthAll, PyData.depth, depth_tn]
      omega
  have h4 : ∀ ls : List (List Nat), PyData.eqvAll (tt ls) (tt ls) = true := fun ls => by
    induction ls with
    | nil => simp [tt, PyData.eqvAll]
    | cons l ls ih =>
      unfold tt at ih
      simp [tt, PyData.eqvAll, PyData.eqv, eqvAll_tn, ih]
  have h5 : SeqAt.shaped (.tuple (tt ls)) = true := by
    unfold SeqAt.shaped
    have := h3 ls
    have e : (PyData.tuple (tt ls)).depth = PyData.depthAll (tt ls) + 1 := by simp [PyData.depth]
    rw [e]
    simp only [PyData.canLay0, h2, Bool.true_and, decide_eq_true_iff]
    omega
  have h6 : noDict (.tuple (tt ls)) = true := h1 ls
  simp only [TL.same, h5, h6, Bool.and_self, if_true, PyData.eqv, h4]
theorem row_ok {xs : List Nat} {d : T} (hl : xs.length ≤ 1000) (hd : d = .list (tn xs) ∨ d = .tuple (tn xs)) : Is (D__law_row [.val (.tuple (tn xs)), .val d]) (.bool true) := by
  have hp : items d = some (tn xs) := by rcases hd with rfl | rfl <;> rfl
  have hf : fList [d] = some (.own (tn xs)) := by rcases hd with rfl | rfl <;> rfl
  have len : (tn xs).length = xs.length := by simp [tn]
  have c1 : mOrT (mNotT (mTst (mIsi .tup (mVar 0)))) (mTst (mTree (m2 fNe (mLenV 0) (mLenV 1)))) [some (.val (.tuple (tn xs))), some (.val d), none] = .ok false [some (.val (.tuple (tn xs))), some (.val d), none] := by
    refine (orT_f (not_t rfl)).trans ?_
    refine tst_eq (tree_ok (r := .val (.bool false)) ?_)
    have q1 : mLenV 0 [some (.val (.tuple (tn xs))), some (.val d), none] = .ok (.int ((tn xs).length : Nat)) [some (.val (.tuple (tn xs))), some (.val d), none] := rfl
    have q2 : mLenV 1 [some (.val (.tuple (tn xs))), some (.val d), none] = .ok (.int ((tn xs).length : Nat)) [some (.val (.tuple (tn xs))), some (.val d), none] := by
      simp only [mLenV, peek, List.getElem?_cons_succ, List.getElem?_cons_zero, hp]
    simp [m2, q1, q2, Res.bind, fNe, TL.same, give]
  have cm : mComp (mSeq1 (mVar 0)) (gN 2) (mNotT (mTst (mTree (mCall D__law_int (mCons (mVar 2) mNil))))) (mVar 2) [2] [some (.val (.tuple (tn xs))), some (.val d), none] = .ok (.own (((tn xs).filter fun _ => false).map id)) [some (.val (.tuple (tn xs))), some (.val d), none] :=
    comp_eq (p := fun _ => false) (f := id) (e1 := [some (.val (.tuple (tn xs))), some (.val d), none]) rfl (by rw [len]; omega) fun t ht => by
      obtain ⟨k, _, rfl⟩ := List.mem_map.mp ht
      exact ⟨[some (.val (.tuple (tn xs))), some (.val d), some (.val (.int k))], _, rfl, not_t (tst_eq (call1 rfl (law_int_int k))), (by intro z; cases z), fun _ => rfl⟩
  rw [List.filter_eq_nil_iff.mpr (fun _ _ => by simp), List.map_nil] at cm
  have c2 : mTree (m2 fEq (mTree (mN fLen (mCons (mTree (mComp (mSeq1 (mVar 0)) (gN 2) (mNotT (mTst (mTree (mCall D__law_int (mCons (mVar 2) mNil))))) (mVar 2) [2])) mNil))) (mC (.int 0))) [some (.val (.tuple (tn xs))), some (.val d), none] = .ok (.bool true) [some (.val (.tuple (tn xs))), some (.val d), none] := by
    have z := tree_ok cm
    simp only [mTree, m2, mN, mCons, mNil] at z ⊢
    rw [z]
    rfl
  have c3 : mTree (m2 fEq (mTree (mN fList (mCons (mVar 0) mNil))) (mTree (mN fList (mCons (mVar 1) mNil)))) [some (.val (.tuple (tn xs))), some (.val d), none] = .ok (.bool true) [some (.val (.tuple (tn xs))), some (.val d), none] := by
    have q1 : mTree (mN fList (mCons (mVar 0) mNil)) [some (.val (.tuple (tn xs))), some (.val d), none] = .ok (.list (tn xs)) [some (.val (.tuple (tn xs))), some (.val d), none] := rfl
    have q2 : mTree (mN fList (mCons (mVar 1) mNil)) [some (.val (.tuple (tn xs))), some (.val d), none] = .ok (.list (tn xs)) [some (.val (.tuple (tn xs))), some (.val d), none] := by
      simp [mTree, mN, mCons, mNil, mVar, Res.bind, hf, give, RV.tree]
    refine tree_ok (r := .val (.bool true)) ?_
    simp only [m2, q1, q2, Res.bind, fEq, same_lst, decide_true, Option.map, give]
  exact run_body rfl ((seq_if_f c1).trans (ret_eq (val_ok ((and_t c2).trans c3))))
/-! ### joinings -/
def nAt (ns : List Nat) (p : Nat) : Nat := ns.getD p 0
def JO (ns : List Nat) : Prop := ∀ p, p < ns.length → nAt ns p ≤ p ∧ nAt ns (nAt ns p) = nAt ns p
theorem nAt_app {ns : List Nat} {x p : Nat} (h : p < ns.length) : nAt (ns ++ [x]) p = nAt ns p := by
  unfold nAt
  rw [List.getD_eq_getElem?_getD, List.getD_eq_getElem?_getD, List.getElem?_append_left h]
theorem nAt_last {ns : List Nat} {x : Nat} : nAt (ns ++ [x]) ns.length = x := by
  unfold nAt
  rw [List.getD_eq_getElem?_getD, List.getElem?_append_right (Nat.le_refl _)]
  simp
theorem JO_snoc {ns : List Nat} {x : Nat} (h : JO ns) (hx : x = ns.length ∨ ∃ q, q < ns.length ∧ x = nAt ns q) : JO (ns ++ [x]) := fun p hp => by
  rw [List.length_append] at hp
  simp at hp
  by_cases hl : p < ns.length
  · obtain ⟨h1, h2⟩ := h p hl
    rw [nAt_app hl, nAt_app (by omega)]
    exact ⟨h1, h2⟩
  · have : p = ns.length := by omega
    subst this
    rw [nAt_last]
    rcases hx with rfl | ⟨q, hq, rfl⟩
    · exact ⟨Nat.le_refl _, nAt_last⟩
    · obtain ⟨h1, h2⟩ := h q hq
      exact ⟨by omega, by rw [nAt_app (by omega)]; exact h2⟩
theorem tn_app (ns : List Nat) (x : Nat) : tn ns ++ [.int x] = tn (ns ++ [x]) := by simp [tn]
theorem tn_len (ns : List Nat) : (tn ns).length = ns.length := by simp [tn]
theorem atI_tn {ns : List Nat} {q : Nat} (h : q < ns.length) : atI (tn ns) (q : Int) = some (.int (nAt ns q : Nat)) := by
  unfold atI ixN nAt
  rw [if_pos (by omega), if_pos (by rw [tn_len]; omega)]
  simp [tn, h, List.getD_eq_getElem?_getD]
def bodyJ : Ms := (mIfS (mAndT (mTst (mTree (m2 fGt (mVar 3) (mC (.int 0))))) (mTst (mTree (m2 fGt (mTree (mCallP D__law_take 0 (mCons (mC (.int 3)) mNil))) (mC (.int 0))))))
  (mDrop (mApp 2 (mIxV 2 (mTree (mCallP D__law_take 0 (mCons (mVar 3) mNil))))))
  (mDrop (mApp 2 (mVar 3))))
theorem app_ok {i : Nat} {m : Mt} {e e1 : En} {ts ts0 : List T} {t : T} (h0 : e[i]? = some (some (.own ts0))) (hm : m e = .ok t e1) (h1 : e1[i]? = some (some (.own ts))) (hl : ts.length < 100000) : mDrop (mApp i m) e = .ok .nx (e1.set i (some (.own (ts ++ [t])))) := by
  simp only [mDrop, mApp, h0, hm, Res.bind, h1]
  rw [if_pos hl]
theorem stepJ {pn0 : List Int} {M : Option RV} {ns : List Nat} (h : JO ns) (hl : ns.length < 1000) : ∃ ns' x, bodyJ [some (.own (pn pn0)), M, some (.own (tn ns)), some (.val (.int (ns.length : Nat)))] = .ok .nx [some (.own (pn ns')), M, some (.own (tn (ns ++ [x]))), some (.val (.int (ns.length : Nat)))] ∧ JO (ns ++ [x]) := by
  have own : ∀ (p0 : List Int), mDrop (mApp 2 (mVar 3)) [some (.own (pn p0)), M, some (.own (tn ns)), some (.val (.int (ns.length : Nat)))] = .ok .nx [some (.own (pn p0)), M, some (.own (tn (ns ++ [ns.length]))), some (.val (.int (ns.length : Nat)))] := fun p0 => by
    have := app_ok (i := 2) (m := mVar 3) (e := [some (.own (pn p0)), M, some (.own (tn ns)), some (.val (.int (ns.length : Nat)))]) (e1 := [some (.own (pn p0)), M, some (.own (tn ns)), some (.val (.int (ns.length : Nat)))]) rfl rfl rfl (by rw [tn_len]; omega)
    rw [this, tn_app]
    rfl
  have hc : mTst (mTree (m2 fGt (mVar 3) (mC (.int 0)))) [some (.own (pn pn0)), M, some (.own (tn ns)), some (.val (.int (ns.length : Nat)))] = .ok (decide (0 < (ns.length : Int))) [some (.own (pn pn0)), M, some (.own (tn ns)), some (.val (.int (ns.length : Nat)))] := rfl
  by_cases h0 : 0 < ns.length
  · rw [decide_eq_true (by omega)] at hc
    obtain ⟨j, ns1, t1, j0, j1⟩ := take_at (b := 3) (by decide) (i := 0) (e := [some (.own (pn pn0)), M, some (.own (tn ns)), some (.val (.int (ns.length : Nat)))]) rfl
    have hc2 : mTst (mTree (m2 fGt (mTree (mCallP D__law_take 0 (mCons (mC (.int 3)) mNil))) (mC (.int 0)))) [some (.own (pn pn0)), M, some (.own (tn ns)), some (.val (.int (ns.length : Nat)))] = .ok (decide (0 < j)) [some (.own (pn ns1)), M, some (.own (tn ns)), some (.val (.int (ns.length : Nat)))] := by
      refine tst_eq (tree_ok (r := .val (.bool (decide (0 < j)))) ?_)
      have z := tree_ok t1
      simp only [m2, z, Res.bind]
      rfl
    by_cases hj : 0 < j
    · rw [decide_eq_true hj] at hc2
      obtain ⟨r, ns2, t2, q, rfl, q0, q1⟩ := callP (take_ok (b := (ns.length : Int)) (by omega)) (ts := [.int (ns.length : Nat)]) (i := 0) (ms := mCons (mVar 3) mNil) (e := [some (.own (pn ns1)), M, some (.own (tn ns)), some (.val (.int (ns.length : Nat)))]) (ns := ns1) rfl rfl
      obtain ⟨q', rfl⟩ : ∃ q' : Nat, q = (q' : Int) := ⟨q.toNat, by omega⟩
      have hq : q' < ns.length := by omega
      refine ⟨ns2, nAt ns q', ?_, JO_snoc h (.inr ⟨q', hq, rfl⟩)⟩
      unfold bodyJ
      refine (if_yes ((andT_t hc).trans hc2)).trans ?_
      have ix : mIxV 2 (mTree (mCallP D__law_take 0 (mCons (mVar 3) mNil))) [some (.own (pn ns1)), M, some (.own (tn ns)), some (.val (.int (ns.length : Nat)))] = .ok (.int (nAt ns q' : Nat)) [some (.own (pn ns2)), M, some (.own (tn ns)), some (.val (.int (ns.length : Nat)))] := by
        have z := tree_ok t2
        simp only [mIxV, List.getElem?_cons_succ, List.getElem?_cons_zero, z, Res.bind, RV.tree, List.set, peek, atI_tn hq]
      have := app_ok (i := 2) (e := [some (.own (pn ns1)), M, some (.own (tn ns)), some (.val (.int (ns.length : Nat)))]) rfl ix rfl (by rw [tn_len]; omega)
      rw [this, tn_app]
      rfl
    · rw [decide_eq_false hj] at hc2
      refine ⟨ns1, ns.length, ?_, JO_snoc h (.inl rfl)⟩
      unfold bodyJ
      exact (if_nx ((andT_t hc).trans hc2)).trans (own ns1)
  · rw [decide_eq_false (by omega)] at hc
    refine ⟨pn0, ns.length, ?_, JO_snoc h (.inl rfl)⟩
    unfold bodyJ
    exact (if_nx (andT_f hc)).trans (own pn0)
theorem loopJ {M : Option RV} : ∀ (f : Nat) (p0 : List Int) (ns : List Nat) (x3 : Option RV), JO ns → ns.length + f ≤ 1000 → ∃ p1 ns' y3, mLoop (gN 3) bodyJ (rngT (ns.length : Nat) f) [some (.own (pn p0)), M, some (.own (tn ns)), x3] = .ok .nx [some (.own (pn p1)), M, some (.own (tn ns')), y3] ∧ JO ns' ∧ ns'.length = ns.length + f
  | 0, p0, ns, x3, h, _ => ⟨p0, ns, x3, rfl, h, rfl⟩
  | f + 1, p0, ns, x3, h, hl => by
    obtain ⟨p1, x, hs, h1⟩ := stepJ (pn0 := p0) (M := M) h (by omega)
    obtain ⟨p2, ns', y3, ih, g1, g2⟩ := loopJ (M := M) f p1 (ns ++ [x]) (some (.val (.int (ns.length : Nat)))) h1 (by simp; omega)
    refine ⟨p2, ns', y3, ?_, g1, by rw [g2]; simp; omega⟩
    rw [rng_cons]
    unfold mLoop
    simp only [gN, List.set]
    rw [hs]
    have e : (((ns ++ [x]).length : Nat) : Int) = (ns.length : Nat) + 1 := by simp
    rw [e] at ih
    exact ih
/-- what a joining of m looks like -/
def JP (m : Nat) (r : T) : Prop := ∃ ns, r = .tuple (tn ns) ∧ ns.length = m ∧ JO ns
theorem joined_ok {m : Nat} (hm : m ≤ 100) : PL D__law_joined [.val (.int (m : Nat))] (JP m) := run_po rfl rfl fun p0 => by
  show ∃ r ns' e, M__law_joined [some (.own (pn p0)), some (.val (.int (m : Nat))), none, none] = _ ∧ _
  obtain ⟨p1, ns, y3, hl, g1, g2⟩ := loopJ (M := some (.val (.int (m : Nat)))) m p0 [] none (fun p hp => by simp at hp) (by simp; omega)
  have hf : mFor (mRng (mCons (mVar 1) mNil)) (gN 3) bodyJ [some (.own (pn p0)), some (.val (.int (m : Nat))), some (.own []), none] = .ok .nx [some (.own (pn p1)), some (.val (.int (m : Nat))), some (.own (tn ns)), y3] := by
    have e : mRng (mCons (mVar 1) mNil) [some (.own (pn p0)), some (.val (.int (m : Nat))), some (.own []), none] = .ok (rngT 0 m) [some (.own (pn p0)), some (.val (.int (m : Nat))), some (.own []), none] := by
      simp only [mRng, mCons, mNil, mVar, Res.bind, List.getElem?_cons_succ, List.getElem?_cons_zero]
      rw [if_pos (by omega)]
      rfl
    simp only [mFor, e, Res.bind]
    exact hl
  refine ⟨.tuple (tn ns), p1, [some (.val (.int (m : Nat))), some (.val (.list (tn ns))), y3], ?_, ns, rfl, by simpa using g2, g1⟩
  exact (seq_set (e1 := [some (.own (pn p0)), some (.val (.int (m : Nat))), none, none]) (r := .own []) rfl).trans ((seq_nx hf).trans (ret_eq rfl))
end G
end
section
set_option Elab.async false
set_option linter.all false
set_option autoImplicit false
set_option maxRecDepth 100000
set_option maxHeartbeats 1000000
set_option exponentiation.threshold 10000
namespace G
open PySem PySem.Spec PyProof.Rows L2 TL
/-! ### the blocks of a joining -/
def leasts (ns : List Nat) (i : Nat) : List Nat := (List.range i).filter fun p => decide (nAt ns p = p)
def places (ns : List Nat) (i l : Nat) : List Nat := (List.range i).filter fun p => decide (nAt ns p = l)
def blk (ns : List Nat) : List (List Nat) := (leasts ns ns.length).map (places ns ns.length)
theorem mem_leasts {ns : List Nat} {i p : Nat} : p ∈ leasts ns i ↔ p < i ∧ nAt ns p = p := by
  simp [leasts, List.mem_filter]
theorem mem_places {ns : List Nat} {i l p : Nat} : p ∈ places ns i l ↔ p < i ∧ nAt ns p = l := by
  simp [places, List.mem_filter]
theorem leasts_nodup (ns : List Nat) (i : Nat) : (leasts ns i).Nodup := List.Pairwise.filter _ List.nodup_range
theorem leasts_succ (ns : List Nat) (i : Nat) : leasts ns (i + 1) = leasts ns i ++ (if nAt ns i = i then [i] else []) := by
  unfold leasts
  rw [List.range_succ, List.filter_append]
  congr 1
  by_cases h : nAt ns i = i <;> simp [h]
theorem places_succ (ns : List Nat) (i l : Nat) : places ns (i + 1) l = places ns i l ++ (if nAt ns i = l then [i] else []) := by
  unfold places
  rw [List.range_succ, List.filter_append]
  congr 1
  by_cases h : nAt ns i = l <;> simp [h]
def up (l : List Nat) : List Int := l.map fun (n : Nat) => (n : Int)
theorem gadd_no (k p : Int) : ∀ (acc : List (Int × List Int)), (∀ g ∈ acc, g.1 ≠ k) → gadd k p acc = acc ++ [(k, [p])]
  | [], _ => rfl
  | (j, ps) :: r, h => by
    unfold gadd
    rw [if_neg (h (j, ps) (by simp)), gadd_no k p r fun g hg => h g (by simp [hg])]
    rfl
theorem gadd_yes (f : Nat → List Int) (k : Nat) (p : Int) : ∀ L : List Nat, L.Nodup → k ∈ L → gadd (k : Int) p (L.map fun (l : Nat) => ((l : Int), f l)) = L.map fun (l : Nat) => ((l : Int), if l = k then f l ++ [p] else f l)
  | [], _, h => by cases h
  | l :: L, hn, h => by
    have hn' := List.nodup_cons.mp hn
    simp only [List.map_cons, gadd]
    by_cases hl : l = k
    · subst hl
      rw [if_pos rfl, if_pos rfl]
      congr 1
      refine List.map_congr_left fun q hq => ?_
      rw [if_neg (fun z => hn'.1 (by rw [← z]; exact hq))]
    · rw [if_neg (by omega), if_neg hl, gadd_yes f k p L hn'.2 ((List.mem_cons.mp h).resolve_left fun z => hl z.symm)]
theorem getD_up (ns : List Nat) (i : Nat) : (up ns).getD i 0 = ((nAt ns i : Nat) : Int) := by
  unfold up nAt
  rw [List.getD_eq_getElem?_getD, List.getD_eq_getElem?_getD, List.getElem?_map]
  cases ns[i]? <;> rfl
theorem grp_eq {ns : List Nat} (h : JO ns) : ∀ i, i ≤ ns.length → grpTo (up ns) i = (leasts ns i).map fun (l : Nat) => ((l : Int), up (places ns i l))
  | 0, _ => rfl
  | i + 1, hi => by
    obtain ⟨h1, h2⟩ := h i (by omega)
    show gadd ((up ns).getD i 0) (i : Int) (grpTo (up ns) i) = _
    rw [getD_up, grp_eq h i (by omega), leasts_succ]
    by_cases hk : nAt ns i = i
    · have e : places ns i i = [] := List.filter_eq_nil_iff.mpr fun p hp => by
        have hp := List.mem_range.mp hp
        have := (h p (by omega)).1
        simp
        omega
      have e1 : (leasts ns i).map (fun (l : Nat) => ((l : Int), up (places ns (i + 1) l))) = (leasts ns i).map (fun (l : Nat) => ((l : Int), up (places ns i l))) := List.map_congr_left fun l hl => by
        have := (mem_leasts.mp hl).1
        rw [places_succ, if_neg (by omega), List.append_nil]
      have e2 : up (places ns (i + 1) i) = [(i : Int)] := by
        rw [places_succ, e, if_pos hk]
        rfl
      rw [if_pos hk, hk, gadd_no, List.map_append, e1, List.map_cons, e2]
      · rfl
      · intro g hg
        obtain ⟨l, hl, rfl⟩ := List.mem_map.mp hg
        have := (mem_leasts.mp hl).1
        show (l : Int) ≠ _
        omega
    · have hm : nAt ns i ∈ leasts ns i := mem_leasts.mpr ⟨by omega, h2⟩
      rw [if_neg hk, List.append_nil, gadd_yes _ _ _ _ (leasts_nodup ns i) hm]
      refine List.map_congr_left fun l hl => ?_
      rw [places_succ]
      by_cases e : l = nAt ns i
      · rw [if_pos e, if_pos e.symm]
        simp [up]
      · rw [if_neg e, if_neg (fun z => e z.symm), List.append_nil]
theorem up_int (l : List Nat) : (up l).map PyData.int = tn l := by
  simp [up, tn]
theorem intsL_tn (l : List Nat) : intsL (tn l) = some (up l) := by
  rw [← up_int, intsL_map]
theorem up_len (l : List Nat) : (up l).length = l.length := by simp [up]
theorem blocks_in_ok {ns : List Nat} (h : JO ns) (hl : ns.length ≤ 1000) : Is (D_blocks_in [.val (.tuple (tn ns))]) (.tuple (tt (blk ns))) := by
  have e : mBlocks [some (.val (.tuple (tn ns))), none, none, none, none] = .ok (.rt (.val (.tuple (tt (blk ns))))) [some (.val (.tuple (tn ns))), none, none, none, none] := by
    simp only [mBlocks, intsL_tn]
    rw [up_len, if_pos hl, grp_eq h _ (Nat.le_refl _), List.map_map]
    congr 4
    unfold blk tt
    rw [List.map_map]
    refine List.map_congr_left fun l _ => ?_
    simp only [Function.comp, up_int]
  exact run_body rfl e
/-! ### a joining is one -/
theorem eqII {m k : Mt} {i j : Int} {e e1 e2 : En} (h1 : m e = .ok (.int i) e1) (h2 : k e1 = .ok (.int j) e2) (h : i = j) : mTree (m2 fEq m k) e = .ok (.bool true) e2 := by
  subst h
  simp [mTree, m2, h1, h2, Res.bind, fEq, TL.same, give, RV.tree]
theorem isN_ok (k : Nat) : Is (D_is_number [.val (.int (k : Nat))]) (.bool true) := by
  refine run_ret (e := [some (.val (.int (k : Nat)))]) rfl ((and_t (call1 rfl (is_integer_int _))).trans ?_)
  show Res.ok (PyData.bool (decide ((0 : Int) ≤ (k : Nat)))) _ = _
  rw [decide_eq_true (by omega)]
  rfl
theorem below_ok {m : Nat} {ns : List Nat} (hl : ns.length ≤ 1000) (h : ∀ x ∈ ns, x < m) : Is (D_are_below [.val (.int (m : Nat)), .val (.tuple (tn ns))]) (.bool true) := by
  have q := all_eq (mi := mSeq1 (mVar 1)) (g := gN 2) (vs := [2]) (te := mAndV (mTree (mCall D_is_number (mCons (mVar 2) mNil))) (mTree (m2 fLt (mVar 2) (mVar 0)))) (f := fun _ => true) (e := [some (.val (.int (m : Nat))), some (.val (.tuple (tn ns))), none]) (e1 := [some (.val (.int (m : Nat))), some (.val (.tuple (tn ns))), none]) (ts := tn ns) rfl (by rw [tn_len]; omega)
    fun x hx => by
      obtain ⟨k, hk, rfl⟩ := List.mem_map.mp hx
      refine ⟨_, [some (.val (.int (m : Nat))), some (.val (.tuple (tn ns))), some (.val (.int (k : Nat)))], rfl, (and_t (call1 rfl (isN_ok k))).trans ?_, rfl⟩
      show Res.ok (PyData.bool (decide ((k : Int) < (m : Nat)))) _ = _
      rw [decide_eq_true (by have := h k hk; omega)]
      rfl
  rw [show (tn ns).all (fun _ => true) = true by simp] at q
  exact run_ret rfl ((and_t rfl).trans (tree_ok q))
theorem tup_of_ok {m : Nat} {ts : List T} (h : ts.length = m) : Is (D_is_tuple_of [.val (.int (m : Nat)), .val (.tuple ts)]) (.bool true) := by
  refine run_ret (e := [some (.val (.int (m : Nat))), some (.val (.tuple ts))]) rfl ((and_t rfl).trans ?_)
  show Res.ok (PyData.bool (decide ((ts.length : Int) = (m : Nat)))) _ = _
  rw [decide_eq_true (by omega)]
  rfl
theorem enumT_in : ∀ (ts : List T) (k : Nat) {u : T}, u ∈ enumT k ts → ∃ i t, ts[i]? = some t ∧ u = pair (.int ((k + i : Nat) : Int)) t := fun ts k u h => by
  obtain ⟨i, hi⟩ := List.getElem?_of_mem h
  obtain ⟨t, h1, h2⟩ := enumT_get hi
  exact ⟨i, t, h1, h2⟩
theorem enumT_len : ∀ (ts : List T) (k : Nat), (enumT k ts).length = ts.length
  | [], _ => rfl
  | t :: ts, k => by simp [enumT, enumT_len ts (k + 1)]
theorem JO_lt {ns : List Nat} (h : JO ns) : ∀ x ∈ ns, x < ns.length := fun x hx => by
  obtain ⟨i, hi, e⟩ := List.getElem_of_mem hx
  have := (h i hi).1
  have : nAt ns i = x := by
    unfold nAt
    rw [List.getD_eq_getElem?_getD, List.getElem?_eq_getElem hi]
    exact e
  omega
theorem is_joining_ok {m : Nat} {ns : List Nat} (h : JO ns) (hm : ns.length = m) (hl : ns.length ≤ 1000) : Is (D_is_joining [.val (.int (m : Nat)), .val (.tuple (tn ns))]) (.bool true) := by
  have hc : mOrT (mNotT (mTst (mTree (mCall D_is_tuple_of (mCons (mVar 0) (mCons (mVar 1) mNil)))))) (mNotT (mTst (mTree (mCall D_are_below (mCons (mVar 0) (mCons (mVar 1) mNil)))))) [some (.val (.int (m : Nat))), some (.val (.tuple (tn ns))), none, none] = .ok false [some (.val (.int (m : Nat))), some (.val (.tuple (tn ns))), none, none] :=
    (orT_f (not_t (tst_eq (call2 rfl rfl (tup_of_ok (by rw [tn_len]; exact hm)))))).trans (not_t (tst_eq (call2 rfl rfl (below_ok hl fun x hx => by have := JO_lt h x hx; omega))))
  have q := all_eq (mi := mEnum (mCons (mVar 1) mNil)) (g := gT (gsCons (gN 3) (gsCons (gN 2) gsNil)) 2) (vs := [3, 2]) (te := mAndV (mTree (m2 fLe (mVar 2) (mVar 3))) (mTree (m2 fEq (mIxV 1 (mVar 2)) (mVar 2)))) (f := fun _ => true) (e := [some (.val (.int (m : Nat))), some (.val (.tuple (tn ns))), none, none]) (e1 := [some (.val (.int (m : Nat))), some (.val (.tuple (tn ns))), none, none]) (ts := enumT 0 (tn ns)) rfl (by rw [enumT_len, tn_len]; omega)
    fun x hx => by
      obtain ⟨i, t, h1, rfl⟩ := enumT_in _ _ hx
      have hi : i < ns.length := by
        have := (List.getElem?_eq_some_iff.mp h1).1
        rwa [tn_len] at this
      have et : t = .int (nAt ns i : Nat) := by
        simp only [tn, List.getElem?_map, List.getElem?_eq_getElem hi, Option.map] at h1
        unfold nAt
        rw [List.getD_eq_getElem?_getD, List.getElem?_eq_getElem hi]
        cases h1
        rfl
      subst et
      obtain ⟨g1, g2⟩ := h i hi
      refine ⟨[some (.val (.int (m : Nat))), some (.val (.tuple (tn ns))), some (.val (.int (nAt ns i : Nat))), some (.val (.int ((0 + i : Nat) : Int)))], [some (.val (.int (m : Nat))), some (.val (.tuple (tn ns))), some (.val (.int (nAt ns i : Nat))), some (.val (.int ((0 + i : Nat) : Int)))], rfl, ?_, rfl⟩
      have c1 : mTree (m2 fLe (mVar 2) (mVar 3)) [some (.val (.int (m : Nat))), some (.val (.tuple (tn ns))), some (.val (.int (nAt ns i : Nat))), some (.val (.int ((0 + i : Nat) : Int)))] = .ok (.bool true) [some (.val (.int (m : Nat))), some (.val (.tuple (tn ns))), some (.val (.int (nAt ns i : Nat))), some (.val (.int ((0 + i : Nat) : Int)))] := by
        show Res.ok (PyData.bool (decide (((nAt ns i : Nat) : Int) ≤ ((0 + i : Nat) : Int)))) _ = _
        rw [decide_eq_true (by omega)]
      refine (and_t c1).trans ?_
      have ix : mIxV 1 (mVar 2) [some (.val (.int (m : Nat))), some (.val (.tuple (tn ns))), some (.val (.int (nAt ns i : Nat))), some (.val (.int ((0 + i : Nat) : Int)))] = .ok (.int (nAt ns i : Nat)) [some (.val (.int (m : Nat))), some (.val (.tuple (tn ns))), some (.val (.int (nAt ns i : Nat))), some (.val (.int ((0 + i : Nat) : Int)))] := by
        simp only [mIxV, mVar, Res.bind, peek, items, List.getElem?_cons_succ, List.getElem?_cons_zero, atI_tn (show nAt ns i < ns.length by omega), g2]
      have vx : mVar 2 [some (.val (.int (m : Nat))), some (.val (.tuple (tn ns))), some (.val (.int (nAt ns i : Nat))), some (.val (.int ((0 + i : Nat) : Int)))] = .ok (.int (nAt ns i : Nat)) [some (.val (.int (m : Nat))), some (.val (.tuple (tn ns))), some (.val (.int (nAt ns i : Nat))), some (.val (.int ((0 + i : Nat) : Int)))] := rfl
      exact eqII ix vx rfl
  rw [show (enumT 0 (tn ns)).all (fun _ => true) = true by simp] at q
  exact run_body rfl ((seq_if_f hc).trans (ret_eq q))
theorem blocks_of_ok {m : Nat} {ns : List Nat} (h : JO ns) (hm : ns.length = m) (hl : ns.length ≤ 1000) : Is (D_blocks_of [.val (.int (m : Nat)), .val (.tuple (tn ns))]) (.tuple (tt (blk ns))) := by
  have s1 : mDrop (mCall D_need (mCons (mTree (mCall D_is_joining (mCons (mVar 0) (mCons (mVar 1) mNil)))) (mCons (mC (.str "joining")) mNil))) [some (.val (.int (m : Nat))), some (.val (.tuple (tn ns)))] = .ok .nx [some (.val (.int (m : Nat))), some (.val (.tuple (tn ns)))] :=
    drop_eq (callV2 (call2 rfl rfl (is_joining_ok h hm hl)) rfl (need_t "joining"))
  exact run_body (e := [some (.val (.int (m : Nat))), some (.val (.tuple (tn ns)))]) rfl ((seq_nx s1).trans (ret_eq (callV1 rfl (blocks_in_ok h hl))))
end G
end
section
set_option Elab.async false
set_option linter.all false
set_option autoImplicit false
set_option maxRecDepth 100000
set_option maxHeartbeats 1000000
set_option exponentiation.threshold 10000
namespace G
open PySem PySem.Spec PyProof.Rows L2 TL
/-! ### lots -/
theorem cut1 : ∀ ts : List T, cutT ts (some 1) none = ts.drop 1
  | [] => rfl
  | t :: ts => by
    have h : min (1 : Int).toNat (t :: ts).length = 1 := by simp
    simp [cutT, HT.sIx]
theorem zipAsc : ∀ l : List Nat, l.Pairwise (· < ·) → ∀ x ∈ List.zipWith pair (tn l) ((tn l).drop 1), ∃ a b : Nat, x = pair (.int (a : Nat)) (.int (b : Nat)) ∧ a < b
  | [], _, x, h => by simp [tn] at h
  | [a], _, x, h => by simp [tn] at h
  | a :: b :: r, hp, x, h => by
    have hp' := List.pairwise_cons.mp hp
    have e : List.zipWith pair (tn (a :: b :: r)) ((tn (a :: b :: r)).drop 1) = pair (.int (a : Nat)) (.int (b : Nat)) :: List.zipWith pair (tn (b :: r)) ((tn (b :: r)).drop 1) := by
      simp [tn]
    rw [e] at h
    rcases List.mem_cons.mp h with rfl | h
    · exact ⟨a, b, rfl, hp'.1 b (by simp)⟩
    · exact zipAsc (b :: r) hp'.2 x h
theorem is_lot_ok {m : Nat} {l : List Nat} (hl : l.length ≤ 1000) (h : ∀ x ∈ l, x < m) (hp : l.Pairwise (· < ·)) : Is (D_is_lot [.val (.int (m : Nat)), .val (.tuple (tn l))]) (.bool true) := by
  have q1 := call2 (m := mVar 0) (n := mVar 1) (e := [some (.val (.int (m : Nat))), some (.val (.tuple (tn l))), none, none]) rfl rfl (below_ok hl h)
  have q := all_eq (mi := mZip (mCons (mVar 1) (mCons (mTree (mSl (mVar 1) (some (mC (.int 1))) none)) mNil))) (g := gT (gsCons (gN 2) (gsCons (gN 3) gsNil)) 2) (vs := [2, 3]) (te := mTree (m2 fLt (mVar 2) (mVar 3))) (f := fun _ => true)
    (e := [some (.val (.int (m : Nat))), some (.val (.tuple (tn l))), none, none]) (e1 := [some (.val (.int (m : Nat))), some (.val (.tuple (tn l))), none, none]) (ts := List.zipWith pair (tn l) ((tn l).drop 1))
    (by rw [← cut1]; rfl) (by rw [List.length_zipWith, tn_len]; omega) fun x hm => by
      obtain ⟨a, b, rfl, hab⟩ := zipAsc l hp x hm
      refine ⟨_, [some (.val (.int (m : Nat))), some (.val (.tuple (tn l))), some (.val (.int (a : Nat))), some (.val (.int (b : Nat)))], rfl, ?_, rfl⟩
      show Res.ok (PyData.bool (decide ((a : Int) < (b : Nat)))) _ = _
      rw [decide_eq_true (by omega)]
      rfl
  rw [show (List.zipWith pair (tn l) ((tn l).drop 1)).all (fun _ => true) = true by simp] at q
  exact run_ret rfl ((and_t q1).trans (tree_ok q))
/-- a list of lots that are the blocks of places below m -/
structure Lots (m : Nat) (L : List (List Nat)) : Prop where
  few : L.length ≤ 100
  short : ∀ l ∈ L, l.length ≤ 1000
  ne : ∀ l ∈ L, l ≠ []
  lt : ∀ l ∈ L, ∀ x ∈ l, x < m
  asc : ∀ l ∈ L, l.Pairwise (· < ·)
  perm : (L.map up).flatten.Perm (up (List.range m))
theorem tt_len (L : List (List Nat)) : (tt L).length = L.length := by simp [tt]
theorem up_app (a b : List Nat) : up (a ++ b) = up a ++ up b := by simp [up]
theorem up_range_asc (m : Nat) : (up (List.range m)).Pairwise (· ≤ ·) := by
  unfold up
  rw [List.pairwise_map]
  exact (List.pairwise_lt_range (n := m)).imp fun h => by omega
theorem tn_app2 (a b : List Nat) : tn a ++ tn b = tn (a ++ b) := by simp [tn]
theorem inner_ok {M : T} {P : Option RV} {x : T} : ∀ (us acc : List T), acc.length + us.length ≤ 100000 → mCompL (gN 3) mYes (mVar 3) [3] us acc [some (.val M), P, some (.val x), none] = .ok (acc ++ us) [some (.val M), P, some (.val x), none]
  | us, acc, h => by
    have := compL_ok (g := gN 3) (tt := mYes) (te := mVar 3) (vs := [3]) (f := id) (p := fun _ => true) (e := [some (.val M), P, some (.val x), none]) us acc (fun t ht => ⟨[some (.val M), P, some (.val x), some (.val t)], [some (.val M), P, some (.val x), some (.val t)], rfl, rfl, fun _ => ⟨_, rfl, rfl⟩, by intro z; cases z⟩) h
    rw [this, List.filter_eq_self.mpr fun _ _ => rfl, List.map_id]
theorem outer_ok {M : T} {P : Option RV} : ∀ (L : List (List Nat)) (acc : List Nat), acc.length + L.flatten.length ≤ 1000 → mCompO (gN 2) mYes (mSeq1 (mVar 2)) (gN 3) mYes (mVar 3) [2, 3] [3] (tt L) (tn acc) [some (.val M), P, none, none] = .ok (tn (acc ++ L.flatten)) [some (.val M), P, none, none]
  | [], acc, _ => by simp [tt, mCompO]
  | l :: L, acc, h => by
    simp only [List.flatten_cons, List.length_append] at h
    show mCompO _ _ _ _ _ _ _ _ (.tuple (tn l) :: tt L) _ _ = _
    have e1 : mSeq1 (mVar 2) [some (.val M), P, some (.val (.tuple (tn l))), none] = .ok (tn l) [some (.val M), P, some (.val (.tuple (tn l))), none] := rfl
    have e2 : mCompL (gN 3) mYes (mVar 3) [3] (tn l) (tn acc) [some (.val M), P, some (.val (.tuple (tn l))), none] = _ := inner_ok (M := M) (P := P) (x := .tuple (tn l)) (tn l) (tn acc) (by rw [tn_len, tn_len]; omega)
    unfold mCompO
    simp only [gN, List.set, mYes, yes, e1, wipeE, e2]
    rw [tn_app2, outer_ok L (acc ++ l) (by rw [List.length_append]; omega), List.flatten_cons, List.append_assoc]
theorem flat_up (L : List (List Nat)) : (L.map up).flatten = up L.flatten := by
  induction L with
  | nil => rfl
  | cons l L ih => rw [List.map_cons, List.flatten_cons, List.flatten_cons, up_app, ih]
theorem Lots.flen {m : Nat} {L : List (List Nat)} (h : Lots m L) : L.flatten.length = m := by
  have := h.perm.length_eq
  rw [flat_up, up_len, up_len, List.length_range] at this
  exact this
theorem are_blocks_ok {m : Nat} {L : List (List Nat)} (h : Lots m L) (hm : m ≤ 1000) : Is (D_are_blocks [.val (.int (m : Nat)), .val (.tuple (tt L))]) (.bool true) := by
  have q := all_eq (mi := mSeq1 (mVar 1)) (g := gN 2) (vs := [2]) (te := mAndV (mTree (mCall D_is_lot (mCons (mVar 0) (mCons (mVar 2) mNil)))) (mTree (m2 fNe (mVar 2) (mTup mNil)))) (f := fun _ => true)
    (e := [some (.val (.int (m : Nat))), some (.val (.tuple (tt L))), none, none]) (e1 := [some (.val (.int (m : Nat))), some (.val (.tuple (tt L))), none, none]) (ts := tt L) rfl (by rw [tt_len]; have := h.few; omega) fun x hx => by
      obtain ⟨l, hl, rfl⟩ := List.mem_map.mp hx
      refine ⟨[some (.val (.int (m : Nat))), some (.val (.tuple (tt L))), some (.val (.tuple (tn l))), none], [some (.val (.int (m : Nat))), some (.val (.tuple (tt L))), some (.val (.tuple (tn l))), none], rfl, (and_t (call2 rfl rfl (is_lot_ok (h.short l hl) (h.lt l hl) (h.asc l hl)))).trans ?_, rfl⟩
      have s : TL.same (.tuple (tn l)) (.tuple []) = some false := by
        have := same_tup l []
        rw [decide_eq_false (h.ne l hl)] at this
        exact this
      have v1 : mVar 2 [some (.val (.int (m : Nat))), some (.val (.tuple (tt L))), some (.val (.tuple (tn l))), none] = .ok (.tuple (tn l)) [some (.val (.int (m : Nat))), some (.val (.tuple (tt L))), some (.val (.tuple (tn l))), none] := rfl
      have v2 : mTup mNil [some (.val (.int (m : Nat))), some (.val (.tuple (tt L))), some (.val (.tuple (tn l))), none] = .ok (.tuple []) [some (.val (.int (m : Nat))), some (.val (.tuple (tt L))), some (.val (.tuple (tn l))), none] := rfl
      refine tree_ok (r := .val (.bool true)) ?_
      simp only [m2, v1, v2, Res.bind, fNe, s, Option.map, give]
      rfl
  rw [show (tt L).all (fun _ => true) = true by simp] at q
  have hc : mOrT (mNotT (mTst (mIsi .tup (mVar 1)))) (mNotT (mTst (mTree (mN fAll (mCons (mTree (mComp (mSeq1 (mVar 1)) (gN 2) mYes (mAndV (mTree (mCall D_is_lot (mCons (mVar 0) (mCons (mVar 2) mNil)))) (mTree (m2 fNe (mVar 2) (mTup mNil)))) [2])) mNil))))) [some (.val (.int (m : Nat))), some (.val (.tuple (tt L))), none, none] = .ok false [some (.val (.int (m : Nat))), some (.val (.tuple (tt L))), none, none] :=
    (orT_f (not_t rfl)).trans (not_t (tst_eq (tree_ok q)))
  have c2 : mComp2 (mSeq1 (mVar 1)) (gN 2) mYes (mSeq1 (mVar 2)) (gN 3) mYes (mVar 3) [2, 3] [3] [some (.val (.int (m : Nat))), some (.val (.tuple (tt L))), none, none] = .ok (.own (tn L.flatten)) [some (.val (.int (m : Nat))), some (.val (.tuple (tt L))), none, none] := by
    have e1 : mSeq1 (mVar 1) [some (.val (.int (m : Nat))), some (.val (.tuple (tt L))), none, none] = .ok (tt L) [some (.val (.int (m : Nat))), some (.val (.tuple (tt L))), none, none] := rfl
    have e2 := outer_ok (M := .int (m : Nat)) (P := some (.val (.tuple (tt L)))) L [] (by rw [h.flen]; simp; omega)
    unfold mComp2
    rw [e1]
    show (match mCompO _ _ _ _ _ _ _ _ (tt L) (tn []) [some (.val (.int (m : Nat))), some (.val (.tuple (tt L))), none, none] with | .ok acc e2 => _ | _ => _) = _
    rw [e2]
    rfl
  have c3 : mTree (mN fSort (mCons (mTree (mComp2 (mSeq1 (mVar 1)) (gN 2) mYes (mSeq1 (mVar 2)) (gN 3) mYes (mVar 3) [2, 3] [3])) mNil)) [some (.val (.int (m : Nat))), some (.val (.tuple (tt L))), none, none] = .ok (.list (tn (List.range m))) [some (.val (.int (m : Nat))), some (.val (.tuple (tt L))), none, none] := by
    have so : isort (up L.flatten) = up (List.range m) := (isort_uniq (by rw [← flat_up]; exact h.perm.symm) (up_range_asc m)).symm
    simp only [mTree, mN, mCons, mNil, c2, Res.bind, RV.tree, fSort, intsL_tn, so, Option.map, up_int, give]
  have c4 : mTree (mListRg (mVar 0)) [some (.val (.int (m : Nat))), some (.val (.tuple (tt L))), none, none] = .ok (.list (tn (List.range m))) [some (.val (.int (m : Nat))), some (.val (.tuple (tt L))), none, none] := by
    simp only [mTree, mListRg, mVar, List.getElem?_cons_zero, Res.bind]
    rw [if_pos (by omega), Int.toNat_natCast, rng_tn]
    rfl
  refine run_body (e := [some (.val (.int (m : Nat))), some (.val (.tuple (tt L))), none, none]) rfl ((seq_if_f hc).trans (ret_eq (e1 := [some (.val (.int (m : Nat))), some (.val (.tuple (tt L))), none, none]) (r := .val (.bool true)) ?_))
  show m2 fEq _ _ [some (.val (.int (m : Nat))), some (.val (.tuple (tt L))), none, none] = _
  simp only [m2, c3, c4, Res.bind, fEq, same_lst, decide_true, Option.map, give]
/-! ### the least of each place -/
theorem dget_map (k v q : Int) : ∀ acc : List (Int × Int), dget q (acc.map fun p => if p.1 = k then (p.1, v) else p) = if q = k then (dget q acc).map fun _ => v else dget q acc
  | [] => by simp [dget]
  | p :: acc => by
    have ih := dget_map k v q acc
    by_cases hp : p.1 = k
    · rw [List.map_cons, if_pos hp]
      by_cases hq : p.1 = q
      · have : q = k := by rw [← hq, hp]
        rw [if_pos this]
        simp [dget, List.find?_cons, hq]
      · rw [show dget q ((p.1, v) :: acc.map fun p => if p.1 = k then (p.1, v) else p) = dget q (acc.map fun p => if p.1 = k then (p.1, v) else p) by simp [dget, List.find?_cons, hq], ih]
        rw [show dget q (p :: acc) = dget q acc by simp [dget, List.find?_cons, hq]]
    · rw [List.map_cons, if_neg hp]
      by_cases hq : p.1 = q
      · rw [if_neg (fun z => hp (by rw [hq, z]))]
        simp [dget, List.find?_cons, hq]
      · rw [show dget q (p :: acc.map fun p => if p.1 = k then (p.1, v) else p) = dget q (acc.map fun p => if p.1 = k then (p.1, v) else p) by simp [dget, List.find?_cons, hq], ih]
        rw [show dget q (p :: acc) = dget q acc by simp [dget, List.find?_cons, hq]]
theorem dget_none {k : Int} : ∀ {acc : List (Int × Int)}, (acc.any fun p => decide (p.1 = k)) = false → dget k acc = none
  | [], _ => rfl
  | p :: acc, h => by
    simp only [List.any_cons, Bool.or_eq_false_iff, decide_eq_false_iff_not] at h
    rw [show dget k (p :: acc) = dget k acc by simp [dget, List.find?_cons, h.1]]
    exact dget_none h.2
theorem dget_some {k : Int} : ∀ {acc : List (Int × Int)}, (acc.any fun p => decide (p.1 = k)) = true → ∃ v, dget k acc = some v
  | [], h => by cases h
  | p :: acc, h => by
    by_cases hp : p.1 = k
    · exact ⟨p.2, by simp [dget, List.find?_cons, hp]⟩
    · simp only [List.any_cons, hp, decide_false, Bool.false_or] at h
      rw [show dget k (p :: acc) = dget k acc by simp [dget, List.find?_cons, hp]]
      exact dget_some h
theorem dget_snoc (k v q : Int) : ∀ acc : List (Int × Int), dget q (acc ++ [(k, v)]) = (dget q acc).or (if q = k then some v else none)
  | [] => by
    by_cases h : k = q
    · subst h; simp [dget]
    · simp [dget, h, Ne.symm h]
  | p :: acc => by
    rw [List.cons_append]
    by_cases hp : p.1 = q
    · simp [dget, List.find?_cons, hp]
    · rw [show dget q (p :: (acc ++ [(k, v)])) = dget q (acc ++ [(k, v)]) by simp [dget, List.find?_cons, hp], dget_snoc k v q acc]
      rw [show dget q (p :: acc) = dget q acc by simp [dget, List.find?_cons, hp]]
theorem dget_put (k v q : Int) (acc : List (Int × Int)) : dget q (dput k v acc) = if q = k then some v else dget q acc := by
  unfold dput
  cases h : acc.any fun p => decide (p.1 = k) with
  | true =>
    rw [if_pos rfl, dget_map]
    by_cases hq : q = k
    · subst hq
      obtain ⟨w, hw⟩ := dget_some h
      rw [if_pos rfl, if_pos rfl, hw]
      rfl
    · rw [if_neg hq, if_neg hq]
  | false =>
    rw [if_neg (by simp), dget_snoc]
    by_cases hq : q = k
    · subst hq
      rw [if_pos rfl, if_pos rfl, dget_none h]
      rfl
    · rw [if_neg hq, if_neg hq]
      simp
theorem dget_lot (v q : Int) : ∀ (ps : List Int) (acc : List (Int × Int)), dget q (lotD v ps acc) = if q ∈ ps then some v else dget q acc
  | [], acc => by simp [lotD]
  | p :: ps, acc => by
    show dget q (lotD v ps (dput p v acc)) = _
    rw [dget_lot v q ps, dget_put]
    by_cases h : q ∈ ps
    · simp [h]
    · by_cases hp : q = p
      · simp [hp]
      · simp [h, hp]
theorem dget_least (f : Int → Int) (q : Int) : ∀ (ls : List (List Int)) (acc : List (Int × Int)), (∀ l ∈ ls, ∀ p ∈ l, l.headD 0 = f p) → dget q (leastD ls acc) = if q ∈ ls.flatten then some (f q) else dget q acc
  | [], acc, _ => by simp [leastD]
  | l :: ls, acc, h => by
    show dget q (leastD ls (lotD (l.headD 0) l acc)) = _
    rw [dget_least f q ls _ fun l' hl' => h l' (by simp [hl']), dget_lot]
    by_cases h1 : q ∈ ls.flatten
    · rw [if_pos h1, if_pos (by rw [List.flatten_cons]; exact List.mem_append_right _ h1)]
    · rw [if_neg h1]
      by_cases h2 : q ∈ l
      · rw [if_pos h2, if_pos (by rw [List.flatten_cons]; exact List.mem_append_left _ h2), h l (by simp) q h2]
      · rw [if_neg h2, if_neg (by rw [List.flatten_cons, List.mem_append]; exact fun z => z.elim h2 h1)]
theorem intsLL_tt (L : List (List Nat)) : intsLL (tt L) = some (L.map up) := by
  rw [← intsLL_map, List.map_map]
  congr 1
  unfold tt
  refine List.map_congr_left fun l _ => ?_
  simp only [Function.comp, up_int]
theorem joining_of_ok {m : Nat} {L : List (List Nat)} {ns : List Nat} (h : Lots m L) (hm : m ≤ 1000) (hn : ns.length = m) (hh : ∀ l ∈ L, ∀ p ∈ l, l.headD 0 = nAt ns p) : Is (D_joining_of [.val (.int (m : Nat)), .val (.tuple (tt L))]) (.tuple (tn ns)) := by
  have s1 : mDrop (mCall D_need (mCons (mTree (mCall D_are_blocks (mCons (mVar 0) (mCons (mVar 1) mNil)))) (mCons (mC (.str "lots")) mNil))) [some (.val (.int (m : Nat))), some (.val (.tuple (tt L))), none, none, none] = .ok .nx [some (.val (.int (m : Nat))), some (.val (.tuple (tt L))), none, none, none] :=
    drop_eq (callV2 (call2 rfl rfl (are_blocks_ok h hm)) rfl (need_t "lots"))
  have hd : ∀ l ∈ L.map up, ∀ p ∈ l, l.headD 0 = ((nAt ns p.toNat : Nat) : Int) := fun l hl p hp => by
    obtain ⟨l', hl', rfl⟩ := List.mem_map.mp hl
    obtain ⟨p', hp', rfl⟩ := List.mem_map.mp hp
    have := hh l' hl' p' hp'
    rw [Int.toNat_natCast, ← this]
    cases l' <;> rfl
  have all : ∀ p, p < m → dget (p : Nat) (leastD (L.map up) []) = some ((nAt ns p : Nat) : Int) := fun p hp => by
    rw [dget_least (fun p => ((nAt ns p.toNat : Nat) : Int)) _ _ _ hd, if_pos (h.perm.mem_iff.mpr (List.mem_map.mpr ⟨p, List.mem_range.mpr hp, rfl⟩)), Int.toNat_natCast]
  have s2 : mJoin [some (.val (.int (m : Nat))), some (.val (.tuple (tt L))), none, none, none] = .ok (.rt (.val (.tuple (tn ns)))) [some (.val (.int (m : Nat))), some (.val (.tuple (tt L))), none, none, none] := by
    simp only [mJoin, intsLL_tt, Int.toNat_natCast]
    have c : ((List.range m).all fun p => (dget (p : Nat) (leastD (L.map up) [])).isSome) = true := List.all_eq_true.mpr fun p hp => by
      rw [all p (List.mem_range.mp hp)]
      rfl
    rw [if_pos ⟨by omega, by omega, by rw [flat_up, up_len, h.flen]; omega, c⟩]
    · congr 4
      refine List.ext_getElem (by rw [List.length_map, List.length_range, tn_len, hn]) fun i h1 h2 => ?_
      have hi : i < m := by rw [List.length_map, List.length_range] at h1; exact h1
      rw [List.getElem_map, List.getElem_range, all i hi]
      have e : (tn ns)[i] = .int (nAt ns i : Nat) := by
        unfold nAt
        rw [List.getD_eq_getElem?_getD, List.getElem?_eq_getElem (show i < ns.length by omega)]
        simp [tn]
      rw [e]
      rfl
  exact run_body rfl ((seq_nx s1).trans s2)
end G
end
section
set_option Elab.async false
set_option linter.all false
set_option autoImplicit false
set_option maxRecDepth 100000
set_option maxHeartbeats 1000000
set_option exponentiation.threshold 10000
namespace G
open PySem PySem.Spec PyProof.Rows L2 TL
/-! ### the blocks are lots -/
theorem gadd_flat (k p : Int) : ∀ acc : List (Int × List Int), ((gadd k p acc).map (·.2)).flatten.Perm ((acc.map (·.2)).flatten ++ [p])
  | [] => by simp [gadd]
  | (j, ps) :: r => by
    unfold gadd
    split
    · simp only [List.map_cons, List.flatten_cons, List.append_assoc]
      exact List.Perm.append_left ps List.perm_append_comm
    · simp only [List.map_cons, List.flatten_cons, List.append_assoc]
      exact List.Perm.append_left ps (gadd_flat k p r)
theorem grp_flat (is : List Int) : ∀ i, ((grpTo is i).map (·.2)).flatten.Perm (up (List.range i))
  | 0 => by simp [grpTo, up]
  | i + 1 => by
    rw [List.range_succ, up_app]
    exact (gadd_flat _ _ _).trans ((grp_flat is i).append_right _)
theorem blk_lots {ns : List Nat} (h : JO ns) (hl : ns.length ≤ 100) : Lots ns.length (blk ns) := by
  refine ⟨?_, fun l hm => ?_, fun l hm => ?_, fun l hm x hx => ?_, fun l hm => ?_, ?_⟩
  · unfold blk
    rw [List.length_map]
    have := List.length_filter_le (fun p => decide (nAt ns p = p)) (List.range ns.length)
    rw [List.length_range] at this
    exact Nat.le_trans this hl
  · obtain ⟨k, hk, rfl⟩ := List.mem_map.mp hm
    have := List.length_filter_le (fun p => decide (nAt ns p = k)) (List.range ns.length)
    rw [List.length_range] at this
    show (places ns ns.length k).length ≤ 1000
    unfold places
    omega
  · obtain ⟨k, hk, rfl⟩ := List.mem_map.mp hm
    intro z
    have : k ∈ places ns ns.length k := mem_places.mpr (mem_leasts.mp hk)
    rw [z] at this
    cases this
  · obtain ⟨k, hk, rfl⟩ := List.mem_map.mp hm
    exact (mem_places.mp hx).1
  · obtain ⟨k, hk, rfl⟩ := List.mem_map.mp hm
    exact List.Pairwise.filter _ List.pairwise_lt_range
  · have := grp_flat (up ns) ns.length
    rw [grp_eq h _ (Nat.le_refl _), List.map_map] at this
    unfold blk
    rw [List.map_map]
    exact this
theorem head_min : ∀ {l : List Nat} {k : Nat}, l.Pairwise (· < ·) → k ∈ l → (∀ x ∈ l, k ≤ x) → l.headD 0 = k
  | x :: l, k, hp, hk, hx => by
    rcases List.mem_cons.mp hk with rfl | hk'
    · rfl
    · have h1 := (List.pairwise_cons.mp hp).1 k hk'
      have h2 := hx x (by simp)
      omega
def Heads (ns : List Nat) (L : List (List Nat)) : Prop := ∀ l ∈ L, ∀ p ∈ l, l.headD 0 = nAt ns p
theorem blk_heads {ns : List Nat} (h : JO ns) : Heads ns (blk ns) := fun l hl p hp => by
  obtain ⟨k, hk, rfl⟩ := List.mem_map.mp hl
  rw [(mem_places.mp hp).2]
  refine head_min (List.Pairwise.filter _ List.pairwise_lt_range) (mem_places.mpr (mem_leasts.mp hk)) fun x hx => ?_
  obtain ⟨h1, h2⟩ := mem_places.mp hx
  have := (h x h1).1
  omega
theorem Lots.of_perm {m : Nat} {L L0 : List (List Nat)} (h : Lots m L0) (p : L.Perm L0) : Lots m L :=
  ⟨by rw [p.length_eq]; exact h.few, fun l hl => h.short l (p.mem_iff.mp hl), fun l hl => h.ne l (p.mem_iff.mp hl), fun l hl => h.lt l (p.mem_iff.mp hl), fun l hl => h.asc l (p.mem_iff.mp hl), (p.map up).flatten.trans h.perm⟩
theorem Heads.of_perm {ns : List Nat} {L L0 : List (List Nat)} (h : Heads ns L0) (p : L.Perm L0) : Heads ns L := fun l hl => h l (p.mem_iff.mp hl)
/-! ### the law's own look at them -/
theorem filter_tn (p : T → Bool) (l : List Nat) : (tn l).filter p = tn (l.filter fun k => p (.int (k : Nat))) := by
  unfold tn
  rw [List.filter_map]
  rfl
theorem len_at {i : Nat} {e : En} {ts : List T} (h : peek e i = some ts) : mLenV i e = .ok (.int (ts.length : Nat)) e := by
  unfold mLenV
  rw [h]
theorem rng_ok {m : Mt} {e e1 : En} {n : Nat} (h : m e = .ok (.int (n : Nat)) e1) (hn : n ≤ 1000) : mRng (mCons m mNil) e = .ok (tn (List.range n)) e1 := by
  simp only [mRng, mCons, mNil, h, Res.bind]
  rw [if_pos (by omega), Int.toNat_natCast, rng_tn]
theorem ix_at {i : Nat} {m : Mt} {e e1 : En} {r : RV} {ts : List T} {j : Int} {u : T} (h0 : e[i]? = some (some r)) (hm : m e = .ok (.int j) e1) (hp : peek e1 i = some ts) (hu : atI ts j = some u) : mIxV i m e = .ok u e1 := by
  simp only [mIxV, h0, hm, Res.bind, hp, hu]
theorem atI_tt {L : List (List Nat)} {q : Nat} (h : q < L.length) : atI (tt L) (q : Int) = some (.tuple (tn L[q])) := by
  unfold atI ixN
  rw [if_pos (by omega), if_pos (by rw [tt_len]; omega)]
  simp [tt, h]
def pEq (ns : List Nat) (j : Nat) (t : T) : Bool := match t with
  | .int i => decide (nAt ns i.toNat = j)
  | _ => false
def pId (ns : List Nat) (t : T) : Bool := match t with
  | .int i => decide (nAt ns i.toNat = i.toNat)
  | _ => false
theorem eqb {m k : Mt} {i j : Nat} {e e1 e2 : En} (h1 : m e = .ok (.int (i : Nat)) e1) (h2 : k e1 = .ok (.int (j : Nat)) e2) : mTst (mTree (m2 fEq m k)) e = .ok (decide (i = j)) e2 := by
  have : decide ((i : Int) = (j : Nat)) = decide (i = j) := decide_eq_decide.mpr (by omega)
  simp [mTst, mTree, m2, h1, h2, Res.bind, fEq, TL.same, give, RV.tree, this]
abbrev EB (p0 : List Int) (m : Nat) (ns : List Nat) (x3 x4 x5 x6 x7 x8 x9 : Option RV) : En := [some (.own (pn p0)), some (.val (.int (m : Nat))), some (.val (.tuple (tn ns))), x3, x4, x5, x6, x7, x8, x9]
theorem leasts_ok {p0 : List Int} {m : Nat} {ns : List Nat} {x3 x4 x5 x6 x8 x9 : Option RV} (hm : ns.length = m) (hl : m ≤ 100) : mComp (mRng (mCons (mVar 1) mNil)) (gN 7) (mTst (mTree (m2 fEq (mIxV 2 (mVar 7)) (mVar 7)))) (mVar 7) [7] (EB p0 m ns x3 x4 x5 x6 none x8 x9) = .ok (.own (tn (leasts ns m))) (EB p0 m ns x3 x4 x5 x6 none x8 x9) := by
  have q := comp_eq (mi := mRng (mCons (mVar 1) mNil)) (g := gN 7) (tt := mTst (mTree (m2 fEq (mIxV 2 (mVar 7)) (mVar 7)))) (te := mVar 7) (vs := [7]) (f := id) (p := pId ns) (e := EB p0 m ns x3 x4 x5 x6 none x8 x9) (e1 := EB p0 m ns x3 x4 x5 x6 none x8 x9) (ts := tn (List.range m)) (rng_ok rfl (by omega)) (by rw [tn_len, List.length_range]; omega) fun t ht => by
    obtain ⟨k, hk, rfl⟩ := List.mem_map.mp ht
    have hk := List.mem_range.mp hk
    refine ⟨EB p0 m ns x3 x4 x5 x6 (some (.val (.int (k : Nat)))) x8 x9, EB p0 m ns x3 x4 x5 x6 (some (.val (.int (k : Nat)))) x8 x9, rfl, eqb (ix_at rfl rfl rfl (atI_tn (by omega))) rfl, fun _ => ⟨_, rfl, rfl⟩, fun _ => rfl⟩
  rw [q, filter_tn, List.map_id]
  rfl
theorem places_ok {p0 : List Int} {m k : Nat} {ns ls : List Nat} {x3 x6 x8 x9 : Option RV} (hm : ns.length = m) (hl : m ≤ 100) (hk : k < ls.length) : mComp (mRng (mCons (mVar 1) mNil)) (gN 7) (mTst (mTree (m2 fEq (mIxV 2 (mVar 7)) (mIxV 4 (mVar 5))))) (mVar 7) [7] (EB p0 m ns x3 (some (.own (tn ls))) (some (.val (.int (k : Nat)))) x6 none x8 x9) = .ok (.own (tn (places ns m (nAt ls k)))) (EB p0 m ns x3 (some (.own (tn ls))) (some (.val (.int (k : Nat)))) x6 none x8 x9) := by
  have q := comp_eq (mi := mRng (mCons (mVar 1) mNil)) (g := gN 7) (tt := mTst (mTree (m2 fEq (mIxV 2 (mVar 7)) (mIxV 4 (mVar 5))))) (te := mVar 7) (vs := [7]) (f := id) (p := pEq ns (nAt ls k)) (e := EB p0 m ns x3 (some (.own (tn ls))) (some (.val (.int (k : Nat)))) x6 none x8 x9) (e1 := EB p0 m ns x3 (some (.own (tn ls))) (some (.val (.int (k : Nat)))) x6 none x8 x9) (ts := tn (List.range m)) (rng_ok rfl (by omega)) (by rw [tn_len, List.length_range]; omega) fun t ht => by
    obtain ⟨j, hj, rfl⟩ := List.mem_map.mp ht
    have hj := List.mem_range.mp hj
    refine ⟨EB p0 m ns x3 (some (.own (tn ls))) (some (.val (.int (k : Nat)))) x6 (some (.val (.int (j : Nat)))) x8 x9, EB p0 m ns x3 (some (.own (tn ls))) (some (.val (.int (k : Nat)))) x6 (some (.val (.int (j : Nat)))) x8 x9, rfl, eqb (ix_at rfl rfl rfl (atI_tn (by omega))) (ix_at rfl rfl rfl (atI_tn hk)), fun _ => ⟨_, rfl, rfl⟩, fun _ => rfl⟩
  rw [q, filter_tn, List.map_id]
  rfl
def bodyK : Ms := (mIfS (mNotT (mTst (mTree (mCall D__law_row (mCons (mIxV 3 (mVar 5)) (mCons (mTree (mComp (mRng (mCons (mVar 1) mNil)) (gN 7) (mTst (mTree (m2 fEq (mIxV 2 (mVar 7)) (mIxV 4 (mVar 5))))) (mVar 7) [7])) mNil))))))
  (mRet (mVal (mC (.bool false))))
  mNx)
theorem stepK {p0 : List Int} {m k : Nat} {ns : List Nat} {x6 x8 x9 : Option RV} (hm : ns.length = m) (hl : m ≤ 100) (hk : k < (leasts ns m).length) : bodyK (EB p0 m ns (some (.val (.tuple (tt (blk ns))))) (some (.own (tn (leasts ns m)))) (some (.val (.int (k : Nat)))) x6 none x8 x9) = .ok .nx (EB p0 m ns (some (.val (.tuple (tt (blk ns))))) (some (.own (tn (leasts ns m)))) (some (.val (.int (k : Nat)))) x6 none x8 x9) := by
  subst hm
  have hk2 : k < (blk ns).length := by unfold blk; rw [List.length_map]; exact hk
  have e1 : (blk ns)[k] = places ns ns.length (nAt (leasts ns ns.length) k) := by
    unfold nAt
    rw [List.getD_eq_getElem?_getD, List.getElem?_eq_getElem hk]
    simp [blk]
  have a1 : mIxV 3 (mVar 5) (EB p0 ns.length ns (some (.val (.tuple (tt (blk ns))))) (some (.own (tn (leasts ns ns.length)))) (some (.val (.int (k : Nat)))) x6 none x8 x9) = .ok (.tuple (tn (places ns ns.length (nAt (leasts ns ns.length) k)))) (EB p0 ns.length ns (some (.val (.tuple (tt (blk ns))))) (some (.own (tn (leasts ns ns.length)))) (some (.val (.int (k : Nat)))) x6 none x8 x9) := by
    rw [← e1]
    exact ix_at rfl rfl rfl (atI_tt hk2)
  have a2 := tree_ok (places_ok (p0 := p0) (ls := leasts ns ns.length) (x3 := some (.val (.tuple (tt (blk ns))))) (x6 := x6) (x8 := x8) (x9 := x9) rfl hl hk)
  have few : (places ns ns.length (nAt (leasts ns ns.length) k)).length ≤ 1000 := by
    have := List.length_filter_le (fun p => decide (nAt ns p = nAt (leasts ns ns.length) k)) (List.range ns.length)
    rw [List.length_range] at this
    unfold places
    omega
  exact if_nx (not_t (tst_eq (call2 a1 a2 (row_ok few (.inl rfl)))))
theorem loopK {p0 : List Int} {m : Nat} {ns : List Nat} {x6 x8 x9 : Option RV} (hm : ns.length = m) (hl : m ≤ 100) : ∀ (f k : Nat) (x5 : Option RV), k + f ≤ (leasts ns m).length → ∃ y5, mLoop (gN 5) bodyK (rngT (k : Nat) f) (EB p0 m ns (some (.val (.tuple (tt (blk ns))))) (some (.own (tn (leasts ns m)))) x5 x6 none x8 x9) = .ok .nx (EB p0 m ns (some (.val (.tuple (tt (blk ns))))) (some (.own (tn (leasts ns m)))) y5 x6 none x8 x9)
  | 0, k, x5, _ => ⟨x5, rfl⟩
  | f + 1, k, x5, h => by
    obtain ⟨y5, ih⟩ := loopK (p0 := p0) (x6 := x6) (x8 := x8) (x9 := x9) hm hl f (k + 1) (some (.val (.int (k : Nat)))) (by omega)
    refine ⟨y5, ?_⟩
    rw [rng_cons]
    unfold mLoop
    simp only [gN, List.set]
    rw [stepK hm hl (by omega)]
    exact ih
/-! ### the lots in another order -/
def bodyH : Ms := (mSeq (mSet 7 (mCallP D__law_take 0 (mCons (mTree (m2 fAdd (mVar 5) (mC (.int 1)))) mNil)))
  (mSeq (mSet 8 (mVal (mIxV 6 (mVar 7))))
  (mSeq (mSetIx 6 (mVar 7) (mIxV 6 (mVar 5)))
  (mSetIx 6 (mVar 5) (mVar 8)))))
theorem setIx_ok {i : Nat} {mi me : Mt} {e e1 e2 : En} {t : T} {ts0 ts : List T} {j : Int} {n : Nat} (h1 : me e = .ok t e1) (h2 : e1[i]? = some (some (.own ts0))) (h3 : mi e1 = .ok (.int j) e2) (h4 : e2[i]? = some (some (.own ts))) (h5 : ixN ts.length j = some n) : mSetIx i mi me e = .ok .nx (e2.set i (some (.own (ts.set n t)))) := by
  simp only [mSetIx, h1, Res.bind, h2, h3, h4, h5]
theorem ixN_ok {n q : Nat} (h : q < n) : ixN n (q : Int) = some q := by
  unfold ixN
  rw [if_pos (by omega), if_pos (by omega)]
  simp
theorem tt_set (L : List (List Nat)) (i : Nat) (l : List Nat) : (tt L).set i (.tuple (tn l)) = tt (L.set i l) := by
  unfold tt
  rw [List.map_set]
theorem stepH {p0 : List Int} {m k : Nat} {ns : List Nat} {L : List (List Nat)} {x3 x4 x7 x8 x9 : Option RV} (hk : k < L.length) : ∃ p1 L' y7 y8, bodyH (EB p0 m ns x3 x4 (some (.val (.int (k : Nat)))) (some (.own (tt L))) x7 x8 x9) = .ok .nx (EB p1 m ns x3 x4 (some (.val (.int (k : Nat)))) (some (.own (tt L'))) y7 y8 x9) ∧ L'.Perm L := by
  obtain ⟨r, p1, t1, q, rfl, q0, q1⟩ := callP (take_ok (b := (k : Int) + 1) (by omega)) (ts := [.int ((k : Int) + 1)]) (i := 0) (ms := mCons (mTree (m2 fAdd (mVar 5) (mC (.int 1)))) mNil) (e := EB p0 m ns x3 x4 (some (.val (.int (k : Nat)))) (some (.own (tt L))) x7 x8 x9) (ns := p0) rfl rfl
  obtain ⟨p, rfl⟩ : ∃ p : Nat, q = (p : Int) := ⟨q.toNat, by omega⟩
  have hp : p < L.length := by omega
  refine ⟨p1, (L.set p L[k]).set k L[p], some (.val (.int (p : Nat))), some (.val (.tuple (tn L[p]))), ?_, List.set_set_perm hp hk⟩
  have s2 : mVal (mIxV 6 (mVar 7)) (EB p1 m ns x3 x4 (some (.val (.int (k : Nat)))) (some (.own (tt L))) (some (.val (.int (p : Nat)))) x8 x9) = .ok (.val (.tuple (tn L[p]))) (EB p1 m ns x3 x4 (some (.val (.int (k : Nat)))) (some (.own (tt L))) (some (.val (.int (p : Nat)))) x8 x9) := val_ok (ix_at rfl rfl rfl (atI_tt hp))
  have s3 : mSetIx 6 (mVar 7) (mIxV 6 (mVar 5)) (EB p1 m ns x3 x4 (some (.val (.int (k : Nat)))) (some (.own (tt L))) (some (.val (.int (p : Nat)))) (some (.val (.tuple (tn L[p])))) x9) = .ok .nx (EB p1 m ns x3 x4 (some (.val (.int (k : Nat)))) (some (.own (tt (L.set p L[k])))) (some (.val (.int (p : Nat)))) (some (.val (.tuple (tn L[p])))) x9) := by
    have z := setIx_ok (i := 6) (mi := mVar 7) (me := mIxV 6 (mVar 5)) (t := .tuple (tn L[k])) (ts0 := tt L) (ts := tt L) (j := (p : Int)) (n := p) (e := EB p1 m ns x3 x4 (some (.val (.int (k : Nat)))) (some (.own (tt L))) (some (.val (.int (p : Nat)))) (some (.val (.tuple (tn L[p])))) x9) (e1 := EB p1 m ns x3 x4 (some (.val (.int (k : Nat)))) (some (.own (tt L))) (some (.val (.int (p : Nat)))) (some (.val (.tuple (tn L[p])))) x9) (e2 := EB p1 m ns x3 x4 (some (.val (.int (k : Nat)))) (some (.own (tt L))) (some (.val (.int (p : Nat)))) (some (.val (.tuple (tn L[p])))) x9) (ix_at rfl rfl rfl (atI_tt hk)) rfl rfl rfl (ixN_ok (by rw [tt_len]; exact hp))
    rw [tt_set] at z
    exact z
  have s4 : mSetIx 6 (mVar 5) (mVar 8) (EB p1 m ns x3 x4 (some (.val (.int (k : Nat)))) (some (.own (tt (L.set p L[k])))) (some (.val (.int (p : Nat)))) (some (.val (.tuple (tn L[p])))) x9) = .ok .nx (EB p1 m ns x3 x4 (some (.val (.int (k : Nat)))) (some (.own (tt ((L.set p L[k]).set k L[p])))) (some (.val (.int (p : Nat)))) (some (.val (.tuple (tn L[p])))) x9) := by
    have z := setIx_ok (i := 6) (mi := mVar 5) (me := mVar 8) (t := .tuple (tn L[p])) (ts0 := tt (L.set p L[k])) (ts := tt (L.set p L[k])) (j := (k : Int)) (n := k) (e := EB p1 m ns x3 x4 (some (.val (.int (k : Nat)))) (some (.own (tt (L.set p L[k])))) (some (.val (.int (p : Nat)))) (some (.val (.tuple (tn L[p])))) x9) (e1 := EB p1 m ns x3 x4 (some (.val (.int (k : Nat)))) (some (.own (tt (L.set p L[k])))) (some (.val (.int (p : Nat)))) (some (.val (.tuple (tn L[p])))) x9) (e2 := EB p1 m ns x3 x4 (some (.val (.int (k : Nat)))) (some (.own (tt (L.set p L[k])))) (some (.val (.int (p : Nat)))) (some (.val (.tuple (tn L[p])))) x9) rfl rfl rfl rfl (ixN_ok (by rw [tt_len, List.length_set]; exact hk))
    rw [tt_set] at z
    exact z
  exact (seq_set t1).trans ((seq_set s2).trans ((seq_nx s3).trans s4))
theorem loopH {m : Nat} {ns : List Nat} {x3 x4 x9 : Option RV} : ∀ (f k : Nat) (p0 : List Int) (L : List (List Nat)) (x5 x7 x8 : Option RV), k + f ≤ L.length → ∃ p1 L' y5 y7 y8, mLoop (gN 5) bodyH (rngT (k : Nat) f) (EB p0 m ns x3 x4 x5 (some (.own (tt L))) x7 x8 x9) = .ok .nx (EB p1 m ns x3 x4 y5 (some (.own (tt L'))) y7 y8 x9) ∧ L'.Perm L
  | 0, k, p0, L, x5, x7, x8, _ => ⟨p0, L, x5, x7, x8, rfl, .refl _⟩
  | f + 1, k, p0, L, x5, x7, x8, h => by
    obtain ⟨p1, L1, y7, y8, hs, g⟩ := stepH (p0 := p0) (m := m) (ns := ns) (x3 := x3) (x4 := x4) (x7 := x7) (x8 := x8) (x9 := x9) (show k < L.length by omega)
    obtain ⟨p2, L2, z5, z7, z8, ih, g2⟩ := loopH (m := m) (ns := ns) (x3 := x3) (x4 := x4) (x9 := x9) f (k + 1) p1 L1 (some (.val (.int (k : Nat)))) y7 y8 (by rw [g.length_eq]; omega)
    refine ⟨p2, L2, z5, z7, z8, ?_, g2.trans g⟩
    rw [rng_cons]
    unfold mLoop
    simp only [gN, List.set]
    rw [hs]
    exact ih
end G
end
section
set_option Elab.async false
set_option linter.all false
set_option autoImplicit false
set_option maxRecDepth 100000
set_option maxHeartbeats 1000000
set_option exponentiation.threshold 10000
namespace G
open PySem PySem.Spec PyProof.Rows L2 TL
theorem for_ok {mi : Ml} {g : Mg} {body : Ms} {e e1 : En} {ts : List T} {r : Res Out} (hi : mi e = .ok ts e1) (hl : mLoop g body ts e1 = r) : mFor mi g body e = r := by
  simp only [mFor, hi, Res.bind, hl]
theorem rngN (n : Nat) : tn (List.range n) = rngT 0 n := (rng_tn n).symm
theorem blocks_law {m : Nat} {ns : List Nat} (h : JO ns) (hm : ns.length = m) (hl : m ≤ 100) : PL D__law_blocks [.val (.int (m : Nat)), .val (.tuple (tn ns))] (fun r => r = .bool true) := run_po rfl rfl fun p0 => by
  subst hm
  show ∃ r ns' e, M__law_blocks (EB p0 ns.length ns none none none none none none none) = _ ∧ _
  have hb := blocks_of_ok h rfl (by omega)
  have Lb := blk_lots h hl
  have Hb := blk_heads h
  have blen : (blk ns).length = (leasts ns ns.length).length := by unfold blk; rw [List.length_map]
  have few := Lb.few
  generalize hB : (some (.val (.tuple (tt (blk ns)))) : Option RV) = B
  have s1 : mCall D_blocks_of (mCons (mVar 1) (mCons (mVar 2) mNil)) (EB p0 ns.length ns none none none none none none none) = .ok (.val (.tuple (tt (blk ns)))) (EB p0 ns.length ns none none none none none none none) := callV2 rfl rfl hb
  have s2 := leasts_ok (p0 := p0) (ns := ns) (x3 := B) (x4 := none) (x5 := none) (x6 := none) (x8 := none) (x9 := none) rfl hl
  have c3 : mOrT (mNotT (mTst (mIsi .tup (mVar 3)))) (mTst (mTree (m2 fNe (mLenV 3) (mLenV 4)))) (EB p0 ns.length ns B (some (.own (tn (leasts ns ns.length)))) none none none none none) = .ok false (EB p0 ns.length ns B (some (.own (tn (leasts ns ns.length)))) none none none none none) := by
    subst hB
    refine (orT_f (not_t rfl)).trans ?_
    have q1 := len_at (i := 3) (e := EB p0 ns.length ns (some (.val (.tuple (tt (blk ns))))) (some (.own (tn (leasts ns ns.length)))) none none none none none) (ts := tt (blk ns)) rfl
    have q2 := len_at (i := 4) (e := EB p0 ns.length ns (some (.val (.tuple (tt (blk ns))))) (some (.own (tn (leasts ns ns.length)))) none none none none none) (ts := tn (leasts ns ns.length)) rfl
    rw [tt_len, blen] at q1
    rw [tn_len] at q2
    refine tst_eq (tree_ok (r := .val (.bool false)) ?_)
    simp only [m2, q1, q2, Res.bind, fNe, TL.same, decide_true, Option.map, give]
    rfl
  obtain ⟨y5, l4⟩ := loopK (p0 := p0) (m := ns.length) (ns := ns) (x6 := none) (x8 := none) (x9 := none) rfl hl (blk ns).length 0 none (by rw [blen]; omega)
  rw [hB] at l4
  have f4 : mFor (mRng (mCons (mLenV 3) mNil)) (gN 5) bodyK (EB p0 ns.length ns B (some (.own (tn (leasts ns ns.length)))) none none none none none) = .ok .nx (EB p0 ns.length ns B (some (.own (tn (leasts ns ns.length)))) y5 none none none none) := by
    refine for_ok (rng_ok (n := (blk ns).length) ?_ (by omega)) (by rw [rngN]; exact l4)
    subst hB
    have := len_at (i := 3) (e := EB p0 ns.length ns (some (.val (.tuple (tt (blk ns))))) (some (.own (tn (leasts ns ns.length)))) none none none none none) (ts := tt (blk ns)) rfl
    rwa [tt_len] at this
  have s5 : mComp (mSeq1 (mVar 3)) (gN 9) mYes (mVar 9) [9] (EB p0 ns.length ns B (some (.own (tn (leasts ns ns.length)))) y5 none none none none) = .ok (.own (tt (blk ns))) (EB p0 ns.length ns B (some (.own (tn (leasts ns ns.length)))) y5 none none none none) := by
    subst hB
    have q := comp_yes (mi := mSeq1 (mVar 3)) (g := gN 9) (te := mVar 9) (vs := [9]) (f := id) (e := EB p0 ns.length ns (some (.val (.tuple (tt (blk ns))))) (some (.own (tn (leasts ns ns.length)))) y5 none none none none) (e1 := EB p0 ns.length ns (some (.val (.tuple (tt (blk ns))))) (some (.own (tn (leasts ns ns.length)))) y5 none none none none) (ts := tt (blk ns)) rfl (by rw [tt_len]; omega) fun t ht =>
      ⟨EB p0 ns.length ns (some (.val (.tuple (tt (blk ns))))) (some (.own (tn (leasts ns ns.length)))) y5 none none none (some (.val t)), EB p0 ns.length ns (some (.val (.tuple (tt (blk ns))))) (some (.own (tn (leasts ns ns.length)))) y5 none none none (some (.val t)), rfl, rfl, rfl⟩
    rw [List.map_id] at q
    exact q
  obtain ⟨p1, L, z5, y7, y8, l6, hp⟩ := loopH (m := ns.length) (ns := ns) (x3 := B) (x4 := some (.own (tn (leasts ns ns.length)))) (x9 := none) (blk ns).length 0 p0 (blk ns) y5 none none (by omega)
  have f6 : mFor (mRng (mCons (mLenV 6) mNil)) (gN 5) bodyH (EB p0 ns.length ns B (some (.own (tn (leasts ns ns.length)))) y5 (some (.own (tt (blk ns)))) none none none) = .ok .nx (EB p1 ns.length ns B (some (.own (tn (leasts ns ns.length)))) z5 (some (.own (tt L))) y7 y8 none) := by
    refine for_ok (rng_ok (n := (blk ns).length) ?_ (by omega)) (by rw [rngN]; exact l6)
    have := len_at (i := 6) (e := EB p0 ns.length ns B (some (.own (tn (leasts ns ns.length)))) y5 (some (.own (tt (blk ns)))) none none none) (ts := tt (blk ns)) rfl
    rwa [tt_len] at this
  have c7 : mNotT (mTst (mTree (mCall D__law_row (mCons (mTree (mCall D_joining_of (mCons (mVar 1) (mCons (mTree (mN fTuple (mCons (mVar 6) mNil))) mNil)))) (mCons (mVar 2) mNil))))) (EB p1 ns.length ns B (some (.own (tn (leasts ns ns.length)))) z5 (some (.own (tt L))) y7 y8 none) = .ok false (EB p1 ns.length ns B (some (.own (tn (leasts ns ns.length)))) z5 (some (.val (.list (tt L)))) y7 y8 none) := by
    have a1 : mTree (mN fTuple (mCons (mVar 6) mNil)) (EB p1 ns.length ns B (some (.own (tn (leasts ns ns.length)))) z5 (some (.own (tt L))) y7 y8 none) = .ok (.tuple (tt L)) (EB p1 ns.length ns B (some (.own (tn (leasts ns ns.length)))) z5 (some (.val (.list (tt L)))) y7 y8 none) := rfl
    exact not_t (tst_eq (call2 (call2 rfl a1 (joining_of_ok (Lb.of_perm hp) (by omega) rfl (Hb.of_perm hp))) rfl (row_ok (by omega) (.inr rfl))))
  have c8 : mVal (mAndV (mTree (mCall D__law_row (mCons (mTree (mCallKW D_joining_of [1, 0] 2 (mCons (mVar 3) (mCons (mVar 1) mNil)))) (mCons (mVar 2) mNil)))) (mTree (m2 fEq (mTree (mCallKW D_blocks_of [1, 0] 2 (mCons (mVar 2) (mCons (mVar 1) mNil)))) (mVar 3)))) (EB p1 ns.length ns B (some (.own (tn (leasts ns ns.length)))) z5 (some (.val (.list (tt L)))) y7 y8 none) = .ok (.val (.bool true)) (EB p1 ns.length ns B (some (.own (tn (leasts ns ns.length)))) z5 (some (.val (.list (tt L)))) y7 y8 none) := by
    subst hB
    have q0a : mTree (mCallKW D_joining_of [1, 0] 2 (mCons (mVar 3) (mCons (mVar 1) mNil))) (EB p1 ns.length ns (some (.val (.tuple (tt (blk ns))))) (some (.own (tn (leasts ns ns.length)))) z5 (some (.val (.list (tt L)))) y7 y8 none) = .ok (.tuple (tn ns)) (EB p1 ns.length ns (some (.val (.tuple (tt (blk ns))))) (some (.own (tn (leasts ns ns.length)))) z5 (some (.val (.list (tt L)))) y7 y8 none) := callK2 rfl rfl (joining_of_ok Lb (by omega) rfl Hb)
    have q0 : mTree (mCall D__law_row (mCons (mTree (mCallKW D_joining_of [1, 0] 2 (mCons (mVar 3) (mCons (mVar 1) mNil)))) (mCons (mVar 2) mNil))) (EB p1 ns.length ns (some (.val (.tuple (tt (blk ns))))) (some (.own (tn (leasts ns ns.length)))) z5 (some (.val (.list (tt L)))) y7 y8 none) = .ok (.bool true) (EB p1 ns.length ns (some (.val (.tuple (tt (blk ns))))) (some (.own (tn (leasts ns ns.length)))) z5 (some (.val (.list (tt L)))) y7 y8 none) := call2 q0a rfl (row_ok (by omega) (.inr rfl))
    refine val_ok ((and_t q0).trans ?_)
    have q1 : mTree (mCallKW D_blocks_of [1, 0] 2 (mCons (mVar 2) (mCons (mVar 1) mNil))) (EB p1 ns.length ns (some (.val (.tuple (tt (blk ns))))) (some (.own (tn (leasts ns ns.length)))) z5 (some (.val (.list (tt L)))) y7 y8 none) = .ok (.tuple (tt (blk ns))) (EB p1 ns.length ns (some (.val (.tuple (tt (blk ns))))) (some (.own (tn (leasts ns ns.length)))) z5 (some (.val (.list (tt L)))) y7 y8 none) := callK2 rfl rfl hb
    have q2 : mVar 3 (EB p1 ns.length ns (some (.val (.tuple (tt (blk ns))))) (some (.own (tn (leasts ns ns.length)))) z5 (some (.val (.list (tt L)))) y7 y8 none) = .ok (.tuple (tt (blk ns))) (EB p1 ns.length ns (some (.val (.tuple (tt (blk ns))))) (some (.own (tn (leasts ns ns.length)))) z5 (some (.val (.list (tt L)))) y7 y8 none) := rfl
    refine tree_ok (r := .val (.bool true)) ?_
    simp only [m2, q1, q2, Res.bind, fEq, same_tt, Option.map, give]
  refine ⟨.bool true, p1, [some (.val (.int (ns.length : Nat))), some (.val (.tuple (tn ns))), B, some (.own (tn (leasts ns ns.length))), z5, some (.val (.list (tt L))), y7, y8, none], ?_, rfl⟩
  refine (seq_set s1).trans ?_
  show mSeq _ _ (EB p0 ns.length ns (some (.val (.tuple (tt (blk ns))))) none none none none none none) = _
  rw [hB]
  exact (seq_set s2).trans ((seq_if_f c3).trans ((seq_nx f4).trans ((seq_set s5).trans ((seq_nx f6).trans ((seq_if_f c7).trans (ret_eq c8))))))
end G
end
section
set_option Elab.async false
set_option linter.all false
set_option autoImplicit false
set_option maxRecDepth 100000
set_option maxHeartbeats 1000000
set_option exponentiation.threshold 10000
namespace G
open PySem PySem.Spec PyProof.Rows L2 TL
/-! ### two joinings, joined -/
/-- two places that every colouring which goes along with both joinings gives one colour -/
def Sm (f s : List Nat) (m p q : Nat) : Prop := ∀ g : Nat → Nat, (∀ x, x < m → g x = g (nAt f x)) → (∀ x, x < m → g x = g (nAt s x)) → g p = g q
section
variable {f s : List Nat} {m : Nat}
theorem Sm.refl (p : Nat) : Sm f s m p p := fun _ _ _ => rfl
theorem Sm.symm {p q : Nat} (h : Sm f s m p q) : Sm f s m q p := fun g h1 h2 => (h g h1 h2).symm
theorem Sm.trans {p q r : Nat} (h : Sm f s m p q) (h' : Sm f s m q r) : Sm f s m p r := fun g h1 h2 => (h g h1 h2).trans (h' g h1 h2)
theorem Sm.fst {p : Nat} (h : p < m) : Sm f s m p (nAt f p) := fun g h1 _ => h1 p h
theorem Sm.snd {p : Nat} (h : p < m) : Sm f s m p (nAt s p) := fun g _ h2 => h2 p h
theorem Sm.swap {p q : Nat} (h : Sm f s m p q) : Sm s f m p q := fun g h1 h2 => h g h2 h1
/-- what the joining of both must be -/
structure Bo (f s : List Nat) (m : Nat) (R : List Nat) : Prop where
  len : R.length = m
  le : ∀ p, p < m → nAt R p ≤ p
  cf : ∀ p, p < m → nAt R p = nAt R (nAt f p)
  cs : ∀ p, p < m → nAt R p = nAt R (nAt s p)
  sm : ∀ p, p < m → Sm f s m p (nAt R p)
theorem Bo.swap {R : List Nat} (h : Bo f s m R) : Bo s f m R := ⟨h.len, h.le, h.cs, h.cf, fun p hp => (h.sm p hp).swap⟩
theorem nAt_ext {a b : List Nat} (hl : a.length = b.length) (h : ∀ p, p < a.length → nAt a p = nAt b p) : a = b := by
  refine List.ext_getElem hl fun i h1 h2 => ?_
  have := h i h1
  unfold nAt at this
  rw [List.getD_eq_getElem?_getD, List.getD_eq_getElem?_getD, List.getElem?_eq_getElem h1, List.getElem?_eq_getElem h2] at this
  exact this
theorem Bo.uniq {R R' : List Nat} (h : Bo f s m R) (h' : Bo f s m R') : R = R' := by
  refine nAt_ext (by rw [h.len, h'.len]) fun p hp => ?_
  rw [h.len] at hp
  have h1 := h.le p hp
  have h2 := h'.le p hp
  have a1 : nAt R' p = nAt R' (nAt R p) := h.sm p hp (nAt R') h'.cf h'.cs
  have a2 : nAt R p = nAt R (nAt R' p) := h'.sm p hp (nAt R) h.cf h.cs
  have b1 := h'.le (nAt R p) (by omega)
  have b2 := h.le (nAt R' p) (by omega)
  omega
end
theorem nAt_set {l : List Nat} {i x p : Nat} (h : i < l.length) : nAt (l.set i x) p = if p = i then x else nAt l p := by
  unfold nAt
  rw [List.getD_eq_getElem?_getD, List.getD_eq_getElem?_getD, List.getElem?_set]
  by_cases hp : i = p
  · subst hp
    rw [if_pos rfl, if_pos h, if_pos rfl]
    rfl
  · rw [if_neg hp, if_neg (fun z => hp z.symm)]
theorem nAt_map {l : List Nat} {g : Nat → Nat} {p : Nat} (h : p < l.length) : nAt (l.map g) p = g (nAt l p) := by
  unfold nAt
  rw [List.getD_eq_getElem?_getD, List.getD_eq_getElem?_getD, List.getElem?_map, List.getElem?_eq_getElem h]
  rfl
/-! ### by one place after the other -/
def lo2 (b : List Nat) (p q : Nat) : Nat := if nAt b q < nAt b p then nAt b q else nAt b p
def hi2 (b : List Nat) (p q : Nat) : Nat := if nAt b q > nAt b p then nAt b q else nAt b p
def two (b : List Nat) (p q : Nat) : List Nat := b.map fun x => if x = hi2 b p q then lo2 b p q else x
def twoFrom (s : List Nat) : Nat → Nat → List Nat → List Nat
  | _, 0, b => b
  | k, n + 1, b => twoFrom s (k + 1) n (two b k (nAt s k))
section
variable {f s : List Nat} {m : Nat}
structure Par (f s : List Nat) (m k : Nat) (b : List Nat) : Prop where
  len : b.length = m
  le : ∀ p, p < m → nAt b p ≤ p
  cf : ∀ p, p < m → nAt b p = nAt b (nAt f p)
  cs : ∀ p, p < k → nAt b p = nAt b (nAt s p)
  sm : ∀ p, p < m → Sm f s m p (nAt b p)
theorem lohi (b : List Nat) (p q : Nat) : (lo2 b p q = nAt b p ∧ hi2 b p q = nAt b q) ∨ (lo2 b p q = nAt b q ∧ hi2 b p q = nAt b p) := by
  unfold lo2 hi2
  by_cases h : nAt b q < nAt b p
  · rw [if_pos h, if_neg (by omega)]
    exact .inr ⟨rfl, rfl⟩
  · rw [if_neg h]
    by_cases h2 : nAt b q > nAt b p
    · rw [if_pos h2]; exact .inl ⟨rfl, rfl⟩
    · rw [if_neg h2]
      exact .inl ⟨rfl, by omega⟩
theorem lo_le (b : List Nat) (p q : Nat) : lo2 b p q ≤ hi2 b p q := by
  unfold lo2 hi2
  split <;> split <;> omega
theorem Par.step (hf : JO f) (hs : JO s) (lf : f.length = m) (ls : s.length = m) {k : Nat} {b : List Nat} (h : Par f s m k b) (hk : k < m) : Par f s m (k + 1) (two b k (nAt s k)) := by
  have hsk : nAt s k ≤ k := (hs k (by omega)).1
  have at_ : ∀ p, p < m → nAt (two b k (nAt s k)) p = if nAt b p = hi2 b k (nAt s k) then lo2 b k (nAt s k) else nAt b p := fun p hp => nAt_map (by rw [h.len]; exact hp)
  have hle := lo_le b k (nAt s k)
  refine ⟨by unfold two; rw [List.length_map, h.len], fun p hp => ?_, fun p hp => ?_, fun p hp => ?_, fun p hp => ?_⟩
  · rw [at_ p hp]
    have := h.le p hp
    split <;> omega
  · rw [at_ p hp, at_ (nAt f p) (by have := (hf p (by omega)).1; omega), ← h.cf p hp]
  · have hp' : p < m := by omega
    have hsp : nAt s p ≤ p := (hs p (by omega)).1
    rw [at_ p hp', at_ (nAt s p) (by omega)]
    by_cases e : p = k
    · subst e
      rcases lohi b p (nAt s p) with ⟨e1, e2⟩ | ⟨e1, e2⟩
      · rw [e1, e2, if_pos rfl]
        split
        · rename_i z; rw [z]; try rw [z]
        · rfl
      · rw [e1, e2, if_pos rfl]
        split
        · rfl
        · rfl
    · rw [← h.cs p (by omega)]
  · rw [at_ p hp]
    split
    · rename_i z
      have h1 := h.sm p hp
      have h2 := h.sm k hk
      have h3 := h.sm (nAt s k) (by omega)
      have h4 : Sm f s m k (nAt s k) := Sm.snd hk
      rw [z] at h1
      rcases lohi b k (nAt s k) with ⟨e1, e2⟩ | ⟨e1, e2⟩
      · rw [e2] at h1
        rw [e1]
        exact h1.trans (h3.symm.trans (h4.symm.trans h2))
      · rw [e2] at h1
        rw [e1]
        exact h1.trans (h2.symm.trans (h4.trans h3))
    · exact h.sm p hp
theorem Par.from (hf : JO f) (hs : JO s) (lf : f.length = m) (ls : s.length = m) : ∀ (n k : Nat) (b : List Nat), Par f s m k b → k + n = m → Par f s m m (twoFrom s k n b)
  | 0, k, b, h, e => by
    have : k = m := by omega
    subst this
    exact h
  | n + 1, k, b, h, e => Par.from hf hs lf ls n (k + 1) _ (h.step hf hs lf ls (by omega)) (by omega)
theorem two_bo (hf : JO f) (hs : JO s) (lf : f.length = m) (ls : s.length = m) : Bo f s m (twoFrom s 0 m f) := by
  have h0 : Par f s m 0 f := ⟨lf, fun p hp => (hf p (by omega)).1, fun p hp => (hf p (by omega)).2.symm, fun p hp => by omega, fun p hp => Sm.fst hp⟩
  have h := Par.from hf hs lf ls m 0 f h0 (by omega)
  exact ⟨h.len, h.le, h.cf, h.cs, h.sm⟩
end
/-! ### by laps -/
def low3 (f s d : List Nat) (p : Nat) : Nat := if nAt d (nAt f p) < (if nAt d (nAt s p) < nAt d p then nAt d (nAt s p) else nAt d p) then nAt d (nAt f p) else (if nAt d (nAt s p) < nAt d p then nAt d (nAt s p) else nAt d p)
def lp (f s d : List Nat) (p : Nat) : List Nat := ((d.set (nAt f p) (low3 f s d p)).set (nAt s p) (low3 f s d p)).set p (low3 f s d p)
def lapFrom (f s : List Nat) : Nat → Nat → List Nat → List Nat
  | _, 0, d => d
  | k, n + 1, d => lapFrom f s (k + 1) n (lp f s d k)
def lapsN (f s : List Nat) (m : Nat) : Nat → List Nat → List Nat
  | 0, d => d
  | n + 1, d => lapsN f s m n (lapFrom f s 0 m d)
section
variable {f s : List Nat} {m : Nat} {R : List Nat}
structure Du (f s : List Nat) (m : Nat) (d : List Nat) : Prop where
  len : d.length = m
  le : ∀ p, p < m → nAt d p ≤ p
  sm : ∀ p, p < m → Sm f s m p (nAt d p)
theorem low3_or (f s d : List Nat) (p : Nat) : low3 f s d p = nAt d p ∨ low3 f s d p = nAt d (nAt s p) ∨ low3 f s d p = nAt d (nAt f p) := by
  unfold low3
  by_cases h1 : nAt d (nAt s p) < nAt d p
  · rw [if_pos h1]
    by_cases h2 : nAt d (nAt f p) < nAt d (nAt s p)
    · rw [if_pos h2]; exact .inr (.inr rfl)
    · rw [if_neg h2]; exact .inr (.inl rfl)
  · rw [if_neg h1]
    by_cases h2 : nAt d (nAt f p) < nAt d p
    · rw [if_pos h2]; exact .inr (.inr rfl)
    · rw [if_neg h2]; exact .inl rfl
theorem low3_le (f s d : List Nat) (p : Nat) : low3 f s d p ≤ nAt d p ∧ low3 f s d p ≤ nAt d (nAt s p) ∧ low3 f s d p ≤ nAt d (nAt f p) := by
  unfold low3
  split <;> split at * <;> omega
theorem lp_at (hf : JO f) (hs : JO s) (lf : f.length = m) (ls : s.length = m) {d : List Nat} (hd : d.length = m) {p : Nat} (hp : p < m) (x : Nat) : nAt (lp f s d p) x = if x = p ∨ x = nAt s p ∨ x = nAt f p then low3 f s d p else nAt d x := by
  have h1 := (hf p (by omega)).1
  have h2 := (hs p (by omega)).1
  unfold lp
  rw [nAt_set (by rw [List.length_set, List.length_set]; omega), nAt_set (by rw [List.length_set]; omega), nAt_set (by omega)]
  by_cases e1 : x = p
  · rw [if_pos e1, if_pos (.inl e1)]
  · rw [if_neg e1]
    by_cases e2 : x = nAt s p
    · rw [if_pos e2, if_pos (.inr (.inl e2))]
    · rw [if_neg e2]
      by_cases e3 : x = nAt f p
      · rw [if_pos e3, if_pos (.inr (.inr e3))]
      · rw [if_neg e3, if_neg (fun z => z.elim e1 fun z => z.elim e2 e3)]
theorem Du.low (hf : JO f) (hs : JO s) (lf : f.length = m) (ls : s.length = m) {d : List Nat} (h : Du f s m d) {p : Nat} (hp : p < m) : Sm f s m p (low3 f s d p) := by
  have h1 := (hf p (by omega)).1
  have h2 := (hs p (by omega)).1
  rcases low3_or f s d p with e | e | e
  · rw [e]; exact h.sm p hp
  · rw [e]; exact (Sm.snd hp).trans (h.sm _ (by omega))
  · rw [e]; exact (Sm.fst hp).trans (h.sm _ (by omega))
theorem Du.step (hf : JO f) (hs : JO s) (lf : f.length = m) (ls : s.length = m) {d : List Nat} (h : Du f s m d) {p : Nat} (hp : p < m) : Du f s m (lp f s d p) ∧ ∀ x, nAt (lp f s d p) x ≤ nAt d x := by
  have h1 := (hf p (by omega)).1
  have h2 := (hs p (by omega)).1
  obtain ⟨l1, l2, l3⟩ := low3_le f s d p
  have mono : ∀ x, nAt (lp f s d p) x ≤ nAt d x := fun x => by
    rw [lp_at hf hs lf ls h.len hp]
    split
    · rename_i z
      rcases z with rfl | rfl | rfl
      · exact l1
      · exact l2
      · exact l3
    · exact Nat.le_refl _
  refine ⟨⟨by unfold lp; rw [List.length_set, List.length_set, List.length_set, h.len], fun x hx => Nat.le_trans (mono x) (h.le x hx), fun x hx => ?_⟩, mono⟩
  rw [lp_at hf hs lf ls h.len hp]
  have sl := h.low hf hs lf ls hp
  split
  · rename_i z
    rcases z with rfl | rfl | rfl
    · exact sl
    · exact (Sm.snd hp).symm.trans sl
    · exact (Sm.fst hp).symm.trans sl
  · exact h.sm x hx
/-- the place has what is due -/
abbrev In (R d : List Nat) (x : Nat) : Prop := nAt d x = nAt R x
theorem Du.ge {d : List Nat} (h : Du f s m d) (hR : Bo f s m R) {x : Nat} (hx : x < m) : nAt R x ≤ nAt d x := by
  have e : nAt R x = nAt R (nAt d x) := h.sm x hx (nAt R) hR.cf hR.cs
  have := h.le x hx
  have := hR.le (nAt d x) (by omega)
  omega
theorem Du.keep (hf : JO f) (hs : JO s) (lf : f.length = m) (ls : s.length = m) (hR : Bo f s m R) {d : List Nat} (h : Du f s m d) {p : Nat} (hp : p < m) {x : Nat} (hx : x < m) (hi : In R d x) : In R (lp f s d p) x := by
  obtain ⟨h', mono⟩ := h.step hf hs lf ls hp
  have := h'.ge hR hx
  have := mono x
  unfold In at *
  omega
theorem Du.grow (hf : JO f) (hs : JO s) (lf : f.length = m) (ls : s.length = m) (hR : Bo f s m R) {d : List Nat} (h : Du f s m d) {p : Nat} (hp : p < m) (hi : In R d p ∨ In R d (nAt s p) ∨ In R d (nAt f p)) : In R (lp f s d p) p ∧ In R (lp f s d p) (nAt s p) ∧ In R (lp f s d p) (nAt f p) := by
  obtain ⟨l1, l2, l3⟩ := low3_le f s d p
  have sl := h.low hf hs lf ls hp
  have h1 := (hf p (by omega)).1
  have h2 := (hs p (by omega)).1
  have e1 := hR.cf p hp
  have e2 := hR.cs p hp
  have lowlt : low3 f s d p < m := by
    have := h.le p hp
    omega
  have e3 : nAt R p = nAt R (low3 f s d p) := sl (nAt R) hR.cf hR.cs
  have e4 := hR.le _ lowlt
  have e5 : low3 f s d p = nAt R p := by
    unfold In at hi
    omega
  unfold In
  rw [lp_at hf hs lf ls h.len hp, lp_at hf hs lf ls h.len hp, lp_at hf hs lf ls h.len hp, if_pos (.inl rfl), if_pos (.inr (.inl rfl)), if_pos (.inr (.inr rfl))]
  omega
theorem lapFrom_ok (hf : JO f) (hs : JO s) (lf : f.length = m) (ls : s.length = m) (hR : Bo f s m R) : ∀ (n k : Nat) (d : List Nat), Du f s m d → k + n ≤ m → Du f s m (lapFrom f s k n d) ∧ (∀ x, x < m → In R d x → In R (lapFrom f s k n d) x) ∧
    ∀ q, k ≤ q → q < k + n → (In R d q ∨ In R d (nAt s q) ∨ In R d (nAt f q)) → In R (lapFrom f s k n d) q ∧ In R (lapFrom f s k n d) (nAt s q) ∧ In R (lapFrom f s k n d) (nAt f q)
  | 0, k, d, h, e => ⟨h, fun x _ hx => hx, fun q h1 h2 => by omega⟩
  | n + 1, k, d, h, e => by
    obtain ⟨hd, _⟩ := h.step hf hs lf ls (show k < m by omega)
    obtain ⟨g1, g2, g3⟩ := lapFrom_ok hf hs lf ls hR n (k + 1) (lp f s d k) hd (by omega)
    have kp : ∀ x, x < m → In R d x → In R (lp f s d k) x := fun x hx hi => h.keep hf hs lf ls hR (by omega) hx hi
    refine ⟨g1, fun x hx hi => g2 x hx (kp x hx hi), fun q q1 q2 hi => ?_⟩
    have b1 := (hf q (by omega)).1
    have b2 := (hs q (by omega)).1
    by_cases eq : q = k
    · subst eq
      obtain ⟨i1, i2, i3⟩ := h.grow hf hs lf ls hR (by omega) hi
      exact ⟨g2 _ (by omega) i1, g2 _ (by omega) i2, g2 _ (by omega) i3⟩
    · refine g3 q (by omega) (by omega) ?_
      rcases hi with hi | hi | hi
      · exact .inl (kp _ (by omega) hi)
      · exact .inr (.inl (kp _ (by omega) hi))
      · exact .inr (.inr (kp _ (by omega) hi))
def cnt (m : Nat) (R d : List Nat) : Nat := (List.range m).countP fun x => decide (nAt d x = nAt R x)
theorem countP_more {p q : Nat → Bool} : ∀ (l : List Nat), (∀ x ∈ l, p x = true → q x = true) → (∃ x ∈ l, q x = true ∧ p x = false) → l.countP p + 1 ≤ l.countP q
  | [], _, ⟨x, hx, _⟩ => by cases hx
  | a :: l, h, ⟨x, hx, h1, h2⟩ => by
    rw [List.countP_cons, List.countP_cons]
    have hm : l.countP p ≤ l.countP q := List.countP_mono_left fun y hy => h y (by simp [hy])
    rcases List.mem_cons.mp hx with rfl | hx
    · rw [h1, h2]
      simp
      omega
    · have ih := countP_more l (fun y hy => h y (by simp [hy])) ⟨x, hx, h1, h2⟩
      have ha := h a (by simp)
      cases hpa : p a
      · simp
        omega
      · rw [ha hpa]
        simp
        omega
theorem cross (hf : JO f) (hs : JO s) (lf : f.length = m) (ls : s.length = m) (hR : Bo f s m R) {d : List Nat} (h : Du f s m d) (hn : ¬ ∀ x, x < m → In R d x) : ∃ q, q < m ∧ ((In R d q ∨ In R d (nAt s q) ∨ In R d (nAt f q)) ∧ ¬ (In R d q ∧ In R d (nAt s q) ∧ In R d (nAt f q))) := by
  refine Classical.byContradiction fun no => hn fun x hx => ?_
  have same : ∀ q, q < m → (In R d q ∨ In R d (nAt s q) ∨ In R d (nAt f q)) → In R d q ∧ In R d (nAt s q) ∧ In R d (nAt f q) := fun q hq hi => Classical.byContradiction fun z => no ⟨q, hq, hi, z⟩
  have hr : nAt R x < m := by have := hR.le x hx; omega
  have root : In R d (nAt R x) := by
    have e : nAt R x = nAt R (nAt R x) := hR.sm x hx (nAt R) hR.cf hR.cs
    have h1 := h.ge hR hr
    have h2 := h.le (nAt R x) hr
    unfold In
    omega
  have key : (if nAt d x = nAt R x then 1 else 0) = if nAt d (nAt R x) = nAt R (nAt R x) then 1 else 0 :=
    hR.sm x hx (fun y => if nAt d y = nAt R y then 1 else 0) (fun q hq => by
      by_cases e : In R d q
      · have z := (same q hq (.inl e)).2.2
        show (if nAt d q = nAt R q then 1 else 0) = if nAt d (nAt f q) = nAt R (nAt f q) then 1 else 0
        rw [if_pos e, if_pos z]
      · show (if nAt d q = nAt R q then 1 else 0) = if nAt d (nAt f q) = nAt R (nAt f q) then 1 else 0
        rw [if_neg e, if_neg (fun z => e (same q hq (.inr (.inr z))).1)])
      (fun q hq => by
      by_cases e : In R d q
      · have z := (same q hq (.inl e)).2.1
        show (if nAt d q = nAt R q then 1 else 0) = if nAt d (nAt s q) = nAt R (nAt s q) then 1 else 0
        rw [if_pos e, if_pos z]
      · show (if nAt d q = nAt R q then 1 else 0) = if nAt d (nAt s q) = nAt R (nAt s q) then 1 else 0
        rw [if_neg e, if_neg (fun z => e (same q hq (.inr (.inl z))).1)])
  unfold In at root ⊢
  rw [if_pos root] at key
  exact Classical.byContradiction fun z => by rw [if_neg z] at key; cases key
theorem lapsN_ok (hf : JO f) (hs : JO s) (lf : f.length = m) (ls : s.length = m) (hR : Bo f s m R) : ∀ (n : Nat) (d : List Nat), Du f s m d → (m ≤ cnt m R d + n ∨ ∀ x, x < m → In R d x) → Du f s m (lapsN f s m n d) ∧ ∀ x, x < m → In R (lapsN f s m n d) x
  | 0, d, h, e => by
    refine ⟨h, ?_⟩
    rcases e with e | e
    · intro x hx
      have hle := List.countP_le_length (p := fun x => decide (nAt d x = nAt R x)) (l := List.range m)
      have heq : (List.range m).countP (fun x => decide (nAt d x = nAt R x)) = (List.range m).length := by
        unfold cnt at e
        rw [List.length_range] at hle ⊢
        omega
      have := List.countP_eq_length.mp heq x (List.mem_range.mpr hx)
      exact of_decide_eq_true this
    · exact e
  | n + 1, d, h, e => by
    obtain ⟨g1, g2, g3⟩ := lapFrom_ok hf hs lf ls hR m 0 d h (by omega)
    refine lapsN_ok hf hs lf ls hR n _ g1 ?_
    by_cases all : ∀ x, x < m → In R d x
    · exact .inr fun x hx => g2 x hx (all x hx)
    · rcases e with e | e
      · refine .inl ?_
        obtain ⟨q, hq, hi, hno⟩ := cross hf hs lf ls hR h all
        obtain ⟨i1, i2, i3⟩ := g3 q (by omega) (by omega) hi
        have b1 := (hf q (by omega)).1
        have b2 := (hs q (by omega)).1
        have more : cnt m R d + 1 ≤ cnt m R (lapFrom f s 0 m d) := by
          refine countP_more _ (fun x hx hp => ?_) ?_
          · exact decide_eq_true (g2 x (List.mem_range.mp hx) (of_decide_eq_true hp))
          · by_cases c1 : In R d q
            · by_cases c2 : In R d (nAt s q)
              · have c3 : ¬ In R d (nAt f q) := fun z => hno ⟨c1, c2, z⟩
                exact ⟨nAt f q, List.mem_range.mpr (by omega), decide_eq_true i3, decide_eq_false c3⟩
              · exact ⟨nAt s q, List.mem_range.mpr (by omega), decide_eq_true i2, decide_eq_false c2⟩
            · exact ⟨q, List.mem_range.mpr hq, decide_eq_true i1, decide_eq_false c1⟩
        omega
      · exact absurd e all
theorem laps_eq (hf : JO f) (hs : JO s) (lf : f.length = m) (ls : s.length = m) (hR : Bo f s m R) : lapsN f s m m f = R := by
  have h0 : Du f s m f := ⟨lf, fun p hp => (hf p (by omega)).1, fun p hp => Sm.fst hp⟩
  obtain ⟨h1, h2⟩ := lapsN_ok hf hs lf ls hR m f h0 (.inl (by omega))
  exact nAt_ext (by rw [h1.len, hR.len]) fun p hp => h2 p (by rw [h1.len] at hp; exact hp)
end
end G
end
section
set_option Elab.async false
set_option linter.all false
set_option autoImplicit false
set_option maxRecDepth 100000
set_option maxHeartbeats 1000000
set_option exponentiation.threshold 10000
namespace G
open PySem PySem.Spec PyProof.Rows L2 TL
theorem min_ok {m n : Mt} {i j : Nat} {e e1 e2 : En} (h1 : m e = .ok (.int (i : Nat)) e1) (h2 : n e1 = .ok (.int (j : Nat)) e2) : mN fMin (mCons m (mCons n mNil)) e = .ok (.val (.int ((if j < i then j else i : Nat) : Int))) e2 := by
  have : (if (j : Int) < (i : Nat) then (j : Int) else (i : Nat)) = ((if j < i then j else i : Nat) : Int) := by
    by_cases h : j < i
    · rw [if_pos h, if_pos (by omega)]
    · rw [if_neg h, if_neg (by omega)]
  simp only [mN, mCons, mNil, h1, h2, Res.bind, fMin, give, this]
theorem max_ok {m n : Mt} {i j : Nat} {e e1 e2 : En} (h1 : m e = .ok (.int (i : Nat)) e1) (h2 : n e1 = .ok (.int (j : Nat)) e2) : mN fMax (mCons m (mCons n mNil)) e = .ok (.val (.int ((if j > i then j else i : Nat) : Int))) e2 := by
  have : (if (j : Int) > (i : Nat) then (j : Int) else (i : Nat)) = ((if j > i then j else i : Nat) : Int) := by
    by_cases h : j > i
    · rw [if_pos h, if_pos (by omega)]
    · rw [if_neg h, if_neg (by omega)]
  simp only [mN, mCons, mNil, h1, h2, Res.bind, fMax, give, this]
theorem joined_two_ok {b : List Nat} {p q : Nat} (hl : b.length ≤ 1000) (hp : p < b.length) (hq : q < b.length) : Is (D_joined_two [.val (.tuple (tn b)), .val (.int (p : Nat)), .val (.int (q : Nat))]) (.tuple (tn (two b p q))) := by
  have s1 : mN fMin (mCons (mIxV 0 (mVar 1)) (mCons (mIxV 0 (mVar 2)) mNil)) [some (.val (.tuple (tn b))), some (.val (.int (p : Nat))), some (.val (.int (q : Nat))), none, none, none] = .ok (.val (.int (lo2 b p q : Nat))) [some (.val (.tuple (tn b))), some (.val (.int (p : Nat))), some (.val (.int (q : Nat))), none, none, none] :=
    min_ok (ix_at rfl rfl rfl (atI_tn hp)) (ix_at rfl rfl rfl (atI_tn hq))
  have s2 : mN fMax (mCons (mIxV 0 (mVar 1)) (mCons (mIxV 0 (mVar 2)) mNil)) [some (.val (.tuple (tn b))), some (.val (.int (p : Nat))), some (.val (.int (q : Nat))), some (.val (.int (lo2 b p q : Nat))), none, none] = .ok (.val (.int (hi2 b p q : Nat))) [some (.val (.tuple (tn b))), some (.val (.int (p : Nat))), some (.val (.int (q : Nat))), some (.val (.int (lo2 b p q : Nat))), none, none] :=
    max_ok (ix_at rfl rfl rfl (atI_tn hp)) (ix_at rfl rfl rfl (atI_tn hq))
  have cm := comp_yes (mi := mSeq1 (mVar 0)) (g := gN 5) (te := mTree (mIf (mTst (mTree (m2 fEq (mVar 5) (mVar 4)))) (mVal (mVar 3)) (mVal (mVar 5)))) (vs := [5]) (f := fun t => match t with | .int i => .int (if i.toNat = hi2 b p q then lo2 b p q else i.toNat : Nat) | t => t)
    (e := [some (.val (.tuple (tn b))), some (.val (.int (p : Nat))), some (.val (.int (q : Nat))), some (.val (.int (lo2 b p q : Nat))), some (.val (.int (hi2 b p q : Nat))), none]) (e1 := [some (.val (.tuple (tn b))), some (.val (.int (p : Nat))), some (.val (.int (q : Nat))), some (.val (.int (lo2 b p q : Nat))), some (.val (.int (hi2 b p q : Nat))), none]) (ts := tn b) rfl (by rw [tn_len]; omega) fun t ht => by
      obtain ⟨k, hk, rfl⟩ := List.mem_map.mp ht
      refine ⟨[some (.val (.tuple (tn b))), some (.val (.int (p : Nat))), some (.val (.int (q : Nat))), some (.val (.int (lo2 b p q : Nat))), some (.val (.int (hi2 b p q : Nat))), some (.val (.int (k : Nat)))], [some (.val (.tuple (tn b))), some (.val (.int (p : Nat))), some (.val (.int (q : Nat))), some (.val (.int (lo2 b p q : Nat))), some (.val (.int (hi2 b p q : Nat))), some (.val (.int (k : Nat)))], rfl, ?_, rfl⟩
      have c : mTst (mTree (m2 fEq (mVar 5) (mVar 4))) [some (.val (.tuple (tn b))), some (.val (.int (p : Nat))), some (.val (.int (q : Nat))), some (.val (.int (lo2 b p q : Nat))), some (.val (.int (hi2 b p q : Nat))), some (.val (.int (k : Nat)))] = .ok (decide (k = hi2 b p q)) [some (.val (.tuple (tn b))), some (.val (.int (p : Nat))), some (.val (.int (q : Nat))), some (.val (.int (lo2 b p q : Nat))), some (.val (.int (hi2 b p q : Nat))), some (.val (.int (k : Nat)))] := eqb rfl rfl
      simp only [Int.toNat_natCast]
      by_cases h : k = hi2 b p q
      · rw [decide_eq_true h] at c
        rw [if_pos h]
        refine tree_ok (r := .val (.int (lo2 b p q : Nat))) ?_
        simp only [mIf, c, Res.bind, if_true]
        rfl
      · rw [decide_eq_false h] at c
        rw [if_neg h]
        refine tree_ok (r := .val (.int (k : Nat))) ?_
        simp only [mIf, c, Res.bind]
        rfl
  have e3 : (tn b).map (fun t => match t with | .int i => PyData.int (if i.toNat = hi2 b p q then lo2 b p q else i.toNat : Nat) | t => t) = tn (two b p q) := by
    unfold tn two
    rw [List.map_map, List.map_map]
    refine List.map_congr_left fun k _ => ?_
    simp only [Function.comp, Int.toNat_natCast]
  rw [e3] at cm
  have s3 : mRet (mN fTuple (mCons (mTree (mComp (mSeq1 (mVar 0)) (gN 5) mYes (mTree (mIf (mTst (mTree (m2 fEq (mVar 5) (mVar 4)))) (mVal (mVar 3)) (mVal (mVar 5)))) [5])) mNil)) [some (.val (.tuple (tn b))), some (.val (.int (p : Nat))), some (.val (.int (q : Nat))), some (.val (.int (lo2 b p q : Nat))), some (.val (.int (hi2 b p q : Nat))), none] = .ok (.rt (.val (.tuple (tn (two b p q))))) [some (.val (.tuple (tn b))), some (.val (.int (p : Nat))), some (.val (.int (q : Nat))), some (.val (.int (lo2 b p q : Nat))), some (.val (.int (hi2 b p q : Nat))), none] := by
    refine ret_eq ?_
    have z := tree_ok cm
    simp only [mN, mCons, mNil, z, Res.bind]
    rfl
  exact run_body rfl ((seq_set s1).trans ((seq_set s2).trans s3))
theorem two_len (b : List Nat) (p q : Nat) : (two b p q).length = b.length := by unfold two; rw [List.length_map]
def bodyW : Ms := (mSet 3 (mCall D_joined_two (mCons (mVar 3) (mCons (mVar 4) (mCons (mVar 5) mNil)))))
theorem loopW {m : Nat} {f s : List Nat} {M F S : Option RV} (hs : JO s) (ls : s.length = m) (hm : m ≤ 100) : ∀ (n k : Nat) (b : List Nat) (x4 x5 : Option RV), b.length = m → k + n = m → ∃ y4 y5, mLoop (gT (gsCons (gN 4) (gsCons (gN 5) gsNil)) 2) bodyW (enumT k (tn (s.drop k))) [M, F, S, some (.val (.tuple (tn b))), x4, x5] = .ok .nx [M, F, S, some (.val (.tuple (tn (twoFrom s k n b)))), y4, y5]
  | 0, k, b, x4, x5, hb, e => by
    rw [List.drop_eq_nil_of_le (by omega)]
    exact ⟨x4, x5, rfl⟩
  | n + 1, k, b, x4, x5, hb, e => by
    have hk : k < s.length := by omega
    have e1 : s.drop k = nAt s k :: s.drop (k + 1) := by
      rw [List.drop_eq_getElem_cons hk]
      unfold nAt
      rw [List.getD_eq_getElem?_getD, List.getElem?_eq_getElem hk]
      rfl
    have hsk := (hs k hk).1
    obtain ⟨y4, y5, ih⟩ := loopW (m := m) (f := f) (M := M) (F := F) (S := S) hs ls hm n (k + 1) (two b k (nAt s k)) (some (.val (.int (k : Nat)))) (some (.val (.int (nAt s k : Nat)))) (by rw [two_len, hb]) (by omega)
    refine ⟨y4, y5, ?_⟩
    rw [e1]
    show mLoop _ bodyW (pair (.int (k : Nat)) (.int (nAt s k : Nat)) :: enumT (k + 1) (tn (s.drop (k + 1)))) _ = _
    have st : bodyW [M, F, S, some (.val (.tuple (tn b))), some (.val (.int (k : Nat))), some (.val (.int (nAt s k : Nat)))] = .ok .nx [M, F, S, some (.val (.tuple (tn (two b k (nAt s k))))), some (.val (.int (k : Nat))), some (.val (.int (nAt s k : Nat)))] :=
      set_eq (callV3 rfl rfl rfl (joined_two_ok (by omega) (by omega) (by omega)))
    unfold mLoop
    rw [show gT (gsCons (gN 4) (gsCons (gN 5) gsNil)) 2 (pair (.int (k : Nat)) (.int (nAt s k : Nat))) [M, F, S, some (.val (.tuple (tn b))), x4, x5] = some [M, F, S, some (.val (.tuple (tn b))), some (.val (.int (k : Nat))), some (.val (.int (nAt s k : Nat)))] from rfl]
    dsimp only
    rw [st]
    exact ih
theorem joined_with_ok {m : Nat} {f s : List Nat} (hf : JO f) (hs : JO s) (lf : f.length = m) (ls : s.length = m) (hm : m ≤ 100) : Is (D_joined_with [.val (.int (m : Nat)), .val (.tuple (tn f)), .val (.tuple (tn s))]) (.tuple (tn (twoFrom s 0 m f))) := by
  have s1 : mDrop (mCall D_need (mCons (mTree (mCall D_is_joining (mCons (mVar 0) (mCons (mVar 1) mNil)))) (mCons (mC (.str "joining")) mNil))) [some (.val (.int (m : Nat))), some (.val (.tuple (tn f))), some (.val (.tuple (tn s))), none, none, none] = .ok .nx [some (.val (.int (m : Nat))), some (.val (.tuple (tn f))), some (.val (.tuple (tn s))), none, none, none] :=
    drop_eq (callV2 (call2 rfl rfl (is_joining_ok hf lf (by omega))) rfl (need_t "joining"))
  have s2 : mDrop (mCall D_need (mCons (mTree (mCall D_is_joining (mCons (mVar 0) (mCons (mVar 2) mNil)))) (mCons (mC (.str "other")) mNil))) [some (.val (.int (m : Nat))), some (.val (.tuple (tn f))), some (.val (.tuple (tn s))), none, none, none] = .ok .nx [some (.val (.int (m : Nat))), some (.val (.tuple (tn f))), some (.val (.tuple (tn s))), none, none, none] :=
    drop_eq (callV2 (call2 rfl rfl (is_joining_ok hs ls (by omega))) rfl (need_t "other"))
  obtain ⟨y4, y5, hl⟩ := loopW (m := m) (f := f) (M := some (.val (.int (m : Nat)))) (F := some (.val (.tuple (tn f)))) (S := some (.val (.tuple (tn s)))) hs ls hm m 0 f none none lf (by omega)
  have hf' : mFor (mEnum (mCons (mVar 2) mNil)) (gT (gsCons (gN 4) (gsCons (gN 5) gsNil)) 2) bodyW [some (.val (.int (m : Nat))), some (.val (.tuple (tn f))), some (.val (.tuple (tn s))), some (.val (.tuple (tn f))), none, none] = _ := for_ok rfl hl
  have s3 : mSet 3 (mVal (mVar 1)) [some (.val (.int (m : Nat))), some (.val (.tuple (tn f))), some (.val (.tuple (tn s))), none, none, none] = .ok .nx [some (.val (.int (m : Nat))), some (.val (.tuple (tn f))), some (.val (.tuple (tn s))), some (.val (.tuple (tn f))), none, none] := rfl
  exact run_body rfl ((seq_nx s1).trans ((seq_nx s2).trans ((seq_nx s3).trans ((seq_nx hf').trans (ret_eq rfl)))))
end G
end
section
set_option Elab.async false
set_option linter.all false
set_option autoImplicit false
set_option maxRecDepth 100000
set_option maxHeartbeats 1000000
set_option exponentiation.threshold 10000
namespace G
open PySem PySem.Spec PyProof.Rows L2 TL
abbrev EU (m : Nat) (f s : List Nat) (x3 x4 x5 x6 x7 : Option RV) : En := [some (.val (.int (m : Nat))), some (.val (.tuple (tn f))), some (.val (.tuple (tn s))), x3, x4, x5, x6, x7]
def bodyL : Ms := (mSeq (mSet 7 (mN fMin3 (mCons (mIxV 3 (mVar 6)) (mCons (mIxV 3 (mIxV 2 (mVar 6))) (mCons (mIxV 3 (mIxV 1 (mVar 6))) mNil)))))
  (mSeq (mSetIx 3 (mIxV 1 (mVar 6)) (mVar 7))
  (mSeq (mSetIx 3 (mIxV 2 (mVar 6)) (mVar 7))
  (mSetIx 3 (mVar 6) (mVar 7)))))
theorem tn_set (d : List Nat) (i x : Nat) : (tn d).set i (.int (x : Nat)) = tn (d.set i x) := by
  unfold tn
  rw [List.map_set]
theorem cmin (a b : Nat) : (if (b : Int) < (a : Nat) then (b : Int) else (a : Nat)) = ((if b < a then b else a : Nat) : Int) := by
  by_cases h : b < a
  · rw [if_pos h, if_pos (by omega)]
  · rw [if_neg h, if_neg (by omega)]
theorem min3_ok {m n k : Mt} {i j l : Nat} {e e1 e2 e3 : En} (h1 : m e = .ok (.int (i : Nat)) e1) (h2 : n e1 = .ok (.int (j : Nat)) e2) (h3 : k e2 = .ok (.int (l : Nat)) e3) : mN fMin3 (mCons m (mCons n (mCons k mNil))) e = .ok (.val (.int ((if l < (if j < i then j else i) then l else (if j < i then j else i) : Nat) : Int))) e3 := by
  have : (if (l : Int) < (if (j : Int) < (i : Nat) then (j : Int) else (i : Nat)) then (l : Int) else (if (j : Int) < (i : Nat) then (j : Int) else (i : Nat))) = ((if l < (if j < i then j else i) then l else (if j < i then j else i) : Nat) : Int) := by
    rw [cmin i j, cmin _ l]
  simp only [mN, mCons, mNil, h1, h2, h3, Res.bind, fMin3, give, this]
section
variable {m : Nat} {f s : List Nat}
theorem set3 {d : List Nat} {mi : Mt} {j x : Nat} {x4 x5 x6 : Option RV} (hd : d.length = m) (hj : j < m) (hi : mi (EU m f s (some (.own (tn d))) x4 x5 x6 (some (.val (.int (x : Nat))))) = .ok (.int (j : Nat)) (EU m f s (some (.own (tn d))) x4 x5 x6 (some (.val (.int (x : Nat)))))) :
    mSetIx 3 mi (mVar 7) (EU m f s (some (.own (tn d))) x4 x5 x6 (some (.val (.int (x : Nat))))) = .ok .nx (EU m f s (some (.own (tn (d.set j x)))) x4 x5 x6 (some (.val (.int (x : Nat))))) := by
  have z := setIx_ok (i := 3) (mi := mi) (me := mVar 7) (t := .int (x : Nat)) (ts0 := tn d) (ts := tn d) (j := (j : Int)) (n := j) (e := EU m f s (some (.own (tn d))) x4 x5 x6 (some (.val (.int (x : Nat))))) (e1 := EU m f s (some (.own (tn d))) x4 x5 x6 (some (.val (.int (x : Nat))))) (e2 := EU m f s (some (.own (tn d))) x4 x5 x6 (some (.val (.int (x : Nat))))) rfl rfl hi rfl (ixN_ok (by rw [tn_len]; omega))
  rw [tn_set] at z
  exact z
theorem stepL (hf : JO f) (hs : JO s) (lf : f.length = m) (ls : s.length = m) {d : List Nat} (hd : d.length = m) {p : Nat} (hp : p < m) {x4 x5 x7 : Option RV} : bodyL (EU m f s (some (.own (tn d))) x4 x5 (some (.val (.int (p : Nat)))) x7) = .ok .nx (EU m f s (some (.own (tn (lp f s d p)))) x4 x5 (some (.val (.int (p : Nat)))) (some (.val (.int (low3 f s d p : Nat))))) := by
  have h1 := (hf p (by omega)).1
  have h2 := (hs p (by omega)).1
  have i1 : ∀ (d : List Nat) (x7 : Option RV), mIxV 1 (mVar 6) (EU m f s (some (.own (tn d))) x4 x5 (some (.val (.int (p : Nat)))) x7) = .ok (.int (nAt f p : Nat)) (EU m f s (some (.own (tn d))) x4 x5 (some (.val (.int (p : Nat)))) x7) := fun d x7 => ix_at rfl rfl rfl (atI_tn (by omega))
  have i2 : ∀ (d : List Nat) (x7 : Option RV), mIxV 2 (mVar 6) (EU m f s (some (.own (tn d))) x4 x5 (some (.val (.int (p : Nat)))) x7) = .ok (.int (nAt s p : Nat)) (EU m f s (some (.own (tn d))) x4 x5 (some (.val (.int (p : Nat)))) x7) := fun d x7 => ix_at rfl rfl rfl (atI_tn (by omega))
  have s1 : mN fMin3 (mCons (mIxV 3 (mVar 6)) (mCons (mIxV 3 (mIxV 2 (mVar 6))) (mCons (mIxV 3 (mIxV 1 (mVar 6))) mNil))) (EU m f s (some (.own (tn d))) x4 x5 (some (.val (.int (p : Nat)))) x7) = .ok (.val (.int (low3 f s d p : Nat))) (EU m f s (some (.own (tn d))) x4 x5 (some (.val (.int (p : Nat)))) x7) :=
    min3_ok (ix_at rfl rfl rfl (atI_tn (by omega))) (ix_at rfl (i2 d x7) rfl (atI_tn (by omega))) (ix_at rfl (i1 d x7) rfl (atI_tn (by omega)))
  have a1 := set3 (m := m) (f := f) (s := s) (d := d) (x := low3 f s d p) (x4 := x4) (x5 := x5) (x6 := some (.val (.int (p : Nat)))) hd (show nAt f p < m by omega) (i1 _ _)
  have a2 := set3 (m := m) (f := f) (s := s) (d := d.set (nAt f p) (low3 f s d p)) (x := low3 f s d p) (x4 := x4) (x5 := x5) (x6 := some (.val (.int (p : Nat)))) (by rw [List.length_set, hd]) (show nAt s p < m by omega) (i2 _ _)
  have a3 := set3 (m := m) (f := f) (s := s) (d := (d.set (nAt f p) (low3 f s d p)).set (nAt s p) (low3 f s d p)) (mi := mVar 6) (x := low3 f s d p) (x4 := x4) (x5 := x5) (x6 := some (.val (.int (p : Nat)))) (by rw [List.length_set, List.length_set, hd]) hp rfl
  exact (seq_set s1).trans ((seq_nx a1).trans ((seq_nx a2).trans a3))
theorem lp_len (d : List Nat) (p : Nat) : (lp f s d p).length = d.length := by unfold lp; rw [List.length_set, List.length_set, List.length_set]
theorem lapFrom_len : ∀ (n k : Nat) (d : List Nat), (lapFrom f s k n d).length = d.length
  | 0, _, _ => rfl
  | n + 1, k, d => by
    show (lapFrom f s (k + 1) n (lp f s d k)).length = _
    rw [lapFrom_len n, lp_len]
theorem loopL (hf : JO f) (hs : JO s) (lf : f.length = m) (ls : s.length = m) : ∀ (n k : Nat) (d : List Nat) (x4 x5 x6 x7 : Option RV), d.length = m → k + n ≤ m → ∃ y6 y7, mLoop (gN 6) bodyL (rngT (k : Nat) n) (EU m f s (some (.own (tn d))) x4 x5 x6 x7) = .ok .nx (EU m f s (some (.own (tn (lapFrom f s k n d)))) x4 x5 y6 y7)
  | 0, k, d, x4, x5, x6, x7, hd, h => ⟨x6, x7, rfl⟩
  | n + 1, k, d, x4, x5, x6, x7, hd, h => by
    obtain ⟨y6, y7, ih⟩ := loopL hf hs lf ls n (k + 1) (lp f s d k) x4 x5 (some (.val (.int (k : Nat)))) (some (.val (.int (low3 f s d k : Nat)))) (by rw [lp_len, hd]) (by omega)
    refine ⟨y6, y7, ?_⟩
    rw [rng_cons]
    unfold mLoop
    simp only [gN, List.set]
    rw [stepL hf hs lf ls hd (by omega)]
    exact ih
def bodyM : Ms := (mFor (mRng (mCons (mVar 0) mNil)) (gN 6) bodyL)
theorem loopM (hf : JO f) (hs : JO s) (lf : f.length = m) (ls : s.length = m) (hm : m ≤ 100) : ∀ (n : Nat) (lo : Int) (d : List Nat) (x4 x5 x6 x7 : Option RV), d.length = m → ∃ y4 y6 y7, mLoop (gN 4) bodyM (rngT lo n) (EU m f s (some (.own (tn d))) x4 x5 x6 x7) = .ok .nx (EU m f s (some (.own (tn (lapsN f s m n d)))) y4 x5 y6 y7)
  | 0, lo, d, x4, x5, x6, x7, hd => ⟨x4, x6, x7, rfl⟩
  | n + 1, lo, d, x4, x5, x6, x7, hd => by
    obtain ⟨z6, z7, hl⟩ := loopL hf hs lf ls m 0 d (some (.val (.int lo))) x5 x6 x7 hd (by omega)
    obtain ⟨y4, y6, y7, ih⟩ := loopM hf hs lf ls hm n (lo + 1) (lapFrom f s 0 m d) (some (.val (.int lo))) x5 z6 z7 (by rw [lapFrom_len, hd])
    refine ⟨y4, y6, y7, ?_⟩
    have st : bodyM (EU m f s (some (.own (tn d))) (some (.val (.int lo))) x5 x6 x7) = .ok .nx (EU m f s (some (.own (tn (lapFrom f s 0 m d)))) (some (.val (.int lo))) x5 z6 z7) :=
      for_ok (rng_ok (n := m) rfl (by omega)) (by rw [rngN]; exact hl)
    rw [rng_cons]
    unfold mLoop
    simp only [gN, List.set]
    rw [st]
    exact ih
theorem both_ok (hf : JO f) (hs : JO s) (lf : f.length = m) (ls : s.length = m) (hm : m ≤ 100) : Is (D__law_both [.val (.int (m : Nat)), .val (.tuple (tn f)), .val (.tuple (tn s))]) (.bool true) := by
  have R := two_bo hf hs lf ls
  have e1 := laps_eq hf hs lf ls R
  have e2 := (two_bo hs hf ls lf).swap.uniq R
  have j1 := joined_with_ok hf hs lf ls hm
  have j2 := joined_with_ok hs hf ls lf hm
  rw [e2] at j2
  have rl := R.len
  generalize twoFrom s 0 m f = B at *
  obtain ⟨y4, y6, y7, hl⟩ := loopM hf hs lf ls hm m 0 f none none none none lf
  rw [e1] at hl
  have f1 : mFor (mRng (mCons (mVar 0) mNil)) (gN 4) bodyM (EU m f s (some (.own (tn f))) none none none none) = .ok .nx (EU m f s (some (.own (tn B))) y4 none y6 y7) := for_ok (rng_ok (n := m) rfl (by omega)) (by rw [rngN]; exact hl)
  have s0 : mN fList (mCons (mVar 1) mNil) (EU m f s none none none none none) = .ok (.own (tn f)) (EU m f s none none none none none) := rfl
  have s2 : mCall D_joined_with (mCons (mVar 0) (mCons (mVar 1) (mCons (mVar 2) mNil))) (EU m f s (some (.own (tn B))) y4 none y6 y7) = .ok (.val (.tuple (tn B))) (EU m f s (some (.own (tn B))) y4 none y6 y7) := callV3 rfl rfl rfl j1
  have q1 : mTree (mCall D__law_row (mCons (mVar 5) (mCons (mVar 3) mNil))) (EU m f s (some (.own (tn B))) y4 (some (.val (.tuple (tn B)))) y6 y7) = .ok (.bool true) (EU m f s (some (.val (.list (tn B)))) y4 (some (.val (.tuple (tn B)))) y6 y7) :=
    call2 (e1 := EU m f s (some (.own (tn B))) y4 (some (.val (.tuple (tn B)))) y6 y7) rfl rfl (row_ok (by omega) (.inl rfl))
  have q2 : mTree (mCallKW D_joined_with [2, 1, 0] 3 (mCons (mVar 1) (mCons (mVar 2) (mCons (mVar 0) mNil)))) (EU m f s (some (.val (.list (tn B)))) y4 (some (.val (.tuple (tn B)))) y6 y7) = .ok (.tuple (tn B)) (EU m f s (some (.val (.list (tn B)))) y4 (some (.val (.tuple (tn B)))) y6 y7) := by
    obtain ⟨e, j2⟩ := j2
    have a : mCons (mVar 1) (mCons (mVar 2) (mCons (mVar 0) mNil)) (EU m f s (some (.val (.list (tn B)))) y4 (some (.val (.tuple (tn B)))) y6 y7) = .ok [.tuple (tn f), .tuple (tn s), .int (m : Nat)] (EU m f s (some (.val (.list (tn B)))) y4 (some (.val (.tuple (tn B)))) y6 y7) := rfl
    have b : (pick .none [2, 1, 0] [PyData.tuple (tn f), .tuple (tn s), .int (m : Nat)]).map RV.val = [.val (.int (m : Nat)), .val (.tuple (tn s)), .val (.tuple (tn f))] := rfl
    simp only [mTree, mCallKW, a, Res.bind, List.length_cons, List.length_nil, if_true, mCallK, b, j2, RV.tree]
  have q3 : mTree (mCall D__law_row (mCons (mTree (mCallKW D_joined_with [2, 1, 0] 3 (mCons (mVar 1) (mCons (mVar 2) (mCons (mVar 0) mNil))))) (mCons (mVar 3) mNil))) (EU m f s (some (.val (.list (tn B)))) y4 (some (.val (.tuple (tn B)))) y6 y7) = .ok (.bool true) (EU m f s (some (.val (.list (tn B)))) y4 (some (.val (.tuple (tn B)))) y6 y7) :=
    call2 q2 rfl (row_ok (by omega) (.inl rfl))
  exact run_body rfl ((seq_set s0).trans ((seq_nx f1).trans ((seq_set s2).trans (ret_eq (val_ok ((and_t q1).trans q3))))))
end
end G
end
section
set_option Elab.async false
set_option linter.all false
set_option autoImplicit false
set_option maxRecDepth 100000
set_option maxHeartbeats 1000000
set_option exponentiation.threshold 10000
namespace G
open PySem PySem.Spec PyProof.Rows L2 TL
/-! ### the law itself, line by line -/
def st1 : Ms := (mSet 1 (mCall D__law_pool (mCons (mVar 0) mNil)))
def st2 : Ms := (mSet 2 (mComp (mRng (mCons (mC (.int 3)) mNil)) (gN 12) mYes (mTree (mCallP D__law_share 1 mNil)) [12]))
def st3 : Ms := (mSet 3 (mVal (mIxV 2 (mTree (mCallP D__law_take 1 (mCons (mC (.int 3)) mNil))))))
def st4 : Ms := (mIfS (mTst (mTree (m2 fEq (mTree (mCallP D__law_take 1 (mCons (mC (.int 3)) mNil))) (mC (.int 2))))) (mSet 3 (mVal (mTup (mCons (mTree (m2 fAdd (mIxV 3 (mC (.int 0))) (mIxV 3 (mC (.int 1))))) (mCons (mIxV 3 (mC (.int 1))) mNil))))) mNx)
def st5 : Ms := (mIfS (mTst (mTree (m2 fLe (mTree (mN fAbs (mCons (mIxV 3 (mC (.int 0))) mNil))) (mTree (m2 fPow (mC (.int 10)) (mC (.int 12))))))) (mDrop (mApp 2 (mVar 3))) mNx)
def st6 : Ms := (mSet 4 (m2 fIx (mTree (mLst (mCons (mC (.int 1)) (mCons (mTree (m1 fNeg (mC (.int 1)))) (mCons (mC (.int 6)) (mCons (mTree (m1 fNeg (mC (.int 35)))) (mCons (mC (.int 0)) mNil))))))) (mTree (mCallP D__law_take 1 (mCons (mC (.int 5)) mNil)))))
def st7 : Ms := (mSet 5 (m2 fMul (mTree (mCallP D__law_take 1 (mCons (mC (.int 1000)) mNil))) (mVar 4)))
def st8 : Ms := (mSet 6 (m2 fMul (mTree (m2 fAdd (mC (.int 1)) (mTree (mCallP D__law_take 1 (mCons (mC (.int 90)) mNil))))) (mTree (m2 fIx (mTree (mLst (mCons (mC (.int 1)) (mCons (mTree (m1 fNeg (mC (.int 1)))) (mCons (mC (.int 6)) (mCons (mTree (m1 fNeg (mC (.int 35)))) mNil)))))) (mTree (mCallP D__law_take 1 (mCons (mC (.int 4)) mNil)))))))
def st9 : Ms := (mIfS (mNotT (mTst (mTree (mCall D__law_stands (mCons (mTree (mCall D_quotient_of (mCons (mVar 5) (mCons (mVar 6) mNil)))) (mCons (mVar 5) (mCons (mVar 6) mNil))))))) (mRet (mVal (mC (.bool false)))) mNx)
def st10 : Ms := (mIfS (mNotT (mTst (mTree (mCall D__law_stands (mCons (mTree (mCallKW D_quotient_of [1, 0] 2 (mCons (mVar 6) (mCons (mVar 5) mNil)))) (mCons (mVar 5) (mCons (mVar 6) mNil))))))) (mRet (mVal (mC (.bool false)))) mNx)
def st11 : Ms := (mIfS (mAndT (mTst (mTree (m2 fEq (mTree (mCallP D__law_take 1 (mCons (mC (.int 4)) mNil))) (mC (.int 3))))) (mNotT (mTst (mTree (mCall00 D__law_refusals))))) (mRet (mVal (mC (.bool false)))) mNx)
def st12 : Ms := (mFor (mSeq1 (mVar 2)) (gN 7) (mFor (mSeq1 (mVar 2)) (gN 11) (mIfS (mNotT (mTst (mTree (mCall D__law_pair (mCons (mVar 7) (mCons (mVar 11) mNil)))))) (mRet (mVal (mC (.bool false)))) mNx)))
def st13 : Ms := (mAsg (gT (gsCons (gN 5) (gsCons (gN 6) gsNil)) 2) (mTree (mCall D__law_number (mCons (mC (.str "minus")) (mCons (mIxV 2 (mC (.int 1))) (mCons (mIxV 2 (mC (.int 0))) mNil))))))
def st14 : Ms := (mIfS (mNotT (mTst (mTree (mCall D__law_stands (mCons (mTree (mCallKW D_minus [1, 0] 2 (mCons (mIxV 2 (mC (.int 0))) (mCons (mIxV 2 (mC (.int 1))) mNil)))) (mCons (mVar 5) (mCons (mVar 6) mNil))))))) (mRet (mVal (mC (.bool false)))) mNx)
def st15 : Ms := (mIfS (mNotT (mTst (mTree (mCall D__law_stands (mCons (mTree (mCallKW D_minus [1, 0] 2 (mCons (mTup (mCons (mC (.int 0)) (mCons (mC (.int 1)) mNil))) (mCons (mTree (mCallKW D_times [1, 0] 2 (mCons (mIxV 2 (mC (.int 0))) (mCons (mTup (mCons (mC (.int 1)) (mCons (mC (.int 1)) mNil))) mNil)))) mNil)))) (mCons (mTree (m2 fIx (mIxV 2 (mC (.int 0))) (mC (.int 0)))) (mCons (mTree (m2 fIx (mIxV 2 (mC (.int 0))) (mC (.int 1)))) mNil))))))) (mRet (mVal (mC (.bool false)))) mNx)
def st16 : Ms := (mIfS (mNotT (mTst (mTree (mCall D__law_stands (mCons (mTree (mCallKW D_plus [1, 0] 2 (mCons (mTree (mCallKW D_over [1, 0] 2 (mCons (mTup (mCons (mC (.int 1)) (mCons (mC (.int 1)) mNil))) (mCons (mIxV 2 (mC (.int 0))) mNil)))) (mCons (mTup (mCons (mC (.int 0)) (mCons (mC (.int 1)) mNil))) mNil)))) (mCons (mTree (m2 fIx (mIxV 2 (mC (.int 0))) (mC (.int 0)))) (mCons (mTree (m2 fIx (mIxV 2 (mC (.int 0))) (mC (.int 1)))) mNil))))))) (mRet (mVal (mC (.bool false)))) mNx)
def st17 : Ms := (mIfS (mOrT (mTst (mTree (m2 fIsN (mTree (mCallKW D_less [1, 0] 2 (mCons (mTup (mCons (mC (.int 1)) (mCons (mC (.int 2)) mNil))) (mCons (mTup (mCons (mC (.int 1)) (mCons (mC (.int 3)) mNil))) mNil)))) (mC (.bool true))))) (mTst (mTree (m2 fIsN (mTree (mCallKW D_less [1, 0] 2 (mCons (mTup (mCons (mC (.int 1)) (mCons (mC (.int 3)) mNil))) (mCons (mTup (mCons (mC (.int 1)) (mCons (mC (.int 2)) mNil))) mNil)))) (mC (.bool false)))))) (mRet (mVal (mC (.bool false)))) mNx)
def st18 : Ms := (mIfS (mNotT (mTst (mTree (mCallP D__law_chain 1 (mCons (mIxV 2 (mC (.int 0))) mNil))))) (mRet (mVal (mC (.bool false)))) mNx)
def st19 : Ms := (mSet 8 (m2 fIx (mTree (mLst (mCons (mC (.int 3)) (mCons (mC (.int 0)) (mCons (mC (.int 1)) (mCons (mC (.int 2)) (mCons (mC (.int 4)) (mCons (mC (.int 5)) (mCons (mC (.int 9)) (mCons (mC (.int 16)) mNil)))))))))) (mTree (mCallP D__law_take 1 (mCons (mC (.int 8)) mNil)))))
def st20 : Ms := (mSet 9 (mCallP D__law_joined 1 (mCons (mVar 8) mNil)))
def st21 : Ms := (mSet 10 (mCallP D__law_joined 1 (mCons (mVar 8) mNil)))
def st22 : Ms := (mIfS (mTst (mTree (m2 fEq (mTree (mCallP D__law_take 1 (mCons (mC (.int 6)) mNil))) (mC (.int 5))))) (mSet 10 (mVal (mVar 9))) mNx)
def st23 : Ms := (mIfS (mOrT (mNotT (mTst (mTree (mCallP D__law_blocks 1 (mCons (mVar 8) (mCons (mVar 9) mNil)))))) (mNotT (mTst (mTree (mCallP D__law_blocks 1 (mCons (mVar 8) (mCons (mVar 10) mNil))))))) (mRet (mVal (mC (.bool false)))) mNx)
def st24 : Ms := (mIfS (mNotT (mTst (mTree (mCall D__law_both (mCons (mVar 8) (mCons (mVar 9) (mCons (mVar 10) mNil))))))) (mRet (mVal (mC (.bool false)))) mNx)
def st25 : Ms := (mRet (mVal (mAndV (mTree (mCall D__law_listed (mCons (mTree (mCallP D__law_take 1 (mCons (mC (.int 6)) mNil))) mNil))) (mTree (mCall D__law_listed (mCons (mC (.int 2)) mNil))))))
theorem M_law_eq : M_law = (mSeq st1 (mSeq st2 (mSeq st3 (mSeq st4 (mSeq st5 (mSeq st6 (mSeq st7 (mSeq st8 (mSeq st9 (mSeq st10 (mSeq st11 (mSeq st12 (mSeq st13 (mSeq st14 (mSeq st15 (mSeq st16 (mSeq st17 (mSeq st18 (mSeq st19 (mSeq st20 (mSeq st21 (mSeq st22 (mSeq st23 (mSeq st24 st25)))))))))))))))))))))))) := rfl
abbrev EL (S : Option RV) (p : List Int) (x2 x3 x4 x5 x6 x7 x8 x9 x10 x11 x12 : Option RV) : En := [S, some (.own (pn p)), x2, x3, x4, x5, x6, x7, x8, x9, x10, x11, x12]
/-- a share as the law holds it -/
def chP (r : T) : Prop := ∃ a b, r = Q a b ∧ Ch a b
theorem shP.ch {r : T} (h : shP r) : chP r := by
  obtain ⟨a, b, rfl, h1, h2, h3⟩ := h
  exact ⟨a, b, rfl, h1, by omega, h3⟩
theorem compY {g : Mg} {te : Mt} {vs : List Nat} {I : En → Prop} {P : T → Prop} : ∀ (ts acc : List T) (e : En), I e →
    (∀ t ∈ ts, ∀ e, I e → ∃ e1 y e3, g t e = some e1 ∧ te e1 = .ok y e3 ∧ P y ∧ I (wipeE e3 vs)) →
    (∀ x ∈ acc, P x) → acc.length + ts.length ≤ 100000 → ∃ ys e', mCompL g mYes te vs ts acc e = .ok ys e' ∧ I e' ∧ (∀ y ∈ ys, P y) ∧ ys.length = acc.length + ts.length
  | [], acc, e, hI, _, ha, _ => ⟨acc, e, rfl, hI, ha, by simp⟩
  | t :: ts, acc, e, hI, h, ha, hl => by
    rw [List.length_cons] at hl
    obtain ⟨e1, y, e3, h1, h5, hP, h6⟩ := h t (by simp) e hI
    obtain ⟨ys, e', r1, r2, r3, r4⟩ := compY ts (acc ++ [y]) _ h6 (fun u hu => h u (by simp [hu])) (fun x hx => by
        rcases List.mem_append.mp hx with hx | hx
        · exact ha x hx
        · rw [List.mem_singleton] at hx
          rw [hx]; exact hP) (by rw [List.length_append]; simp; omega)
    refine ⟨ys, e', ?_, r2, r3, by rw [List.length_append] at r4; simp at r4 ⊢; omega⟩
    unfold mCompL
    rw [h1]
    dsimp only [mYes, yes]
    rw [h5]
    dsimp only
    rw [if_pos (by omega)]
    exact r1
section
variable {S x2 x3 x4 x5 x6 x7 x8 x9 x10 x11 x12 : Option RV} {p : List Int}
theorem st2_ok : ∃ p' ys, st2 (EL S p x2 x3 x4 x5 x6 x7 x8 x9 x10 x11 none) = .ok .nx (EL S p' (some (.own ys)) x3 x4 x5 x6 x7 x8 x9 x10 x11 none) ∧ ys.length = 3 ∧ ∀ y ∈ ys, shP y := by
  obtain ⟨ys, e', h1, ⟨p', rfl⟩, h3, h4⟩ := compY (g := gN 12) (te := mTree (mCallP D__law_share 1 mNil)) (vs := [12]) (I := fun e => ∃ p', e = EL S p' x2 x3 x4 x5 x6 x7 x8 x9 x10 x11 none) (P := shP) (rngT 0 3) [] (EL S p x2 x3 x4 x5 x6 x7 x8 x9 x10 x11 none) ⟨p, rfl⟩ (fun t ht e he => by
    obtain ⟨p0, rfl⟩ := he
    obtain ⟨r, p1, hc, hr⟩ := callP share_ok (ts := []) (i := 1) (ms := mNil) (e := EL S p0 x2 x3 x4 x5 x6 x7 x8 x9 x10 x11 (some (.val t))) (ns := p0) rfl rfl
    exact ⟨EL S p0 x2 x3 x4 x5 x6 x7 x8 x9 x10 x11 (some (.val t)), r, _, rfl, tree_ok hc, hr, p1, rfl⟩) (by simp) (by decide)
  refine ⟨p', ys, ?_, by rw [h4]; rfl, h3⟩
  have c : mComp (mRng (mCons (mC (.int 3)) mNil)) (gN 12) mYes (mTree (mCallP D__law_share 1 mNil)) [12] (EL S p x2 x3 x4 x5 x6 x7 x8 x9 x10 x11 none) = .ok (.own ys) (EL S p' x2 x3 x4 x5 x6 x7 x8 x9 x10 x11 none) := by
    have e1 : mRng (mCons (mC (.int 3)) mNil) (EL S p x2 x3 x4 x5 x6 x7 x8 x9 x10 x11 none) = .ok (rngT 0 3) (EL S p x2 x3 x4 x5 x6 x7 x8 x9 x10 x11 none) := rfl
    unfold mComp
    rw [e1]
    show (match mCompL _ _ _ _ (rngT 0 3) [] (EL S p x2 x3 x4 x5 x6 x7 x8 x9 x10 x11 none) with | .ok acc e2 => _ | _ => _) = _
    rw [h1]
    rfl
  exact set_eq c
theorem atI_nat {ts : List T} {q : Nat} (h : q < ts.length) : ∃ t ∈ ts, atI ts (q : Int) = some t ∧ ts[q]? = some t := by
  refine ⟨ts[q], List.getElem_mem h, ?_, List.getElem?_eq_getElem h⟩
  unfold atI ixN
  rw [if_pos (by omega), if_pos (by omega)]
  simp [h]
theorem st3_ok {ys : List T} (h : ys.length = 3) (hy : ∀ y ∈ ys, shP y) : ∃ p' r, st3 (EL S p (some (.own ys)) x3 x4 x5 x6 x7 x8 x9 x10 x11 x12) = .ok .nx (EL S p' (some (.own ys)) (some (.val r)) x4 x5 x6 x7 x8 x9 x10 x11 x12) ∧ shP r := by
  obtain ⟨j, p1, hc, j0, j1⟩ := take_at (b := 3) (by decide) (i := 1) (e := EL S p (some (.own ys)) x3 x4 x5 x6 x7 x8 x9 x10 x11 x12) rfl
  obtain ⟨q, rfl⟩ : ∃ q : Nat, j = (q : Int) := ⟨j.toNat, by omega⟩
  obtain ⟨t, ht, ha, _⟩ := atI_nat (ts := ys) (q := q) (by omega)
  exact ⟨p1, t, set_eq (val_ok (ix_at rfl (tree_ok hc) rfl ha)), hy t ht⟩
theorem takeEq {b k : Int} (hb : 0 < b) {e : En} (he : e[1]? = some (some (.own (pn p)))) : ∃ c p', mTst (mTree (m2 fEq (mTree (mCallP D__law_take 1 (mCons (mC (.int b)) mNil))) (mC (.int k)))) e = .ok c (e.set 1 (some (.own (pn p')))) := by
  obtain ⟨j, p1, hc, j0, j1⟩ := take_at hb he
  refine ⟨decide (j = k), p1, tst_eq (tree_ok (r := .val (.bool (decide (j = k)))) ?_)⟩
  have z := tree_ok hc
  simp only [m2, Res.bind]
  rw [z]
  rfl
/-- near the shares: perhaps one more -/
def neP (r : T) : Prop := ∃ a b, r = Q a b ∧ Low a b ∧ a.natAbs ≤ 1500000000000 ∧ b.natAbs ≤ 1000000000000
theorem st4_ok {r : T} (h : shP r) : ∃ p' r', st4 (EL S p x2 (some (.val r)) x4 x5 x6 x7 x8 x9 x10 x11 x12) = .ok .nx (EL S p' x2 (some (.val r')) x4 x5 x6 x7 x8 x9 x10 x11 x12) ∧ neP r' := by
  obtain ⟨a, b, rfl, h1, h2, h3⟩ := h
  obtain ⟨c, p1, hc⟩ := takeEq (p := p) (b := 3) (k := 2) (by decide) (e := EL S p x2 (some (.val (Q a b))) x4 x5 x6 x7 x8 x9 x10 x11 x12) rfl
  cases c with
  | false => exact ⟨p1, Q a b, if_nx hc, a, b, rfl, h1, by omega, h3⟩
  | true =>
    refine ⟨p1, Q (a + b) b, (if_yes hc).trans (set_eq (val_ok (tup_ok (ts := [.int (a + b), .int b]) (cons_ok (adds_ok rfl rfl) (cons_ok rfl rfl)) (by simp)))), a + b, b, rfl, ⟨h1.1, ?_⟩, by omega, h3⟩
    have e : Int.gcd (a + b) b = Int.gcd a b := by simp
    exact e.trans h1.2
theorem st5_ok {r : T} {ys : List T} (h : neP r) (hl : ys.length = 3) (hy : ∀ y ∈ ys, shP y) : ∃ zs, st5 (EL S p (some (.own ys)) (some (.val r)) x4 x5 x6 x7 x8 x9 x10 x11 x12) = .ok .nx (EL S p (some (.own zs)) (some (.val r)) x4 x5 x6 x7 x8 x9 x10 x11 x12) ∧ 3 ≤ zs.length ∧ zs.length ≤ 4 ∧ ∀ z ∈ zs, chP z := by
  obtain ⟨a, b, rfl, h1, h2, h3⟩ := h
  have c : mTst (mTree (m2 fLe (mTree (mN fAbs (mCons (mIxV 3 (mC (.int 0))) mNil))) (mTree (m2 fPow (mC (.int 10)) (mC (.int 12)))))) (EL S p (some (.own ys)) (some (.val (Q a b))) x4 x5 x6 x7 x8 x9 x10 x11 x12) = .ok (decide ((a.natAbs : Int) ≤ 1000000000000)) (EL S p (some (.own ys)) (some (.val (Q a b))) x4 x5 x6 x7 x8 x9 x10 x11 x12) := by
    have z : mTree (mN fAbs (mCons (mIxV 3 (mC (.int 0))) mNil)) (EL S p (some (.own ys)) (some (.val (Q a b))) x4 x5 x6 x7 x8 x9 x10 x11 x12) = .ok (.int (a.natAbs : Nat)) (EL S p (some (.own ys)) (some (.val (Q a b))) x4 x5 x6 x7 x8 x9 x10 x11 x12) := abs_ok rfl
    refine tst_eq (tree_ok (r := .val (.bool (decide ((a.natAbs : Int) ≤ 1000000000000)))) ?_)
    simp only [m2, z, Res.bind]
    rfl
  by_cases ha : (a.natAbs : Int) ≤ 1000000000000
  · rw [decide_eq_true ha] at c
    refine ⟨ys ++ [Q a b], (if_yes c).trans (app_ok (e1 := EL S p (some (.own ys)) (some (.val (Q a b))) x4 x5 x6 x7 x8 x9 x10 x11 x12) rfl rfl rfl (by omega)), by simp; omega, by simp; omega, fun z hz => ?_⟩
    rcases List.mem_append.mp hz with hz | hz
    · exact (hy z hz).ch
    · rw [List.mem_singleton] at hz
      rw [hz]
      exact ⟨a, b, rfl, h1, by omega, h3⟩
  · rw [decide_eq_false ha] at c
    exact ⟨ys, if_nx c, by omega, by omega, fun z hz => (hy z hz).ch⟩
theorem pick_at {ml : Ml} {ts : List T} {b : Int} {e : En} (hb : 0 < b) (he : e[1]? = some (some (.own (pn p)))) (hl : mTree (mLst ml) e = .ok (.list ts) e) (hn : (ts.length : Int) = b) : ∃ t p', m2 fIx (mTree (mLst ml)) (mTree (mCallP D__law_take 1 (mCons (mC (.int b)) mNil))) e = .ok (.val t) (e.set 1 (some (.own (pn p')))) ∧ t ∈ ts := by
  obtain ⟨j, p1, hc, j0, j1⟩ := take_at hb he
  obtain ⟨q, rfl⟩ : ∃ q : Nat, j = (q : Int) := ⟨j.toNat, by omega⟩
  obtain ⟨t, ht, ha, _⟩ := atI_nat (ts := ts) (q := q) (by omega)
  refine ⟨t, p1, ?_, ht⟩
  have z := tree_ok hc
  simp only [m2, hl, Res.bind]
  rw [z]
  simp only [RV.tree, fIx, ha, Option.map, give]
theorem st6_ok : ∃ p' i, st6 (EL S p x2 x3 x4 x5 x6 x7 x8 x9 x10 x11 x12) = .ok .nx (EL S p' x2 x3 (some (.val (.int i))) x5 x6 x7 x8 x9 x10 x11 x12) ∧ i.natAbs ≤ 35 := by
  obtain ⟨t, p1, hc, ht⟩ := pick_at (p := p) (b := 5) (ml := (mCons (mC (.int 1)) (mCons (mTree (m1 fNeg (mC (.int 1)))) (mCons (mC (.int 6)) (mCons (mTree (m1 fNeg (mC (.int 35)))) (mCons (mC (.int 0)) mNil)))))) (ts := [.int 1, .int (-1), .int 6, .int (-35), .int 0]) (e := EL S p x2 x3 x4 x5 x6 x7 x8 x9 x10 x11 x12) (by decide) rfl rfl rfl
  simp only [List.mem_cons, List.not_mem_nil, or_false] at ht
  rcases ht with rfl | rfl | rfl | rfl | rfl
  · exact ⟨p1, _, set_eq hc, by decide⟩
  · exact ⟨p1, _, set_eq hc, by decide⟩
  · exact ⟨p1, _, set_eq hc, by decide⟩
  · exact ⟨p1, _, set_eq hc, by decide⟩
  · exact ⟨p1, _, set_eq hc, by decide⟩
theorem mulI {m k : Mt} {i j : Int} {e e1 e2 : En} (h : m e = .ok (.int i) e1) (h2 : k e1 = .ok (.int j) e2) (hi : i.natAbs ≤ 1000) (hj : j.natAbs ≤ 1000) : m2 fMul m k e = .ok (.val (.int (i * j))) e2 ∧ (i * j).natAbs ≤ 1000000 := by
  refine ⟨?_, ?_⟩
  · simp only [m2, h, h2, Res.bind, fMul, sm (n := i) (Nat.lt_of_le_of_lt hi (by decide)), sm (n := j) (Nat.lt_of_le_of_lt hj (by decide))]
    rfl
  · rw [Int.natAbs_mul]
    exact Nat.mul_le_mul hi hj
theorem st7_ok {i : Int} (hi : i.natAbs ≤ 35) : ∃ p' h, st7 (EL S p x2 x3 (some (.val (.int i))) x5 x6 x7 x8 x9 x10 x11 x12) = .ok .nx (EL S p' x2 x3 (some (.val (.int i))) (some (.val (.int h))) x6 x7 x8 x9 x10 x11 x12) ∧ h.natAbs ≤ 1000000 := by
  obtain ⟨j, p1, hc, j0, j1⟩ := take_at (b := 1000) (by decide) (i := 1) (e := EL S p x2 x3 (some (.val (.int i))) x5 x6 x7 x8 x9 x10 x11 x12) rfl
  obtain ⟨g1, g2⟩ := mulI (k := mVar 4) (j := i) (tree_ok hc) rfl (show j.natAbs ≤ 1000 by omega) (by omega)
  exact ⟨p1, j * i, set_eq g1, g2⟩
theorem st8_ok : ∃ p' l, st8 (EL S p x2 x3 x4 x5 x6 x7 x8 x9 x10 x11 x12) = .ok .nx (EL S p' x2 x3 x4 x5 (some (.val (.int l))) x7 x8 x9 x10 x11 x12) ∧ l.natAbs ≤ 1000000 ∧ l ≠ 0 := by
  obtain ⟨j, p1, hc, j0, j1⟩ := take_at (b := 90) (by decide) (i := 1) (e := EL S p x2 x3 x4 x5 x6 x7 x8 x9 x10 x11 x12) rfl
  obtain ⟨t, p2, hc2, ht⟩ := pick_at (p := p1) (b := 4) (ml := (mCons (mC (.int 1)) (mCons (mTree (m1 fNeg (mC (.int 1)))) (mCons (mC (.int 6)) (mCons (mTree (m1 fNeg (mC (.int 35)))) mNil))))) (ts := [.int 1, .int (-1), .int 6, .int (-35)]) (e := EL S p1 x2 x3 x4 x5 x6 x7 x8 x9 x10 x11 x12) (by decide) rfl rfl rfl
  have go : ∀ i : Int, t = .int i → i ≠ 0 → i.natAbs ≤ 1000 → ∃ p' l, st8 (EL S p x2 x3 x4 x5 x6 x7 x8 x9 x10 x11 x12) = .ok .nx (EL S p' x2 x3 x4 x5 (some (.val (.int l))) x7 x8 x9 x10 x11 x12) ∧ l.natAbs ≤ 1000000 ∧ l ≠ 0 := fun i e h0 h1 => by
    subst e
    obtain ⟨g1, g2⟩ := mulI (tree_ok (add_ok (j := 1) (tree_ok hc))) (tree_ok hc2) (show (1 + j).natAbs ≤ 1000 by omega) h1
    exact ⟨p2, (1 + j) * i, set_eq g1, g2, Int.mul_ne_zero (by omega) h0⟩
  simp only [List.mem_cons, List.not_mem_nil, or_false] at ht
  rcases ht with e | e | e | e
  · exact go _ e (by decide) (by decide)
  · exact go _ e (by decide) (by decide)
  · exact go _ e (by decide) (by decide)
  · exact go _ e (by decide) (by decide)
theorem q_st {h l : Int} (hh : h.natAbs ≤ 1000000) (hl : l.natAbs ≤ 1000000) (h0 : l ≠ 0) : ∃ r, Is (D_quotient_of [.val (.int h), .val (.int l)]) r ∧ Is (D__law_stands [.val r, .val (.int h), .val (.int l)]) (.bool true) := by
  have b1 : h.natAbs < 2 ^ 200 := Nat.lt_of_le_of_lt hh (by decide)
  have b2 : l.natAbs < 2 ^ 200 := Nat.lt_of_le_of_lt hl (by decide)
  obtain ⟨x, y, h1, h2, h3, h4, h5⟩ := quotient_of_ok b1 b2 h0
  exact ⟨Q x y, h1, stands_ok h2 (by omega) (by omega) b1 b2 h3⟩
theorem st9_ok {h l : Int} (hh : h.natAbs ≤ 1000000) (hl : l.natAbs ≤ 1000000) (h0 : l ≠ 0) : st9 (EL S p x2 x3 x4 (some (.val (.int h))) (some (.val (.int l))) x7 x8 x9 x10 x11 x12) = .ok .nx (EL S p x2 x3 x4 (some (.val (.int h))) (some (.val (.int l))) x7 x8 x9 x10 x11 x12) := by
  obtain ⟨r, h1, h2⟩ := q_st hh hl h0
  exact if_nx (not_t (tst_eq (call3 (call2 rfl rfl h1) rfl rfl h2)))
theorem st10_ok {h l : Int} (hh : h.natAbs ≤ 1000000) (hl : l.natAbs ≤ 1000000) (h0 : l ≠ 0) : st10 (EL S p x2 x3 x4 (some (.val (.int h))) (some (.val (.int l))) x7 x8 x9 x10 x11 x12) = .ok .nx (EL S p x2 x3 x4 (some (.val (.int h))) (some (.val (.int l))) x7 x8 x9 x10 x11 x12) := by
  obtain ⟨r, h1, h2⟩ := q_st hh hl h0
  have q : mTree (mCallKW D_quotient_of [1, 0] 2 (mCons (mVar 6) (mCons (mVar 5) mNil))) (EL S p x2 x3 x4 (some (.val (.int h))) (some (.val (.int l))) x7 x8 x9 x10 x11 x12) = .ok r (EL S p x2 x3 x4 (some (.val (.int h))) (some (.val (.int l))) x7 x8 x9 x10 x11 x12) := callK2 rfl rfl h1
  exact if_nx (not_t (tst_eq (call3 q rfl rfl h2)))
theorem st11_ok : ∃ p', st11 (EL S p x2 x3 x4 x5 x6 x7 x8 x9 x10 x11 x12) = .ok .nx (EL S p' x2 x3 x4 x5 x6 x7 x8 x9 x10 x11 x12) := by
  obtain ⟨c, p1, hc⟩ := takeEq (p := p) (b := 4) (k := 3) (by decide) (e := EL S p x2 x3 x4 x5 x6 x7 x8 x9 x10 x11 x12) rfl
  cases c with
  | false => exact ⟨p1, if_nx (andT_f hc)⟩
  | true =>
    obtain ⟨e, hr⟩ := refusals_ok
    have q : mTree (mCall00 D__law_refusals) (EL S p1 x2 x3 x4 x5 x6 x7 x8 x9 x10 x11 x12) = .ok (.bool true) (EL S p1 x2 x3 x4 x5 x6 x7 x8 x9 x10 x11 x12) := by
      simp only [mTree, mCall00, mCall, mNil, Res.bind, List.map_nil, hr, RV.tree]
    exact ⟨p1, if_nx ((andT_t hc).trans (not_t (tst_eq q)))⟩
end
end G
end
section
set_option Elab.async false
set_option linter.all false
set_option autoImplicit false
set_option maxRecDepth 100000
set_option maxHeartbeats 1000000
set_option exponentiation.threshold 10000
namespace G
open PySem PySem.Spec PyProof.Rows L2 TL
section
variable {S x3 x4 x5 x6 x8 x9 x10 x12 : Option RV} {p : List Int}
def bodyZ : Ms := (mIfS (mNotT (mTst (mTree (mCall D__law_pair (mCons (mVar 7) (mCons (mVar 11) mNil)))))) (mRet (mVal (mC (.bool false)))) mNx)
theorem loopZ {r : T} (hr : chP r) {x2 : Option RV} : ∀ (us : List T) (x11 : Option RV), (∀ u ∈ us, chP u) → ∃ y11, mLoop (gN 11) bodyZ us (EL S p x2 x3 x4 x5 x6 (some (.val r)) x8 x9 x10 x11 x12) = .ok .nx (EL S p x2 x3 x4 x5 x6 (some (.val r)) x8 x9 x10 y11 x12)
  | [], x11, _ => ⟨x11, rfl⟩
  | u :: us, x11, h => by
    obtain ⟨y11, ih⟩ := loopZ hr (x2 := x2) us (some (.val u)) (fun v hv => h v (by simp [hv]))
    refine ⟨y11, ?_⟩
    obtain ⟨a, b, rfl, ha⟩ := hr
    obtain ⟨c, d, rfl, hc⟩ := h u (by simp)
    have st : bodyZ (EL S p x2 x3 x4 x5 x6 (some (.val (Q a b))) x8 x9 x10 (some (.val (Q c d))) x12) = .ok .nx (EL S p x2 x3 x4 x5 x6 (some (.val (Q a b))) x8 x9 x10 (some (.val (Q c d))) x12) := if_nx (not_t (tst_eq (call2 rfl rfl (pair_ok ha.qt hc.qt))))
    unfold mLoop
    simp only [gN, List.set]
    rw [st]
    exact ih
def bodyY : Ms := (mFor (mSeq1 (mVar 2)) (gN 11) bodyZ)
theorem loopY {zs : List T} (hz : ∀ z ∈ zs, chP z) : ∀ (us : List T) (x7 x11 : Option RV), (∀ u ∈ us, chP u) → ∃ y7 y11, mLoop (gN 7) bodyY us (EL S p (some (.val (.list zs))) x3 x4 x5 x6 x7 x8 x9 x10 x11 x12) = .ok .nx (EL S p (some (.val (.list zs))) x3 x4 x5 x6 y7 x8 x9 x10 y11 x12)
  | [], x7, x11, _ => ⟨x7, x11, rfl⟩
  | u :: us, x7, x11, h => by
    obtain ⟨z11, hl⟩ := loopZ (S := S) (p := p) (x3 := x3) (x4 := x4) (x5 := x5) (x6 := x6) (x8 := x8) (x9 := x9) (x10 := x10) (x12 := x12) (h u (by simp)) (x2 := some (.val (.list zs))) zs x11 hz
    obtain ⟨y7, y11, ih⟩ := loopY hz us (some (.val u)) z11 (fun v hv => h v (by simp [hv]))
    refine ⟨y7, y11, ?_⟩
    have st : bodyY (EL S p (some (.val (.list zs))) x3 x4 x5 x6 (some (.val u)) x8 x9 x10 x11 x12) = .ok .nx (EL S p (some (.val (.list zs))) x3 x4 x5 x6 (some (.val u)) x8 x9 x10 z11 x12) := for_ok rfl hl
    unfold mLoop
    simp only [gN, List.set]
    rw [st]
    exact ih
theorem st12_ok {zs : List T} (hz : ∀ z ∈ zs, chP z) {x7 x11 : Option RV} : ∃ y7 y11, st12 (EL S p (some (.own zs)) x3 x4 x5 x6 x7 x8 x9 x10 x11 x12) = .ok .nx (EL S p (some (.val (.list zs))) x3 x4 x5 x6 y7 x8 x9 x10 y11 x12) := by
  obtain ⟨y7, y11, h⟩ := loopY (S := S) (p := p) (x3 := x3) (x4 := x4) (x5 := x5) (x6 := x6) (x8 := x8) (x9 := x9) (x10 := x10) (x12 := x12) hz zs x7 x11 hz
  exact ⟨y7, y11, for_ok (e1 := EL S p (some (.val (.list zs))) x3 x4 x5 x6 x7 x8 x9 x10 x11 x12) rfl h⟩
end
section
variable {S x3 x4 x5 x6 x7 x8 x9 x10 x11 x12 : Option RV} {p : List Int} {zs : List T} {a b c d : Int}
abbrev EZ (S : Option RV) (p : List Int) (zs : List T) (x3 x4 x5 x6 x7 x8 x9 x10 x11 x12 : Option RV) : En := EL S p (some (.val (.list zs))) x3 x4 x5 x6 x7 x8 x9 x10 x11 x12
theorem ix0 (h0 : atI zs 0 = some (Q a b)) : mIxV 2 (mC (.int 0)) (EZ S p zs x3 x4 x5 x6 x7 x8 x9 x10 x11 x12) = .ok (Q a b) (EZ S p zs x3 x4 x5 x6 x7 x8 x9 x10 x11 x12) := ix_at rfl rfl rfl h0
theorem ix1 (h1 : atI zs 1 = some (Q c d)) : mIxV 2 (mC (.int 1)) (EZ S p zs x3 x4 x5 x6 x7 x8 x9 x10 x11 x12) = .ok (Q c d) (EZ S p zs x3 x4 x5 x6 x7 x8 x9 x10 x11 x12) := ix_at rfl rfl rfl h1
theorem st13_ok (h0 : atI zs 0 = some (Q a b)) (h1 : atI zs 1 = some (Q c d)) (ha : Ch a b) (hc : Ch c d) : st13 (EZ S p zs x3 x4 x5 x6 x7 x8 x9 x10 x11 x12) = .ok .nx (EZ S p zs x3 x4 (some (.val (.int (c * b - a * d)))) (some (.val (.int (d * b)))) x7 x8 x9 x10 x11 x12) :=
  asg_ok (call3 rfl (ix1 h1) (ix0 h0) (number_minus hc.qt ha.qt)) rfl
theorem st14_ok (h0 : atI zs 0 = some (Q a b)) (h1 : atI zs 1 = some (Q c d)) (ha : Ch a b) (hc : Ch c d) : st14 (EZ S p zs x3 x4 (some (.val (.int (c * b - a * d)))) (some (.val (.int (d * b)))) x7 x8 x9 x10 x11 x12) = .ok .nx (EZ S p zs x3 x4 (some (.val (.int (c * b - a * d)))) (some (.val (.int (d * b)))) x7 x8 x9 x10 x11 x12) := by
  obtain ⟨x, y, g1, g2, g3, g4, g5⟩ := minus_ok hc.qt ha.qt
  have b1 : (c * b - a * d).natAbs < 2 ^ 200 := b161 (subB (mulB hc.qt.sa ha.qt.sb) (mulB ha.qt.sa hc.qt.sb))
  have b2 : (d * b).natAbs < 2 ^ 200 := bdB hc.qt ha.qt
  have q : mTree (mCallKW D_minus [1, 0] 2 (mCons (mIxV 2 (mC (.int 0))) (mCons (mIxV 2 (mC (.int 1))) mNil))) (EZ S p zs x3 x4 (some (.val (.int (c * b - a * d)))) (some (.val (.int (d * b)))) x7 x8 x9 x10 x11 x12) = .ok (Q x y) (EZ S p zs x3 x4 (some (.val (.int (c * b - a * d)))) (some (.val (.int (d * b)))) x7 x8 x9 x10 x11 x12) := callK2 (ix0 h0) (ix1 h1) g1
  exact if_nx (not_t (tst_eq (call3 q rfl rfl (stands_ok g2 (Nat.lt_of_le_of_lt g4 b1) (Nat.lt_of_le_of_lt g5 b2) b1 b2 g3))))
theorem fIx0 {m : Mt} {e e1 : En} (h : m e = .ok (Q a b) e1) : mTree (m2 fIx m (mC (.int 0))) e = .ok (.int a) e1 := by
  refine tree_ok (r := .val (.int a)) ?_
  simp only [m2, h, mC, Res.bind]
  rfl
theorem fIx1 {m : Mt} {e e1 : En} (h : m e = .ok (Q a b) e1) : mTree (m2 fIx m (mC (.int 1))) e = .ok (.int b) e1 := by
  refine tree_ok (r := .val (.int b)) ?_
  simp only [m2, h, mC, Res.bind]
  rfl
theorem q01 : Qt 0 1 := ⟨⟨by decide, by decide⟩, by decide, by decide⟩
theorem q11 : Qt 1 1 := ⟨⟨by decide, by decide⟩, by decide, by decide⟩
theorem twice {x y x' y' : Int} (hy : y ≠ 0) (h1 : x * b = a * y) (h2 : x' * y = x * y') : x' * b = a * y' := by
  refine Int.eq_of_mul_eq_mul_right hy ?_
  rw [Int.mul_right_comm, h2, Int.mul_right_comm, h1, Int.mul_right_comm]
theorem st15_ok (h0 : atI zs 0 = some (Q a b)) (ha : Ch a b) : st15 (EZ S p zs x3 x4 x5 x6 x7 x8 x9 x10 x11 x12) = .ok .nx (EZ S p zs x3 x4 x5 x6 x7 x8 x9 x10 x11 x12) := by
  have qa := ha.qt
  obtain ⟨x, y, g1, g2, g3, g4, g5⟩ := times_ok q11 qa
  rw [Int.one_mul, Int.one_mul] at g3
  rw [Int.one_mul] at g4 g5
  obtain ⟨x', y', k1, k2, k3, k4, k5⟩ := minus_ok (⟨g2, Nat.lt_of_le_of_lt g4 qa.sa, Nat.lt_of_le_of_lt g5 qa.sb⟩ : Qt x y) q01
  rw [Int.mul_one, Int.mul_one, Int.zero_mul, Int.sub_zero] at k3
  rw [Int.mul_one, Int.zero_mul, Int.sub_zero] at k4
  rw [Int.mul_one] at k5
  have q1 : mTree (mCallKW D_times [1, 0] 2 (mCons (mIxV 2 (mC (.int 0))) (mCons (mTup (mCons (mC (.int 1)) (mCons (mC (.int 1)) mNil))) mNil))) (EZ S p zs x3 x4 x5 x6 x7 x8 x9 x10 x11 x12) = .ok (Q x y) (EZ S p zs x3 x4 x5 x6 x7 x8 x9 x10 x11 x12) := callK2 (ix0 h0) rfl g1
  have q2 : mTree (mCallKW D_minus [1, 0] 2 (mCons (mTup (mCons (mC (.int 0)) (mCons (mC (.int 1)) mNil))) (mCons (mTree (mCallKW D_times [1, 0] 2 (mCons (mIxV 2 (mC (.int 0))) (mCons (mTup (mCons (mC (.int 1)) (mCons (mC (.int 1)) mNil))) mNil)))) mNil))) (EZ S p zs x3 x4 x5 x6 x7 x8 x9 x10 x11 x12) = .ok (Q x' y') (EZ S p zs x3 x4 x5 x6 x7 x8 x9 x10 x11 x12) := callK2 (t := Q 0 1) rfl q1 k1
  have sx : x'.natAbs < 2 ^ 200 := Nat.lt_of_le_of_lt (Nat.le_trans k4 g4) (b80 qa.sa)
  have sy : y'.natAbs < 2 ^ 200 := Nat.lt_of_le_of_lt (Nat.le_trans k5 g5) (b80 qa.sb)
  exact if_nx (not_t (tst_eq (call3 q2 (fIx0 (ix0 h0)) (fIx1 (ix0 h0)) (stands_ok k2 sx sy (b80 qa.sa) (b80 qa.sb) (twice (by have := g2.1; omega) g3 k3)))))
theorem st16_ok (h0 : atI zs 0 = some (Q a b)) (ha : Ch a b) : st16 (EZ S p zs x3 x4 x5 x6 x7 x8 x9 x10 x11 x12) = .ok .nx (EZ S p zs x3 x4 x5 x6 x7 x8 x9 x10 x11 x12) := by
  have qa := ha.qt
  obtain ⟨x, y, g1, g2, g3, g4, g5⟩ := over_ok qa q11 (by decide)
  rw [Int.mul_one, Int.mul_one] at g3
  rw [Int.mul_one] at g4 g5
  obtain ⟨x', y', k1, k2, k3, k4, k5⟩ := plus_ok q01 (⟨g2, Nat.lt_of_le_of_lt g4 qa.sa, Nat.lt_of_le_of_lt g5 qa.sb⟩ : Qt x y)
  rw [Int.one_mul, Int.zero_mul, Int.zero_add, Int.mul_one] at k3
  rw [Int.zero_mul, Int.zero_add, Int.mul_one] at k4
  rw [Int.one_mul] at k5
  have q1 : mTree (mCallKW D_over [1, 0] 2 (mCons (mTup (mCons (mC (.int 1)) (mCons (mC (.int 1)) mNil))) (mCons (mIxV 2 (mC (.int 0))) mNil))) (EZ S p zs x3 x4 x5 x6 x7 x8 x9 x10 x11 x12) = .ok (Q x y) (EZ S p zs x3 x4 x5 x6 x7 x8 x9 x10 x11 x12) := callK2 (t := Q 1 1) rfl (ix0 h0) g1
  have q2 : mTree (mCallKW D_plus [1, 0] 2 (mCons (mTree (mCallKW D_over [1, 0] 2 (mCons (mTup (mCons (mC (.int 1)) (mCons (mC (.int 1)) mNil))) (mCons (mIxV 2 (mC (.int 0))) mNil)))) (mCons (mTup (mCons (mC (.int 0)) (mCons (mC (.int 1)) mNil))) mNil))) (EZ S p zs x3 x4 x5 x6 x7 x8 x9 x10 x11 x12) = .ok (Q x' y') (EZ S p zs x3 x4 x5 x6 x7 x8 x9 x10 x11 x12) := callK2 (s := Q 0 1) q1 rfl k1
  have sx : x'.natAbs < 2 ^ 200 := Nat.lt_of_le_of_lt (Nat.le_trans k4 g4) (b80 qa.sa)
  have sy : y'.natAbs < 2 ^ 200 := Nat.lt_of_le_of_lt (Nat.le_trans k5 g5) (b80 qa.sb)
  exact if_nx (not_t (tst_eq (call3 q2 (fIx0 (ix0 h0)) (fIx1 (ix0 h0)) (stands_ok k2 sx sy (b80 qa.sa) (b80 qa.sb) (twice (by have := g2.1; omega) g3 k3)))))
theorem q12 : Qt 1 2 := ⟨⟨by decide, by decide⟩, by decide, by decide⟩
theorem q13 : Qt 1 3 := ⟨⟨by decide, by decide⟩, by decide, by decide⟩
theorem isN_bb {m : Mt} {e e1 : En} {b : Bool} (h : m e = .ok (.bool b) e1) : mTst (mTree (m2 fIsN m (mC (.bool b)))) e = .ok false e1 := by
  have : isT (.bool b) (.bool b) = some true := by cases b <;> rfl
  refine tst_eq (tree_ok (r := .val (.bool false)) ?_)
  simp only [m2, h, mC, Res.bind, fIsN, this]
  rfl
theorem st17_ok : st17 (EZ S p zs x3 x4 x5 x6 x7 x8 x9 x10 x11 x12) = .ok .nx (EZ S p zs x3 x4 x5 x6 x7 x8 x9 x10 x11 x12) := by
  have a1 : mTree (mCallKW D_less [1, 0] 2 (mCons (mTup (mCons (mC (.int 1)) (mCons (mC (.int 2)) mNil))) (mCons (mTup (mCons (mC (.int 1)) (mCons (mC (.int 3)) mNil))) mNil))) (EZ S p zs x3 x4 x5 x6 x7 x8 x9 x10 x11 x12) = .ok (.bool true) (EZ S p zs x3 x4 x5 x6 x7 x8 x9 x10 x11 x12) := callK2 (t := Q 1 2) (s := Q 1 3) rfl rfl (less_ok q13 q12)
  have a2 : mTree (mCallKW D_less [1, 0] 2 (mCons (mTup (mCons (mC (.int 1)) (mCons (mC (.int 3)) mNil))) (mCons (mTup (mCons (mC (.int 1)) (mCons (mC (.int 2)) mNil))) mNil))) (EZ S p zs x3 x4 x5 x6 x7 x8 x9 x10 x11 x12) = .ok (.bool false) (EZ S p zs x3 x4 x5 x6 x7 x8 x9 x10 x11 x12) := callK2 (t := Q 1 3) (s := Q 1 2) rfl rfl (less_ok q12 q13)
  exact if_nx ((orT_f (isN_bb a1)).trans (isN_bb a2))
theorem st18_ok (h0 : atI zs 0 = some (Q a b)) (ha : Ch a b) : ∃ p', st18 (EZ S p zs x3 x4 x5 x6 x7 x8 x9 x10 x11 x12) = .ok .nx (EZ S p' zs x3 x4 x5 x6 x7 x8 x9 x10 x11 x12) := by
  obtain ⟨r, p', hc, rfl⟩ := callP (chain_ok ha) (ts := [Q a b]) (i := 1) (ms := mCons (mIxV 2 (mC (.int 0))) mNil) (e := EZ S p zs x3 x4 x5 x6 x7 x8 x9 x10 x11 x12) (ns := p) rfl (cons_ok (ix0 h0) rfl)
  exact ⟨p', if_nx (not_t (tst_eq (tree_ok hc)))⟩
end
end G
end
section
set_option Elab.async false
set_option linter.all false
set_option autoImplicit false
set_option maxRecDepth 100000
set_option maxHeartbeats 1000000
set_option exponentiation.threshold 10000
namespace G
open PySem PySem.Spec PyProof.Rows L2 TL
section
variable {S x2 x3 x4 x5 x6 x7 x8 x9 x10 x11 x12 : Option RV} {p : List Int}
theorem st19_ok : ∃ p' m, st19 (EL S p x2 x3 x4 x5 x6 x7 x8 x9 x10 x11 x12) = .ok .nx (EL S p' x2 x3 x4 x5 x6 x7 (some (.val (.int (m : Nat)))) x9 x10 x11 x12) ∧ m ≤ 100 := by
  obtain ⟨t, p1, hc, ht⟩ := pick_at (p := p) (b := 8) (ml := (mCons (mC (.int 3)) (mCons (mC (.int 0)) (mCons (mC (.int 1)) (mCons (mC (.int 2)) (mCons (mC (.int 4)) (mCons (mC (.int 5)) (mCons (mC (.int 9)) (mCons (mC (.int 16)) mNil))))))))) (ts := [.int 3, .int 0, .int 1, .int 2, .int 4, .int 5, .int 9, .int 16]) (e := EL S p x2 x3 x4 x5 x6 x7 x8 x9 x10 x11 x12) (by decide) rfl rfl rfl
  simp only [List.mem_cons, List.not_mem_nil, or_false] at ht
  rcases ht with rfl | rfl | rfl | rfl | rfl | rfl | rfl | rfl
  · exact ⟨p1, 3, set_eq hc, by decide⟩
  · exact ⟨p1, 0, set_eq hc, by decide⟩
  · exact ⟨p1, 1, set_eq hc, by decide⟩
  · exact ⟨p1, 2, set_eq hc, by decide⟩
  · exact ⟨p1, 4, set_eq hc, by decide⟩
  · exact ⟨p1, 5, set_eq hc, by decide⟩
  · exact ⟨p1, 9, set_eq hc, by decide⟩
  · exact ⟨p1, 16, set_eq hc, by decide⟩
variable {m : Nat}
theorem st20_ok (hm : m ≤ 100) : ∃ p' f, st20 (EL S p x2 x3 x4 x5 x6 x7 (some (.val (.int (m : Nat)))) x9 x10 x11 x12) = .ok .nx (EL S p' x2 x3 x4 x5 x6 x7 (some (.val (.int (m : Nat)))) (some (.val (.tuple (tn f)))) x10 x11 x12) ∧ f.length = m ∧ JO f := by
  obtain ⟨r, p', hc, f, rfl, h1, h2⟩ := callP (joined_ok hm) (ts := [.int (m : Nat)]) (i := 1) (ms := mCons (mVar 8) mNil) (e := EL S p x2 x3 x4 x5 x6 x7 (some (.val (.int (m : Nat)))) x9 x10 x11 x12) (ns := p) rfl rfl
  exact ⟨p', f, set_eq hc, h1, h2⟩
theorem st21_ok (hm : m ≤ 100) : ∃ p' f, st21 (EL S p x2 x3 x4 x5 x6 x7 (some (.val (.int (m : Nat)))) x9 x10 x11 x12) = .ok .nx (EL S p' x2 x3 x4 x5 x6 x7 (some (.val (.int (m : Nat)))) x9 (some (.val (.tuple (tn f)))) x11 x12) ∧ f.length = m ∧ JO f := by
  obtain ⟨r, p', hc, f, rfl, h1, h2⟩ := callP (joined_ok hm) (ts := [.int (m : Nat)]) (i := 1) (ms := mCons (mVar 8) mNil) (e := EL S p x2 x3 x4 x5 x6 x7 (some (.val (.int (m : Nat)))) x9 x10 x11 x12) (ns := p) rfl rfl
  exact ⟨p', f, set_eq hc, h1, h2⟩
theorem st22_ok {f s : List Nat} (hf : f.length = m ∧ JO f) (hs : s.length = m ∧ JO s) : ∃ p' g, st22 (EL S p x2 x3 x4 x5 x6 x7 x8 (some (.val (.tuple (tn f)))) (some (.val (.tuple (tn s)))) x11 x12) = .ok .nx (EL S p' x2 x3 x4 x5 x6 x7 x8 (some (.val (.tuple (tn f)))) (some (.val (.tuple (tn g)))) x11 x12) ∧ g.length = m ∧ JO g := by
  obtain ⟨c, p1, hc⟩ := takeEq (p := p) (b := 6) (k := 5) (by decide) (e := EL S p x2 x3 x4 x5 x6 x7 x8 (some (.val (.tuple (tn f)))) (some (.val (.tuple (tn s)))) x11 x12) rfl
  cases c with
  | false => exact ⟨p1, s, if_nx hc, hs⟩
  | true => exact ⟨p1, f, (if_yes hc).trans rfl, hf⟩
theorem st23_ok {f s : List Nat} (hm : m ≤ 100) (hf : f.length = m ∧ JO f) (hs : s.length = m ∧ JO s) : ∃ p', st23 (EL S p x2 x3 x4 x5 x6 x7 (some (.val (.int (m : Nat)))) (some (.val (.tuple (tn f)))) (some (.val (.tuple (tn s)))) x11 x12) = .ok .nx (EL S p' x2 x3 x4 x5 x6 x7 (some (.val (.int (m : Nat)))) (some (.val (.tuple (tn f)))) (some (.val (.tuple (tn s)))) x11 x12) := by
  obtain ⟨r, p1, hc, rfl⟩ := callP (blocks_law hf.2 hf.1 hm) (ts := [.int (m : Nat), .tuple (tn f)]) (i := 1) (ms := mCons (mVar 8) (mCons (mVar 9) mNil)) (e := EL S p x2 x3 x4 x5 x6 x7 (some (.val (.int (m : Nat)))) (some (.val (.tuple (tn f)))) (some (.val (.tuple (tn s)))) x11 x12) (ns := p) rfl rfl
  obtain ⟨r, p2, hc2, rfl⟩ := callP (blocks_law hs.2 hs.1 hm) (ts := [.int (m : Nat), .tuple (tn s)]) (i := 1) (ms := mCons (mVar 8) (mCons (mVar 10) mNil)) (e := EL S p1 x2 x3 x4 x5 x6 x7 (some (.val (.int (m : Nat)))) (some (.val (.tuple (tn f)))) (some (.val (.tuple (tn s)))) x11 x12) (ns := p1) rfl rfl
  exact ⟨p2, if_nx ((orT_f (not_t (tst_eq (tree_ok hc)))).trans (not_t (tst_eq (tree_ok hc2))))⟩
theorem st24_ok {f s : List Nat} (hm : m ≤ 100) (hf : f.length = m ∧ JO f) (hs : s.length = m ∧ JO s) : st24 (EL S p x2 x3 x4 x5 x6 x7 (some (.val (.int (m : Nat)))) (some (.val (.tuple (tn f)))) (some (.val (.tuple (tn s)))) x11 x12) = .ok .nx (EL S p x2 x3 x4 x5 x6 x7 (some (.val (.int (m : Nat)))) (some (.val (.tuple (tn f)))) (some (.val (.tuple (tn s)))) x11 x12) :=
  if_nx (not_t (tst_eq (call3 rfl rfl rfl (both_ok hf.2 hs.2 hf.1 hs.1 hm))))
theorem st25_ok : ∃ e, st25 (EL S p x2 x3 x4 x5 x6 x7 x8 x9 x10 x11 x12) = .ok (.rt (.val (.bool true))) e := by
  obtain ⟨j, p1, hc, j0, j1⟩ := take_at (b := 6) (by decide) (i := 1) (e := EL S p x2 x3 x4 x5 x6 x7 x8 x9 x10 x11 x12) rfl
  exact ⟨_, ret_eq (val_ok ((and_t (call1 (tree_ok hc) (listed_ok j0 j1))).trans (call1 (e := EL S p1 x2 x3 x4 x5 x6 x7 x8 x9 x10 x11 x12) rfl (listed_ok (by decide) (by decide)))))⟩
end
theorem maths_k01 (ns : List Int) (hn : ns.length ≤ 63) : ∃ e, D_law [.val (scrT ns)] = .ok (.val (.bool true)) e := by
  obtain ⟨p1, e0, hp⟩ := pool_ok ns hn
  have s1 : st1 (some (.val (scrT ns)) :: List.replicate 12 none) = .ok .nx (EL (some (.val (scrT ns))) p1 none none none none none none none none none none none) := by
    refine set_eq (e1 := some (.val (scrT ns)) :: List.replicate 12 none) (r := .own (pn p1)) ?_
    have q : mCons (mVar 0) mNil (some (.val (scrT ns)) :: List.replicate 12 none) = .ok [scrT ns] (some (.val (scrT ns)) :: List.replicate 12 none) := rfl
    simp only [mCall, q, Res.bind, List.map_cons, List.map_nil, hp]
  obtain ⟨p2, ys, s2, hl, hy⟩ := st2_ok (S := some (.val (scrT ns))) (p := p1) (x2 := none) (x3 := none) (x4 := none) (x5 := none) (x6 := none) (x7 := none) (x8 := none) (x9 := none) (x10 := none) (x11 := none)
  obtain ⟨p3, r3, s3, h3⟩ := st3_ok (S := some (.val (scrT ns))) (p := p2) (x3 := none) (x4 := none) (x5 := none) (x6 := none) (x7 := none) (x8 := none) (x9 := none) (x10 := none) (x11 := none) (x12 := none) hl hy
  obtain ⟨p4, r4, s4, h4⟩ := st4_ok (S := some (.val (scrT ns))) (p := p3) (x2 := some (.own ys)) (x4 := none) (x5 := none) (x6 := none) (x7 := none) (x8 := none) (x9 := none) (x10 := none) (x11 := none) (x12 := none) h3
  obtain ⟨zs, s5, hz3, hz4, hz⟩ := st5_ok (S := some (.val (scrT ns))) (p := p4) (x4 := none) (x5 := none) (x6 := none) (x7 := none) (x8 := none) (x9 := none) (x10 := none) (x11 := none) (x12 := none) h4 hl hy
  obtain ⟨p6, i6, s6, h6⟩ := st6_ok (S := some (.val (scrT ns))) (p := p4) (x2 := some (.own zs)) (x3 := some (.val r4)) (x4 := none) (x5 := none) (x6 := none) (x7 := none) (x8 := none) (x9 := none) (x10 := none) (x11 := none) (x12 := none)
  obtain ⟨p7, h, s7, h7⟩ := st7_ok (S := some (.val (scrT ns))) (p := p6) (x2 := some (.own zs)) (x3 := some (.val r4)) (x5 := none) (x6 := none) (x7 := none) (x8 := none) (x9 := none) (x10 := none) (x11 := none) (x12 := none) h6
  obtain ⟨p8, l, s8, h8, h80⟩ := st8_ok (S := some (.val (scrT ns))) (p := p7) (x2 := some (.own zs)) (x3 := some (.val r4)) (x4 := some (.val (.int i6))) (x5 := some (.val (.int h))) (x6 := none) (x7 := none) (x8 := none) (x9 := none) (x10 := none) (x11 := none) (x12 := none)
  have s9 := st9_ok (S := some (.val (scrT ns))) (p := p8) (x2 := some (.own zs)) (x3 := some (.val r4)) (x4 := some (.val (.int i6))) (x7 := none) (x8 := none) (x9 := none) (x10 := none) (x11 := none) (x12 := none) h7 h8 h80
  have s10 := st10_ok (S := some (.val (scrT ns))) (p := p8) (x2 := some (.own zs)) (x3 := some (.val r4)) (x4 := some (.val (.int i6))) (x7 := none) (x8 := none) (x9 := none) (x10 := none) (x11 := none) (x12 := none) h7 h8 h80
  obtain ⟨p11, s11⟩ := st11_ok (S := some (.val (scrT ns))) (p := p8) (x2 := some (.own zs)) (x3 := some (.val r4)) (x4 := some (.val (.int i6))) (x5 := some (.val (.int h))) (x6 := some (.val (.int l))) (x7 := none) (x8 := none) (x9 := none) (x10 := none) (x11 := none) (x12 := none)
  obtain ⟨y7, y11, s12⟩ := st12_ok (S := some (.val (scrT ns))) (p := p11) (x3 := some (.val r4)) (x4 := some (.val (.int i6))) (x5 := some (.val (.int h))) (x6 := some (.val (.int l))) (x7 := none) (x8 := none) (x9 := none) (x10 := none) (x11 := none) (x12 := none) hz
  obtain ⟨t0, m0, e0', _⟩ := atI_nat (ts := zs) (q := 0) (by omega)
  obtain ⟨t1, m1, e1', _⟩ := atI_nat (ts := zs) (q := 1) (by omega)
  obtain ⟨a, b, rfl, ha⟩ := hz t0 m0
  obtain ⟨c, d, rfl, hc⟩ := hz t1 m1
  have a0 : atI zs 0 = some (Q a b) := e0'
  have a1 : atI zs 1 = some (Q c d) := e1'
  have s13 := st13_ok (S := some (.val (scrT ns))) (p := p11) (x3 := some (.val r4)) (x4 := some (.val (.int i6))) (x5 := some (.val (.int h))) (x6 := some (.val (.int l))) (x7 := y7) (x8 := none) (x9 := none) (x10 := none) (x11 := y11) (x12 := none) a0 a1 ha hc
  have s14 := st14_ok (S := some (.val (scrT ns))) (p := p11) (x3 := some (.val r4)) (x4 := some (.val (.int i6))) (x7 := y7) (x8 := none) (x9 := none) (x10 := none) (x11 := y11) (x12 := none) a0 a1 ha hc
  have s15 := st15_ok (S := some (.val (scrT ns))) (p := p11) (x3 := some (.val r4)) (x4 := some (.val (.int i6))) (x5 := some (.val (.int (c * b - a * d)))) (x6 := some (.val (.int (d * b)))) (x7 := y7) (x8 := none) (x9 := none) (x10 := none) (x11 := y11) (x12 := none) a0 ha
  have s16 := st16_ok (S := some (.val (scrT ns))) (p := p11) (x3 := some (.val r4)) (x4 := some (.val (.int i6))) (x5 := some (.val (.int (c * b - a * d)))) (x6 := some (.val (.int (d * b)))) (x7 := y7) (x8 := none) (x9 := none) (x10 := none) (x11 := y11) (x12 := none) a0 ha
  have s17 := st17_ok (S := some (.val (scrT ns))) (p := p11) (zs := zs) (x3 := some (.val r4)) (x4 := some (.val (.int i6))) (x5 := some (.val (.int (c * b - a * d)))) (x6 := some (.val (.int (d * b)))) (x7 := y7) (x8 := none) (x9 := none) (x10 := none) (x11 := y11) (x12 := none)
  obtain ⟨p18, s18⟩ := st18_ok (S := some (.val (scrT ns))) (p := p11) (x3 := some (.val r4)) (x4 := some (.val (.int i6))) (x5 := some (.val (.int (c * b - a * d)))) (x6 := some (.val (.int (d * b)))) (x7 := y7) (x8 := none) (x9 := none) (x10 := none) (x11 := y11) (x12 := none) a0 ha
  obtain ⟨p19, m, s19, hm⟩ := st19_ok (S := some (.val (scrT ns))) (p := p18) (x2 := some (.val (.list zs))) (x3 := some (.val r4)) (x4 := some (.val (.int i6))) (x5 := some (.val (.int (c * b - a * d)))) (x6 := some (.val (.int (d * b)))) (x7 := y7) (x8 := none) (x9 := none) (x10 := none) (x11 := y11) (x12 := none)
  obtain ⟨p20, f, s20, hf⟩ := st20_ok (S := some (.val (scrT ns))) (p := p19) (x2 := some (.val (.list zs))) (x3 := some (.val r4)) (x4 := some (.val (.int i6))) (x5 := some (.val (.int (c * b - a * d)))) (x6 := some (.val (.int (d * b)))) (x7 := y7) (x9 := none) (x10 := none) (x11 := y11) (x12 := none) hm
  obtain ⟨p21, g, s21, hg⟩ := st21_ok (S := some (.val (scrT ns))) (p := p20) (x2 := some (.val (.list zs))) (x3 := some (.val r4)) (x4 := some (.val (.int i6))) (x5 := some (.val (.int (c * b - a * d)))) (x6 := some (.val (.int (d * b)))) (x7 := y7) (x9 := some (.val (.tuple (tn f)))) (x10 := none) (x11 := y11) (x12 := none) hm
  obtain ⟨p22, k, s22, hk⟩ := st22_ok (S := some (.val (scrT ns))) (p := p21) (x2 := some (.val (.list zs))) (x3 := some (.val r4)) (x4 := some (.val (.int i6))) (x5 := some (.val (.int (c * b - a * d)))) (x6 := some (.val (.int (d * b)))) (x7 := y7) (x8 := some (.val (.int (m : Nat)))) (x11 := y11) (x12 := none) hf hg
  obtain ⟨p23, s23⟩ := st23_ok (S := some (.val (scrT ns))) (p := p22) (x2 := some (.val (.list zs))) (x3 := some (.val r4)) (x4 := some (.val (.int i6))) (x5 := some (.val (.int (c * b - a * d)))) (x6 := some (.val (.int (d * b)))) (x7 := y7) (x11 := y11) (x12 := none) hm hf hk
  have s24 := st24_ok (S := some (.val (scrT ns))) (p := p23) (x2 := some (.val (.list zs))) (x3 := some (.val r4)) (x4 := some (.val (.int i6))) (x5 := some (.val (.int (c * b - a * d)))) (x6 := some (.val (.int (d * b)))) (x7 := y7) (x11 := y11) (x12 := none) hm hf hk
  obtain ⟨e25, s25⟩ := st25_ok (S := some (.val (scrT ns))) (p := p23) (x2 := some (.val (.list zs))) (x3 := some (.val r4)) (x4 := some (.val (.int i6))) (x5 := some (.val (.int (c * b - a * d)))) (x6 := some (.val (.int (d * b)))) (x7 := y7) (x8 := some (.val (.int (m : Nat)))) (x9 := some (.val (.tuple (tn f)))) (x10 := some (.val (.tuple (tn k)))) (x11 := y11) (x12 := none)
  have all : M_law (some (.val (scrT ns)) :: List.replicate 12 none) = .ok (.rt (.val (.bool true))) e25 := by
    rw [M_law_eq, seq_nx s1, seq_nx s2, seq_nx s3, seq_nx s4, seq_nx s5, seq_nx s6, seq_nx s7, seq_nx s8, seq_nx s9, seq_nx s10, seq_nx s11, seq_nx s12, seq_nx s13, seq_nx s14, seq_nx s15, seq_nx s16, seq_nx s17, seq_nx s18, seq_nx s19, seq_nx s20, seq_nx s21, seq_nx s22, seq_nx s23, seq_nx s24]
    exact s25
  exact run_body (n := 13) (np := 1) (keep := [0]) (m := M_law) (args := [.val (scrT ns)]) rfl all
end G
end
set_option Elab.async false
set_option linter.all false
set_option autoImplicit false
set_option maxRecDepth 100000
set_option maxHeartbeats 8000000
namespace G
open PySem PySem.Spec PyProof.Rows L2 TL
def lawT (ns : List Int) : T := .dict (ns.map fun n => (.int n, .none))
/-- what is left: the mathematics -/
def Maths : Prop := ∀ ns : List Int, ns.length ≤ 63 → ∃ e, D_law [.val (lawT ns)] = .ok (.val (.bool true)) e
def spL (K : PySem.W.Frag) : Sp := fun vs H Q _ => ∃ (a : Addr) (ns : List Int), vs = [.ref a] ∧ ns.length ≤ 63 ∧ SqL K H a (ns.map V.int) ∧ ∀ H', Q (.bl true) H'
theorem law_fin {P : Program} {w : World} {K : PySem.W.Frag} {mg : Str → Option Value} {base : Heap} {k : Nat} {f : Addr} {fd : FuncData} {ps : List Str} (M : Maths) (F : FnOk P w K mg base (L2N.CX P w) k f fd ps (spD K mg D_law)) :
    FnOk P w K mg base (L2N.CX P w) k f fd ps (spL K) := F.imp fun vs H Q E h => by
  obtain ⟨a, ns, rfl, hl, hS, q⟩ := h
  obtain ⟨e, he⟩ := M ns hl
  refine ⟨fun _ => none, H, [.val (lawT ns)], rfl, ⟨fun _ _ h => (nomatch h), Ex.refl H, fun i r h => ?_, by simp, fun i j v ts us h1 => ?_⟩, ?_⟩
  · match i, h with
    | 0, h =>
      cases h
      exact ⟨.ref a, rfl, .scr hS⟩
    | i + 1, h => simp at h
  · match i, h1 with
    | 0, h1 => cases h1
    | i + 1, h1 => simp at h1
  · rw [he]
    intro B' H' s g v hv
    cases hv.1
    exact q H'
abbrev fdOf (x : Str) (st : Stmt) (kV dc pm : Value) (an : Option Addr) (cd ct : Value) : FuncData := PySem.W.fnOf x x (defArgs st) (defBody st) (defScope st) .none kV dc pm an cd ct
abbrev fdOfI (x q : Str) (st : Stmt) (kV dc pm : Value) (an : Option Addr) (cd ct : Value) : FuncData := PySem.W.fnOf x q (defArgs st) (defBody st) (defScope st) .none kV dc pm an cd ct
def fd0 : FuncData := PySem.W.fnOf "" "" (defArgs (topS 0)) [] (defScope (topS 0)) .none .none .none .none none .none .none
theorem all_mk (M : Maths) {l : PySem.W.OpenLaw} {w : World} {K : PySem.W.Frag} {h : Heap} {mg : Str → Option Value} {fa : Addr} (X : K.In h) (G : h.Ns mainGlobals mg) (hfa : mg "law" = some (.ref fa))
    {f0 : Addr} {od0 an0 : Option Addr} {sl0 : Array (Option Value)} {oc0 kV0 dc0 pm0 cd0 ct0 : Value}
    {f1 : Addr} {od1 an1 : Option Addr} {sl1 : Array (Option Value)} {oc1 kV1 dc1 pm1 cd1 ct1 : Value}
    {f2 : Addr} {od2 an2 : Option Addr} {sl2 : Array (Option Value)} {oc2 kV2 dc2 pm2 cd2 ct2 : Value}
    {f3 : Addr} {od3 an3 : Option Addr} {sl3 : Array (Option Value)} {oc3 kV3 dc3 pm3 cd3 ct3 : Value}
    {f4 : Addr} {od4 an4 : Option Addr} {sl4 : Array (Option Value)} {oc4 kV4 dc4 pm4 cd4 ct4 : Value}
    {f5 : Addr} {od5 an5 : Option Addr} {sl5 : Array (Option Value)} {oc5 kV5 dc5 pm5 cd5 ct5 : Value}
    {f6 : Addr} {od6 an6 : Option Addr} {sl6 : Array (Option Value)} {oc6 kV6 dc6 pm6 cd6 ct6 : Value}
    {f7 : Addr} {od7 an7 : Option Addr} {sl7 : Array (Option Value)} {oc7 kV7 dc7 pm7 cd7 ct7 : Value}
    {f8 : Addr} {od8 an8 : Option Addr} {sl8 : Array (Option Value)} {oc8 kV8 dc8 pm8 cd8 ct8 : Value}
    {f9 : Addr} {od9 an9 : Option Addr} {sl9 : Array (Option Value)} {oc9 kV9 dc9 pm9 cd9 ct9 : Value}
    {f10 : Addr} {od10 an10 : Option Addr} {sl10 : Array (Option Value)} {oc10 kV10 dc10 pm10 cd10 ct10 : Value}
    {f11 : Addr} {od11 an11 : Option Addr} {sl11 : Array (Option Value)} {oc11 kV11 dc11 pm11 cd11 ct11 : Value}
    {f12 : Addr} {od12 an12 : Option Addr} {sl12 : Array (Option Value)} {oc12 kV12 dc12 pm12 cd12 ct12 : Value}
    {f13 : Addr} {od13 an13 : Option Addr} {sl13 : Array (Option Value)} {oc13 kV13 dc13 pm13 cd13 ct13 : Value}
    {f14 : Addr} {od14 an14 : Option Addr} {sl14 : Array (Option Value)} {oc14 kV14 dc14 pm14 cd14 ct14 : Value}
    {f15 : Addr} {od15 an15 : Option Addr} {sl15 : Array (Option Value)} {oc15 kV15 dc15 pm15 cd15 ct15 : Value}
    {f16 : Addr} {od16 an16 : Option Addr} {sl16 : Array (Option Value)} {oc16 kV16 dc16 pm16 cd16 ct16 : Value}
    {f17 : Addr} {od17 an17 : Option Addr} {sl17 : Array (Option Value)} {oc17 kV17 dc17 pm17 cd17 ct17 : Value}
    {f18 : Addr} {od18 an18 : Option Addr} {sl18 : Array (Option Value)} {oc18 kV18 dc18 pm18 cd18 ct18 : Value}
    {f19 : Addr} {od19 an19 : Option Addr} {sl19 : Array (Option Value)} {oc19 kV19 dc19 pm19 cd19 ct19 : Value}
    {f20 : Addr} {od20 an20 : Option Addr} {sl20 : Array (Option Value)} {oc20 kV20 dc20 pm20 cd20 ct20 : Value}
    {f21 : Addr} {od21 an21 : Option Addr} {sl21 : Array (Option Value)} {oc21 kV21 dc21 pm21 cd21 ct21 : Value}
    {f22 : Addr} {od22 an22 : Option Addr} {sl22 : Array (Option Value)} {oc22 kV22 dc22 pm22 cd22 ct22 : Value}
    {f23 : Addr} {od23 an23 : Option Addr} {sl23 : Array (Option Value)} {oc23 kV23 dc23 pm23 cd23 ct23 : Value}
    {f24 : Addr} {od24 an24 : Option Addr} {sl24 : Array (Option Value)} {oc24 kV24 dc24 pm24 cd24 ct24 : Value}
    {f25 : Addr} {od25 an25 : Option Addr} {sl25 : Array (Option Value)} {oc25 kV25 dc25 pm25 cd25 ct25 : Value}
    {f26 : Addr} {od26 an26 : Option Addr} {sl26 : Array (Option Value)} {oc26 kV26 dc26 pm26 cd26 ct26 : Value}
    {f27 : Addr} {od27 an27 : Option Addr} {sl27 : Array (Option Value)} {oc27 kV27 dc27 pm27 cd27 ct27 : Value}
    {f28 : Addr} {od28 an28 : Option Addr} {sl28 : Array (Option Value)} {oc28 kV28 dc28 pm28 cd28 ct28 : Value}
    {f29 : Addr} {od29 an29 : Option Addr} {sl29 : Array (Option Value)} {oc29 kV29 dc29 pm29 cd29 ct29 : Value}
    {f30 : Addr} {od30 an30 : Option Addr} {sl30 : Array (Option Value)} {oc30 kV30 dc30 pm30 cd30 ct30 : Value}
    {f31 : Addr} {od31 an31 : Option Addr} {sl31 : Array (Option Value)} {oc31 kV31 dc31 pm31 cd31 ct31 : Value}
    {f32 : Addr} {od32 an32 : Option Addr} {sl32 : Array (Option Value)} {oc32 kV32 dc32 pm32 cd32 ct32 : Value}
    {f33 : Addr} {od33 an33 : Option Addr} {sl33 : Array (Option Value)} {oc33 kV33 dc33 pm33 cd33 ct33 : Value}
    {f34 : Addr} {od34 an34 : Option Addr} {sl34 : Array (Option Value)} {oc34 kV34 dc34 pm34 cd34 ct34 : Value}
    {f35 : Addr} {od35 an35 : Option Addr} {sl35 : Array (Option Value)} {oc35 kV35 dc35 pm35 cd35 ct35 : Value}
    {f36 : Addr} {od36 an36 : Option Addr} {sl36 : Array (Option Value)} {oc36 kV36 dc36 pm36 cd36 ct36 : Value}
    {f37 : Addr} {od37 an37 : Option Addr} {sl37 : Array (Option Value)} {oc37 kV37 dc37 pm37 cd37 ct37 : Value}
    {f38 : Addr} {od38 an38 : Option Addr} {sl38 : Array (Option Value)} {oc38 kV38 dc38 pm38 cd38 ct38 : Value}
    {f39 : Addr} {od39 an39 : Option Addr} {sl39 : Array (Option Value)} {oc39 kV39 dc39 pm39 cd39 ct39 : Value}
    {f40 : Addr} {od40 an40 : Option Addr} {sl40 : Array (Option Value)} {oc40 kV40 dc40 pm40 cd40 ct40 : Value}
    {f41 : Addr} {od41 an41 : Option Addr} {sl41 : Array (Option Value)} {oc41 kV41 dc41 pm41 cd41 ct41 : Value}
    {C0 : Addr}
    {C1 : Addr}
    {C2 : Addr}
    {C3 : Addr}
    {I3 : Addr} {iod3 ian3 : Option Addr} {isl3 : Array (Option Value)} {ioc3 ikV3 idc3 ipm3 icd3 ict3 : Value}
    {nm3 q3 : Str} {N3 : Addr} {bs3 bm3 : List Value} {sn3 : List Str} {sub3 : List Value} {ab3 : Bool} {col3 : Option Bool} {dd3 : Option Addr} {m03 m13 m23 m33 m53 : Option Value}
    (a0 : PySem.W.nsIn K mainGlobals "is_integer" = some (some (.ref f0)))
    (l0 : K.lookup f0 = some ⟨oc0, od0, .func (fdOf "is_integer" s_is_integer kV0 dc0 pm0 an0 cd0 ct0), sl0⟩)
    (c0 : PySem.W.codeIn K cd0 "is_integer" = true)
    (k0 : PySem.W.keepIn K (.ref f0) = true)
    (a1 : PySem.W.nsIn K mainGlobals "is_number" = some (some (.ref f1)))
    (l1 : K.lookup f1 = some ⟨oc1, od1, .func (fdOf "is_number" s_is_number kV1 dc1 pm1 an1 cd1 ct1), sl1⟩)
    (c1 : PySem.W.codeIn K cd1 "is_number" = true)
    (k1 : PySem.W.keepIn K (.ref f1) = true)
    (a2 : PySem.W.nsIn K mainGlobals "is_positive" = some (some (.ref f2)))
    (l2 : K.lookup f2 = some ⟨oc2, od2, .func (fdOf "is_positive" s_is_positive kV2 dc2 pm2 an2 cd2 ct2), sl2⟩)
    (c2 : PySem.W.codeIn K cd2 "is_positive" = true)
    (k2 : PySem.W.keepIn K (.ref f2) = true)
    (a3 : PySem.W.nsIn K mainGlobals "is_tuple_of" = some (some (.ref f3)))
    (l3 : K.lookup f3 = some ⟨oc3, od3, .func (fdOf "is_tuple_of" s_is_tuple_of kV3 dc3 pm3 an3 cd3 ct3), sl3⟩)
    (c3 : PySem.W.codeIn K cd3 "is_tuple_of" = true)
    (k3 : PySem.W.keepIn K (.ref f3) = true)
    (a4 : PySem.W.nsIn K mainGlobals "is_quotient" = some (some (.ref f4)))
    (l4 : K.lookup f4 = some ⟨oc4, od4, .func (fdOf "is_quotient" s_is_quotient kV4 dc4 pm4 an4 cd4 ct4), sl4⟩)
    (c4 : PySem.W.codeIn K cd4 "is_quotient" = true)
    (k4 : PySem.W.keepIn K (.ref f4) = true)
    (a5 : PySem.W.nsIn K mainGlobals "are_below" = some (some (.ref f5)))
    (l5 : K.lookup f5 = some ⟨oc5, od5, .func (fdOf "are_below" s_are_below kV5 dc5 pm5 an5 cd5 ct5), sl5⟩)
    (c5 : PySem.W.codeIn K cd5 "are_below" = true)
    (k5 : PySem.W.keepIn K (.ref f5) = true)
    (a6 : PySem.W.nsIn K mainGlobals "is_lot" = some (some (.ref f6)))
    (l6 : K.lookup f6 = some ⟨oc6, od6, .func (fdOf "is_lot" s_is_lot kV6 dc6 pm6 an6 cd6 ct6), sl6⟩)
    (c6 : PySem.W.codeIn K cd6 "is_lot" = true)
    (k6 : PySem.W.keepIn K (.ref f6) = true)
    (a7 : PySem.W.nsIn K mainGlobals "is_joining" = some (some (.ref f7)))
    (l7 : K.lookup f7 = some ⟨oc7, od7, .func (fdOf "is_joining" s_is_joining kV7 dc7 pm7 an7 cd7 ct7), sl7⟩)
    (c7 : PySem.W.codeIn K cd7 "is_joining" = true)
    (k7 : PySem.W.keepIn K (.ref f7) = true)
    (a8 : PySem.W.nsIn K mainGlobals "need" = some (some (.ref f8)))
    (l8 : K.lookup f8 = some ⟨oc8, od8, .func (fdOf "need" s_need kV8 dc8 pm8 an8 cd8 ct8), sl8⟩)
    (c8 : PySem.W.codeIn K cd8 "need" = true)
    (k8 : PySem.W.keepIn K (.ref f8) = true)
    (a9 : PySem.W.nsIn K mainGlobals "quotient_of" = some (some (.ref f9)))
    (l9 : K.lookup f9 = some ⟨oc9, od9, .func (fdOf "quotient_of" s_quotient_of kV9 dc9 pm9 an9 cd9 ct9), sl9⟩)
    (c9 : PySem.W.codeIn K cd9 "quotient_of" = true)
    (k9 : PySem.W.keepIn K (.ref f9) = true)
    (a10 : PySem.W.nsIn K mainGlobals "need_both" = some (some (.ref f10)))
    (l10 : K.lookup f10 = some ⟨oc10, od10, .func (fdOf "need_both" s_need_both kV10 dc10 pm10 an10 cd10 ct10), sl10⟩)
    (c10 : PySem.W.codeIn K cd10 "need_both" = true)
    (k10 : PySem.W.keepIn K (.ref f10) = true)
    (a11 : PySem.W.nsIn K mainGlobals "plus" = some (some (.ref f11)))
    (l11 : K.lookup f11 = some ⟨oc11, od11, .func (fdOf "plus" s_plus kV11 dc11 pm11 an11 cd11 ct11), sl11⟩)
    (c11 : PySem.W.codeIn K cd11 "plus" = true)
    (k11 : PySem.W.keepIn K (.ref f11) = true)
    (a12 : PySem.W.nsIn K mainGlobals "minus" = some (some (.ref f12)))
    (l12 : K.lookup f12 = some ⟨oc12, od12, .func (fdOf "minus" s_minus kV12 dc12 pm12 an12 cd12 ct12), sl12⟩)
    (c12 : PySem.W.codeIn K cd12 "minus" = true)
    (k12 : PySem.W.keepIn K (.ref f12) = true)
    (a13 : PySem.W.nsIn K mainGlobals "times" = some (some (.ref f13)))
    (l13 : K.lookup f13 = some ⟨oc13, od13, .func (fdOf "times" s_times kV13 dc13 pm13 an13 cd13 ct13), sl13⟩)
    (c13 : PySem.W.codeIn K cd13 "times" = true)
    (k13 : PySem.W.keepIn K (.ref f13) = true)
    (a14 : PySem.W.nsIn K mainGlobals "over" = some (some (.ref f14)))
    (l14 : K.lookup f14 = some ⟨oc14, od14, .func (fdOf "over" s_over kV14 dc14 pm14 an14 cd14 ct14), sl14⟩)
    (c14 : PySem.W.codeIn K cd14 "over" = true)
    (k14 : PySem.W.keepIn K (.ref f14) = true)
    (a15 : PySem.W.nsIn K mainGlobals "less" = some (some (.ref f15)))
    (l15 : K.lookup f15 = some ⟨oc15, od15, .func (fdOf "less" s_less kV15 dc15 pm15 an15 cd15 ct15), sl15⟩)
    (c15 : PySem.W.codeIn K cd15 "less" = true)
    (k15 : PySem.W.keepIn K (.ref f15) = true)
    (a16 : PySem.W.nsIn K mainGlobals "joinings_of" = some (some (.ref f16)))
    (l16 : K.lookup f16 = some ⟨oc16, od16, .func (fdOf "joinings_of" s_joinings_of kV16 dc16 pm16 an16 cd16 ct16), sl16⟩)
    (c16 : PySem.W.codeIn K cd16 "joinings_of" = true)
    (k16 : PySem.W.keepIn K (.ref f16) = true)
    (a17 : PySem.W.nsIn K mainGlobals "blocks_in" = some (some (.ref f17)))
    (l17 : K.lookup f17 = some ⟨oc17, od17, .func (fdOf "blocks_in" s_blocks_in kV17 dc17 pm17 an17 cd17 ct17), sl17⟩)
    (c17 : PySem.W.codeIn K cd17 "blocks_in" = true)
    (k17 : PySem.W.keepIn K (.ref f17) = true)
    (a18 : PySem.W.nsIn K mainGlobals "blocks_of" = some (some (.ref f18)))
    (l18 : K.lookup f18 = some ⟨oc18, od18, .func (fdOf "blocks_of" s_blocks_of kV18 dc18 pm18 an18 cd18 ct18), sl18⟩)
    (c18 : PySem.W.codeIn K cd18 "blocks_of" = true)
    (k18 : PySem.W.keepIn K (.ref f18) = true)
    (a19 : PySem.W.nsIn K mainGlobals "are_blocks" = some (some (.ref f19)))
    (l19 : K.lookup f19 = some ⟨oc19, od19, .func (fdOf "are_blocks" s_are_blocks kV19 dc19 pm19 an19 cd19 ct19), sl19⟩)
    (c19 : PySem.W.codeIn K cd19 "are_blocks" = true)
    (k19 : PySem.W.keepIn K (.ref f19) = true)
    (a20 : PySem.W.nsIn K mainGlobals "joining_of" = some (some (.ref f20)))
    (l20 : K.lookup f20 = some ⟨oc20, od20, .func (fdOf "joining_of" s_joining_of kV20 dc20 pm20 an20 cd20 ct20), sl20⟩)
    (c20 : PySem.W.codeIn K cd20 "joining_of" = true)
    (k20 : PySem.W.keepIn K (.ref f20) = true)
    (a21 : PySem.W.nsIn K mainGlobals "joined_two" = some (some (.ref f21)))
    (l21 : K.lookup f21 = some ⟨oc21, od21, .func (fdOf "joined_two" s_joined_two kV21 dc21 pm21 an21 cd21 ct21), sl21⟩)
    (c21 : PySem.W.codeIn K cd21 "joined_two" = true)
    (k21 : PySem.W.keepIn K (.ref f21) = true)
    (a22 : PySem.W.nsIn K mainGlobals "joined_with" = some (some (.ref f22)))
    (l22 : K.lookup f22 = some ⟨oc22, od22, .func (fdOf "joined_with" s_joined_with kV22 dc22 pm22 an22 cd22 ct22), sl22⟩)
    (c22 : PySem.W.codeIn K cd22 "joined_with" = true)
    (k22 : PySem.W.keepIn K (.ref f22) = true)
    (a23 : PySem.W.nsIn K mainGlobals "_law_pool" = some (some (.ref f23)))
    (l23 : K.lookup f23 = some ⟨oc23, od23, .func (fdOf "_law_pool" s__law_pool kV23 dc23 pm23 an23 cd23 ct23), sl23⟩)
    (c23 : PySem.W.codeIn K cd23 "_law_pool" = true)
    (k23 : PySem.W.keepIn K (.ref f23) = true)
    (a24 : PySem.W.nsIn K mainGlobals "_law_take" = some (some (.ref f24)))
    (l24 : K.lookup f24 = some ⟨oc24, od24, .func (fdOf "_law_take" s__law_take kV24 dc24 pm24 an24 cd24 ct24), sl24⟩)
    (c24 : PySem.W.codeIn K cd24 "_law_take" = true)
    (k24 : PySem.W.keepIn K (.ref f24) = true)
    (a25 : PySem.W.nsIn K mainGlobals "_law_great" = some (some (.ref f25)))
    (l25 : K.lookup f25 = some ⟨oc25, od25, .func (fdOf "_law_great" s__law_great kV25 dc25 pm25 an25 cd25 ct25), sl25⟩)
    (c25 : PySem.W.codeIn K cd25 "_law_great" = true)
    (k25 : PySem.W.keepIn K (.ref f25) = true)
    (a26 : PySem.W.nsIn K mainGlobals "_law_int" = some (some (.ref f26)))
    (l26 : K.lookup f26 = some ⟨oc26, od26, .func (fdOf "_law_int" s__law_int kV26 dc26 pm26 an26 cd26 ct26), sl26⟩)
    (c26 : PySem.W.codeIn K cd26 "_law_int" = true)
    (k26 : PySem.W.keepIn K (.ref f26) = true)
    (a27 : PySem.W.nsIn K mainGlobals "_law_common" = some (some (.ref f27)))
    (l27 : K.lookup f27 = some ⟨oc27, od27, .func (fdOf "_law_common" s__law_common kV27 dc27 pm27 an27 cd27 ct27), sl27⟩)
    (c27 : PySem.W.codeIn K cd27 "_law_common" = true)
    (k27 : PySem.W.keepIn K (.ref f27) = true)
    (a28 : PySem.W.nsIn K mainGlobals "_law_share" = some (some (.ref f28)))
    (l28 : K.lookup f28 = some ⟨oc28, od28, .func (fdOf "_law_share" s__law_share kV28 dc28 pm28 an28 cd28 ct28), sl28⟩)
    (c28 : PySem.W.codeIn K cd28 "_law_share" = true)
    (k28 : PySem.W.keepIn K (.ref f28) = true)
    (a29 : PySem.W.nsIn K mainGlobals "_law_stands" = some (some (.ref f29)))
    (l29 : K.lookup f29 = some ⟨oc29, od29, .func (fdOf "_law_stands" s__law_stands kV29 dc29 pm29 an29 cd29 ct29), sl29⟩)
    (c29 : PySem.W.codeIn K cd29 "_law_stands" = true)
    (k29 : PySem.W.keepIn K (.ref f29) = true)
    (a30 : PySem.W.nsIn K mainGlobals "_law_deed" = some (some (.ref f30)))
    (l30 : K.lookup f30 = some ⟨oc30, od30, .func (fdOf "_law_deed" s__law_deed kV30 dc30 pm30 an30 cd30 ct30), sl30⟩)
    (c30 : PySem.W.codeIn K cd30 "_law_deed" = true)
    (k30 : PySem.W.keepIn K (.ref f30) = true)
    (a31 : PySem.W.nsIn K mainGlobals "_law_refused" = some (some (.ref f31)))
    (l31 : K.lookup f31 = some ⟨oc31, od31, .func (fdOf "_law_refused" s__law_refused kV31 dc31 pm31 an31 cd31 ct31), sl31⟩)
    (c31 : PySem.W.codeIn K cd31 "_law_refused" = true)
    (k31 : PySem.W.keepIn K (.ref f31) = true)
    (a32 : PySem.W.nsIn K mainGlobals "_law_number" = some (some (.ref f32)))
    (l32 : K.lookup f32 = some ⟨oc32, od32, .func (fdOf "_law_number" s__law_number kV32 dc32 pm32 an32 cd32 ct32), sl32⟩)
    (c32 : PySem.W.codeIn K cd32 "_law_number" = true)
    (k32 : PySem.W.keepIn K (.ref f32) = true)
    (a33 : PySem.W.nsIn K mainGlobals "_law_pair" = some (some (.ref f33)))
    (l33 : K.lookup f33 = some ⟨oc33, od33, .func (fdOf "_law_pair" s__law_pair kV33 dc33 pm33 an33 cd33 ct33), sl33⟩)
    (c33 : PySem.W.codeIn K cd33 "_law_pair" = true)
    (k33 : PySem.W.keepIn K (.ref f33) = true)
    (a34 : PySem.W.nsIn K mainGlobals "_law_chain" = some (some (.ref f34)))
    (l34 : K.lookup f34 = some ⟨oc34, od34, .func (fdOf "_law_chain" s__law_chain kV34 dc34 pm34 an34 cd34 ct34), sl34⟩)
    (c34 : PySem.W.codeIn K cd34 "_law_chain" = true)
    (k34 : PySem.W.keepIn K (.ref f34) = true)
    (a35 : PySem.W.nsIn K mainGlobals "_law_joined" = some (some (.ref f35)))
    (l35 : K.lookup f35 = some ⟨oc35, od35, .func (fdOf "_law_joined" s__law_joined kV35 dc35 pm35 an35 cd35 ct35), sl35⟩)
    (c35 : PySem.W.codeIn K cd35 "_law_joined" = true)
    (k35 : PySem.W.keepIn K (.ref f35) = true)
    (a36 : PySem.W.nsIn K mainGlobals "_law_row" = some (some (.ref f36)))
    (l36 : K.lookup f36 = some ⟨oc36, od36, .func (fdOf "_law_row" s__law_row kV36 dc36 pm36 an36 cd36 ct36), sl36⟩)
    (c36 : PySem.W.codeIn K cd36 "_law_row" = true)
    (k36 : PySem.W.keepIn K (.ref f36) = true)
    (a37 : PySem.W.nsIn K mainGlobals "_law_listed" = some (some (.ref f37)))
    (l37 : K.lookup f37 = some ⟨oc37, od37, .func (fdOf "_law_listed" s__law_listed kV37 dc37 pm37 an37 cd37 ct37), sl37⟩)
    (c37 : PySem.W.codeIn K cd37 "_law_listed" = true)
    (k37 : PySem.W.keepIn K (.ref f37) = true)
    (a38 : PySem.W.nsIn K mainGlobals "_law_blocks" = some (some (.ref f38)))
    (l38 : K.lookup f38 = some ⟨oc38, od38, .func (fdOf "_law_blocks" s__law_blocks kV38 dc38 pm38 an38 cd38 ct38), sl38⟩)
    (c38 : PySem.W.codeIn K cd38 "_law_blocks" = true)
    (k38 : PySem.W.keepIn K (.ref f38) = true)
    (a39 : PySem.W.nsIn K mainGlobals "_law_both" = some (some (.ref f39)))
    (l39 : K.lookup f39 = some ⟨oc39, od39, .func (fdOf "_law_both" s__law_both kV39 dc39 pm39 an39 cd39 ct39), sl39⟩)
    (c39 : PySem.W.codeIn K cd39 "_law_both" = true)
    (k39 : PySem.W.keepIn K (.ref f39) = true)
    (a40 : PySem.W.nsIn K mainGlobals "_law_refusals" = some (some (.ref f40)))
    (l40 : K.lookup f40 = some ⟨oc40, od40, .func (fdOf "_law_refusals" s__law_refusals kV40 dc40 pm40 an40 cd40 ct40), sl40⟩)
    (c40 : PySem.W.codeIn K cd40 "_law_refusals" = true)
    (k40 : PySem.W.keepIn K (.ref f40) = true)
    (a41 : PySem.W.nsIn K mainGlobals "law" = some (some (.ref f41)))
    (l41 : K.lookup f41 = some ⟨oc41, od41, .func (fdOf "law" s_law kV41 dc41 pm41 an41 cd41 ct41), sl41⟩)
    (c41 : PySem.W.codeIn K cd41 "law" = true)
    (k41 : PySem.W.keepIn K (.ref f41) = true)
    (cg0 : PySem.W.nsIn K mainGlobals "LedError" = some (some (.ref C0)))
    (cg1 : PySem.W.nsIn K mainGlobals "PaperError" = some (some (.ref C1)))
    (cg2 : PySem.W.nsIn K mainGlobals "WebError" = some (some (.ref C2)))
    (cg3 : PySem.W.nsIn K mainGlobals "NotUsable" = some (some (.ref C3)))
    (xc3 : K.lookup C3 = some (excClassObj nm3 q3 C3 N3 bs3 bm3 true sn3 sub3 ab3 col3 dd3 m03 m13 m23 m33 m53 "ValueError.__new__"))
    (xm3 : PySem.HandSPX.refsVE bm3 = true)
    (xs3 : PySem.W.findIn K (.ref C3) "__setattr__" = some (some (.builtin "object.__setattr__")))
    (xe3 : PySem.W.subIn K (.ref C3) (.type "BaseException") = some true)
    (xt3 : PySem.W.typeIn K (.ref C3) = some (.type "type"))
    (xk3 : PySem.W.keepIn K (.ref C3) = true)
    (ii3 : PySem.W.findIn K (.ref C3) "__init__" = some (some (.ref I3)))
    (it3 : PySem.W.typeIn K (.ref I3) = some (.type "function"))
    (il3 : K.lookup I3 = some ⟨ioc3, iod3, .func (fdOfI "__init__" "NotUsable.__init__" si_NotUsable ikV3 idc3 ipm3 ian3 icd3 ict3), isl3⟩)
    (ic3 : PySem.W.codeIn K icd3 "NotUsable.__init__" = true)
    (ik3 : PySem.W.keepIn K (.ref I3) = true)
    (xga3 : PySem.W.findIn K (.ref C3) "__getattribute__" = some (some (.builtin "BaseException.__getattribute__")))
    (xgg3 : PySem.W.findIn K (.ref C3) "__getattr__" = some none)
    (xhd3 : PySem.W.hasDictIn K C3 = true)
    (xcl3 : PySem.W.findIn K (.ref C3) "__class__" = some (some (.builtin "object.__class__")))
    (xhn3 : PySem.W.specialIn K (.builtin "object.__class__") "__get__" = some (some (.builtin "getset_descriptor.__get__")))
    (xht3 : PySem.W.takesIn K (.builtin "object.__class__") = some true)
    (xhm3 : PySem.W.mroIn K C3 (.type "object") = some true)
    (xss3 : PySem.W.subIn K (.ref C3) (.ref C3) = some true)
    (no3_at : PySem.W.findIn K (.ref C3) "at" = some none)
    (no3_word : PySem.W.findIn K (.ref C3) "word" = some none)
    (kt3_LedError : PySem.W.kitOne K (.ref C3) (.ref C0) = some true)
    (kt3_PaperError : PySem.W.kitOne K (.ref C3) (.ref C1) = some false)
    (kt3_ValueError : PySem.W.kitOne K (.ref C3) (.type "ValueError") = some true)
    (kt3_WebError : PySem.W.kitOne K (.ref C3) (.ref C2) = some true)
    (n_ValueError : PySem.W.nsIn K mainGlobals "ValueError" = some none)
    (n_abs : PySem.W.nsIn K mainGlobals "abs" = some none)
    (n_all : PySem.W.nsIn K mainGlobals "all" = some none)
    (n_bool : PySem.W.nsIn K mainGlobals "bool" = some none)
    (n_enumerate : PySem.W.nsIn K mainGlobals "enumerate" = some none)
    (n_int : PySem.W.nsIn K mainGlobals "int" = some none)
    (n_isinstance : PySem.W.nsIn K mainGlobals "isinstance" = some none)
    (n_len : PySem.W.nsIn K mainGlobals "len" = some none)
    (n_list : PySem.W.nsIn K mainGlobals "list" = some none)
    (n_max : PySem.W.nsIn K mainGlobals "max" = some none)
    (n_min : PySem.W.nsIn K mainGlobals "min" = some none)
    (n_range : PySem.W.nsIn K mainGlobals "range" = some none)
    (n_set : PySem.W.nsIn K mainGlobals "set" = some none)
    (n_sorted : PySem.W.nsIn K mainGlobals "sorted" = some none)
    (n_str : PySem.W.nsIn K mainGlobals "str" = some none)
    (n_tuple : PySem.W.nsIn K mainGlobals "tuple" = some none)
    (n_zip : PySem.W.nsIn K mainGlobals "zip" = some none)
    (i_gcd : PySem.W.nsIn K mainGlobals "gcd" = some (some (.builtin "math.gcd")))
    : ∃ fd : FuncData, (∀ (s : Shared) (v : Value), BindsTo s fd ⟨[v], []⟩ [("_law_script", v)]) ∧ ∀ base : Heap, K.In base → base.Ns mainGlobals mg → FnOk l.prog w K mg base (L2N.CX l.prog w) 10 fa fd ["_law_script"] (spL K) := by
  cases hfa.symm.trans (PySem.W.mg_of X G a41)
  have F0 := fun_mk (st := s_is_integer) l0 c0 k0
  have F1 := fun_mk (st := s_is_number) l1 c1 k1
  have F2 := fun_mk (st := s_is_positive) l2 c2 k2
  have F3 := fun_mk (st := s_is_tuple_of) l3 c3 k3
  have F4 := fun_mk (st := s_is_quotient) l4 c4 k4
  have F5 := fun_mk (st := s_are_below) l5 c5 k5
  have F6 := fun_mk (st := s_is_lot) l6 c6 k6
  have F7 := fun_mk (st := s_is_joining) l7 c7 k7
  have F8 := fun_mk (st := s_need) l8 c8 k8
  have F9 := fun_mk (st := s_quotient_of) l9 c9 k9
  have F10 := fun_mk (st := s_need_both) l10 c10 k10
  have F11 := fun_mk (st := s_plus) l11 c11 k11
  have F12 := fun_mk (st := s_minus) l12 c12 k12
  have F13 := fun_mk (st := s_times) l13 c13 k13
  have F14 := fun_mk (st := s_over) l14 c14 k14
  have F15 := fun_mk (st := s_less) l15 c15 k15
  have F16 := fun_mk (st := s_joinings_of) l16 c16 k16
  have F17 := fun_mk (st := s_blocks_in) l17 c17 k17
  have F18 := fun_mk (st := s_blocks_of) l18 c18 k18
  have F19 := fun_mk (st := s_are_blocks) l19 c19 k19
  have F20 := fun_mk (st := s_joining_of) l20 c20 k20
  have F21 := fun_mk (st := s_joined_two) l21 c21 k21
  have F22 := fun_mk (st := s_joined_with) l22 c22 k22
  have F23 := fun_mk (st := s__law_pool) l23 c23 k23
  have F24 := fun_mk (st := s__law_take) l24 c24 k24
  have F25 := fun_mk (st := s__law_great) l25 c25 k25
  have F26 := fun_mk (st := s__law_int) l26 c26 k26
  have F27 := fun_mk (st := s__law_common) l27 c27 k27
  have F28 := fun_mk (st := s__law_share) l28 c28 k28
  have F29 := fun_mk (st := s__law_stands) l29 c29 k29
  have F30 := fun_mk (st := s__law_deed) l30 c30 k30
  have F31 := fun_mk (st := s__law_refused) l31 c31 k31
  have F32 := fun_mk (st := s__law_number) l32 c32 k32
  have F33 := fun_mk (st := s__law_pair) l33 c33 k33
  have F34 := fun_mk (st := s__law_chain) l34 c34 k34
  have F35 := fun_mk (st := s__law_joined) l35 c35 k35
  have F36 := fun_mk (st := s__law_row) l36 c36 k36
  have F37 := fun_mk (st := s__law_listed) l37 c37 k37
  have F38 := fun_mk (st := s__law_blocks) l38 c38 k38
  have F39 := fun_mk (st := s__law_both) l39 c39 k39
  have F40 := fun_mk (st := s__law_refusals) l40 c40 k40
  have F41 := fun_mk (st := s_law) l41 c41 k41
  have FI3 := fun_mk (st := si_NotUsable) il3 ic3 ik3
  have bI3 : Binds K _ ["self", "word", "at"] [] := FI3.binds fun _ _ _ _ _ _ us hl => match us, hl with | [_, _, _], _ => rfl
  have xf3 : L2.XfC K C3 := ⟨xga3, xgg3, xe3, xhd3⟩
  have ox3 : L2.OexC K C3 := ⟨⟨_, _, _, _, _, _, _, _, _, _, _, _, _, _, _, xc3, xm3⟩, xs3, xe3, xt3, xk3⟩
  have T : Txt K mg (fun i => [f0, f1, f2, f3, f4, f5, f6, f7, f8, f9, f10, f11, f12, f13, f14, f15, f16, f17, f18, f19, f20, f21, f22, f23, f24, f25, f26, f27, f28, f29, f30, f31, f32, f33, f34, f35, f36, f37, f38, f39, f40, fa].getD i 0) (fun i => [fdOf "is_integer" s_is_integer kV0 dc0 pm0 an0 cd0 ct0, fdOf "is_number" s_is_number kV1 dc1 pm1 an1 cd1 ct1, fdOf "is_positive" s_is_positive kV2 dc2 pm2 an2 cd2 ct2, fdOf "is_tuple_of" s_is_tuple_of kV3 dc3 pm3 an3 cd3 ct3, fdOf "is_quotient" s_is_quotient kV4 dc4 pm4 an4 cd4 ct4, fdOf "are_below" s_are_below kV5 dc5 pm5 an5 cd5 ct5, fdOf "is_lot" s_is_lot kV6 dc6 pm6 an6 cd6 ct6, fdOf "is_joining" s_is_joining kV7 dc7 pm7 an7 cd7 ct7, fdOf "need" s_need kV8 dc8 pm8 an8 cd8 ct8, fdOf "quotient_of" s_quotient_of kV9 dc9 pm9 an9 cd9 ct9, fdOf "need_both" s_need_both kV10 dc10 pm10 an10 cd10 ct10, fdOf "plus" s_plus kV11 dc11 pm11 an11 cd11 ct11, fdOf "minus" s_minus kV12 dc12 pm12 an12 cd12 ct12, fdOf "times" s_times kV13 dc13 pm13 an13 cd13 ct13, fdOf "over" s_over kV14 dc14 pm14 an14 cd14 ct14, fdOf "less" s_less kV15 dc15 pm15 an15 cd15 ct15, fdOf "joinings_of" s_joinings_of kV16 dc16 pm16 an16 cd16 ct16, fdOf "blocks_in" s_blocks_in kV17 dc17 pm17 an17 cd17 ct17, fdOf "blocks_of" s_blocks_of kV18 dc18 pm18 an18 cd18 ct18, fdOf "are_blocks" s_are_blocks kV19 dc19 pm19 an19 cd19 ct19, fdOf "joining_of" s_joining_of kV20 dc20 pm20 an20 cd20 ct20, fdOf "joined_two" s_joined_two kV21 dc21 pm21 an21 cd21 ct21, fdOf "joined_with" s_joined_with kV22 dc22 pm22 an22 cd22 ct22, fdOf "_law_pool" s__law_pool kV23 dc23 pm23 an23 cd23 ct23, fdOf "_law_take" s__law_take kV24 dc24 pm24 an24 cd24 ct24, fdOf "_law_great" s__law_great kV25 dc25 pm25 an25 cd25 ct25, fdOf "_law_int" s__law_int kV26 dc26 pm26 an26 cd26 ct26, fdOf "_law_common" s__law_common kV27 dc27 pm27 an27 cd27 ct27, fdOf "_law_share" s__law_share kV28 dc28 pm28 an28 cd28 ct28, fdOf "_law_stands" s__law_stands kV29 dc29 pm29 an29 cd29 ct29, fdOf "_law_deed" s__law_deed kV30 dc30 pm30 an30 cd30 ct30, fdOf "_law_refused" s__law_refused kV31 dc31 pm31 an31 cd31 ct31, fdOf "_law_number" s__law_number kV32 dc32 pm32 an32 cd32 ct32, fdOf "_law_pair" s__law_pair kV33 dc33 pm33 an33 cd33 ct33, fdOf "_law_chain" s__law_chain kV34 dc34 pm34 an34 cd34 ct34, fdOf "_law_joined" s__law_joined kV35 dc35 pm35 an35 cd35 ct35, fdOf "_law_row" s__law_row kV36 dc36 pm36 an36 cd36 ct36, fdOf "_law_listed" s__law_listed kV37 dc37 pm37 an37 cd37 ct37, fdOf "_law_blocks" s__law_blocks kV38 dc38 pm38 an38 cd38 ct38, fdOf "_law_both" s__law_both kV39 dc39 pm39 an39 cd39 ct39, fdOf "_law_refusals" s__law_refusals kV40 dc40 pm40 an40 cd40 ct40, fdOf "law" s_law kV41 dc41 pm41 an41 cd41 ct41].getD i fd0) (fun i => [C0, C1, C2, C3].getD i 0) (fun i => [0, 0, 0, I3].getD i 0) (fun i => [fd0, fd0, fd0, fdOfI "__init__" "NotUsable.__init__" si_NotUsable ikV3 idc3 ipm3 ian3 icd3 ict3].getD i fd0) := {
    g_is_integer := PySem.W.mg_of X G a0,
    F_is_integer := F0,
    g_is_number := PySem.W.mg_of X G a1,
    F_is_number := F1,
    g_is_positive := PySem.W.mg_of X G a2,
    F_is_positive := F2,
    g_is_tuple_of := PySem.W.mg_of X G a3,
    F_is_tuple_of := F3,
    g_is_quotient := PySem.W.mg_of X G a4,
    F_is_quotient := F4,
    g_are_below := PySem.W.mg_of X G a5,
    F_are_below := F5,
    g_is_lot := PySem.W.mg_of X G a6,
    F_is_lot := F6,
    g_is_joining := PySem.W.mg_of X G a7,
    F_is_joining := F7,
    g_need := PySem.W.mg_of X G a8,
    F_need := F8,
    g_quotient_of := PySem.W.mg_of X G a9,
    F_quotient_of := F9,
    g_need_both := PySem.W.mg_of X G a10,
    F_need_both := F10,
    g_plus := PySem.W.mg_of X G a11,
    F_plus := F11,
    g_minus := PySem.W.mg_of X G a12,
    F_minus := F12,
    g_times := PySem.W.mg_of X G a13,
    F_times := F13,
    g_over := PySem.W.mg_of X G a14,
    F_over := F14,
    g_less := PySem.W.mg_of X G a15,
    F_less := F15,
    g_joinings_of := PySem.W.mg_of X G a16,
    F_joinings_of := F16,
    g_blocks_in := PySem.W.mg_of X G a17,
    F_blocks_in := F17,
    g_blocks_of := PySem.W.mg_of X G a18,
    F_blocks_of := F18,
    g_are_blocks := PySem.W.mg_of X G a19,
    F_are_blocks := F19,
    g_joining_of := PySem.W.mg_of X G a20,
    F_joining_of := F20,
    g_joined_two := PySem.W.mg_of X G a21,
    F_joined_two := F21,
    g_joined_with := PySem.W.mg_of X G a22,
    F_joined_with := F22,
    g__law_pool := PySem.W.mg_of X G a23,
    F__law_pool := F23,
    g__law_take := PySem.W.mg_of X G a24,
    F__law_take := F24,
    g__law_great := PySem.W.mg_of X G a25,
    F__law_great := F25,
    g__law_int := PySem.W.mg_of X G a26,
    F__law_int := F26,
    g__law_common := PySem.W.mg_of X G a27,
    F__law_common := F27,
    g__law_share := PySem.W.mg_of X G a28,
    F__law_share := F28,
    g__law_stands := PySem.W.mg_of X G a29,
    F__law_stands := F29,
    g__law_deed := PySem.W.mg_of X G a30,
    F__law_deed := F30,
    g__law_refused := PySem.W.mg_of X G a31,
    F__law_refused := F31,
    g__law_number := PySem.W.mg_of X G a32,
    F__law_number := F32,
    g__law_pair := PySem.W.mg_of X G a33,
    F__law_pair := F33,
    g__law_chain := PySem.W.mg_of X G a34,
    F__law_chain := F34,
    g__law_joined := PySem.W.mg_of X G a35,
    F__law_joined := F35,
    g__law_row := PySem.W.mg_of X G a36,
    F__law_row := F36,
    g__law_listed := PySem.W.mg_of X G a37,
    F__law_listed := F37,
    g__law_blocks := PySem.W.mg_of X G a38,
    F__law_blocks := F38,
    g__law_both := PySem.W.mg_of X G a39,
    F__law_both := F39,
    g__law_refusals := PySem.W.mg_of X G a40,
    F__law_refusals := F40,
    g_law := PySem.W.mg_of X G a41,
    F_law := F41,
    n_ValueError := PySem.W.mg_none_of X G n_ValueError,
    n_abs := PySem.W.mg_none_of X G n_abs,
    n_all := PySem.W.mg_none_of X G n_all,
    n_bool := PySem.W.mg_none_of X G n_bool,
    n_enumerate := PySem.W.mg_none_of X G n_enumerate,
    n_int := PySem.W.mg_none_of X G n_int,
    n_isinstance := PySem.W.mg_none_of X G n_isinstance,
    n_len := PySem.W.mg_none_of X G n_len,
    n_list := PySem.W.mg_none_of X G n_list,
    n_max := PySem.W.mg_none_of X G n_max,
    n_min := PySem.W.mg_none_of X G n_min,
    n_range := PySem.W.mg_none_of X G n_range,
    n_set := PySem.W.mg_none_of X G n_set,
    n_sorted := PySem.W.mg_none_of X G n_sorted,
    n_str := PySem.W.mg_none_of X G n_str,
    n_tuple := PySem.W.mg_none_of X G n_tuple,
    n_zip := PySem.W.mg_none_of X G n_zip,
    i_gcd := PySem.W.mg_of X G i_gcd,
    x_NotUsable := ⟨PySem.W.mg_of X G cg3, ox3, ii3, it3, bI3, xf3, PySem.W.exm_ref xe3 xhd3 xt3 xss3⟩,
    FI_NotUsable := FI3,
    xi_NotUsable := ⟨xga3, xgg3, xe3, xhd3, xcl3, xhn3, xht3, xhm3⟩,
    no_NotUsable_at := no3_at,
    no_NotUsable_word := no3_word,
    gc_LedError := PySem.W.mg_of X G cg0,
    gc_PaperError := PySem.W.mg_of X G cg1,
    gc_WebError := PySem.W.mg_of X G cg2,
    kit_NotUsable_LedError := kt3_LedError,
    kit_NotUsable_PaperError := kt3_PaperError,
    kit_NotUsable_ValueError := kt3_ValueError,
    kit_NotUsable_WebError := kt3_WebError }
  exact ⟨fdOf "law" s_law kV41 dc41 pm41 an41 cd41 ct41, fun s v => .of_eq rfl, fun base _ _ => law_fin M (ok_law T)⟩
end G
open PySem PySem.W PyProof.Rows
theorem G.maths : G.Maths := fun ns hn => G.maths_k01 ns hn
theorem PySem.Challenge.cw_howeverled_k01_whole_quotients_and_joini_holds : PySem.Challenge.rw_howeverled_k01_whole_quotients_and_joini.Holds := by
  w_on; o_law; k_head; (case hw => w_witness2)
  k_fill
  refine L2.walk_of (l := PySem.Challenge.rw_howeverled_k01_whole_quotients_and_joini) (n := 63) (k := 10) (x := "_law_script") (CX := fun w => L2N.CX (PySem.Challenge.rw_howeverled_k01_whole_quotients_and_joini).prog w) (sp := fun w => G.spL _) rfl (by decide) rfl ⟨rfl, by decide, by decide⟩ (fun w h Y => PySem.W.kIn_of Y) ?F (fun _ _ a ns hl _ hS => ⟨a, ns, rfl, hl, hS, fun _ => rfl⟩) ?CX
  case CX =>
    intro w H s e s' h
    obtain ⟨_, _, _, _, _, _, _, _, _, _, _, _, z⟩ := h
    exact z
  case F =>
    intro w mg fa h KX G hmg
    refine' _root_.G.all_mk _root_.G.maths KX G hmg ?a0 ?l0 ?c0 ?k0 ?a1 ?l1 ?c1 ?k1 ?a2 ?l2 ?c2 ?k2 ?a3 ?l3 ?c3 ?k3 ?a4 ?l4 ?c4 ?k4 ?a5 ?l5 ?c5 ?k5 ?a6 ?l6 ?c6 ?k6 ?a7 ?l7 ?c7 ?k7 ?a8 ?l8 ?c8 ?k8 ?a9 ?l9 ?c9 ?k9 ?a10 ?l10 ?c10 ?k10 ?a11 ?l11 ?c11 ?k11 ?a12 ?l12 ?c12 ?k12 ?a13 ?l13 ?c13 ?k13 ?a14 ?l14 ?c14 ?k14 ?a15 ?l15 ?c15 ?k15 ?a16 ?l16 ?c16 ?k16 ?a17 ?l17 ?c17 ?k17 ?a18 ?l18 ?c18 ?k18 ?a19 ?l19 ?c19 ?k19 ?a20 ?l20 ?c20 ?k20 ?a21 ?l21 ?c21 ?k21 ?a22 ?l22 ?c22 ?k22 ?a23 ?l23 ?c23 ?k23 ?a24 ?l24 ?c24 ?k24 ?a25 ?l25 ?c25 ?k25 ?a26 ?l26 ?c26 ?k26 ?a27 ?l27 ?c27 ?k27 ?a28 ?l28 ?c28 ?k28 ?a29 ?l29 ?c29 ?k29 ?a30 ?l30 ?c30 ?k30 ?a31 ?l31 ?c31 ?k31 ?a32 ?l32 ?c32 ?k32 ?a33 ?l33 ?c33 ?k33 ?a34 ?l34 ?c34 ?k34 ?a35 ?l35 ?c35 ?k35 ?a36 ?l36 ?c36 ?k36 ?a37 ?l37 ?c37 ?k37 ?a38 ?l38 ?c38 ?k38 ?a39 ?l39 ?c39 ?k39 ?a40 ?l40 ?c40 ?k40 ?a41 ?l41 ?c41 ?k41 ?cg0 ?cg1 ?cg2 ?cg3 ?xc3 ?xm3 ?xs3 ?xe3 ?xt3 ?xk3 ?ii3 ?it3 ?il3 ?ic3 ?ik3 ?xga3 ?xgg3 ?xhd3 ?xcl3 ?xhn3 ?xht3 ?xhm3 ?xss3 ?no3_at ?no3_word ?kt3_LedError ?kt3_PaperError ?kt3_ValueError ?kt3_WebError ?n_ValueError ?n_abs ?n_all ?n_bool ?n_enumerate ?n_int ?n_isinstance ?n_len ?n_list ?n_max ?n_min ?n_range ?n_set ?n_sorted ?n_str ?n_tuple ?n_zip ?i_gcd
    (case a0 => k_is)
    (case l0 => k_is)
    (case c0 => k_is)
    (case k0 => k_is)
    (case a1 => k_is)
    (case l1 => k_is)
    (case c1 => k_is)
    (case k1 => k_is)
    (case a2 => k_is)
    (case l2 => k_is)
    (case c2 => k_is)
    (case k2 => k_is)
    (case a3 => k_is)
    (case l3 => k_is)
    (case c3 => k_is)
    (case k3 => k_is)
    (case a4 => k_is)
    (case l4 => k_is)
    (case c4 => k_is)
    (case k4 => k_is)
    (case a5 => k_is)
    (case l5 => k_is)
    (case c5 => k_is)
    (case k5 => k_is)
    (case a6 => k_is)
    (case l6 => k_is)
    (case c6 => k_is)
    (case k6 => k_is)
    (case a7 => k_is)
    (case l7 => k_is)
    (case c7 => k_is)
    (case k7 => k_is)
    (case a8 => k_is)
    (case l8 => k_is)
    (case c8 => k_is)
    (case k8 => k_is)
    (case a9 => k_is)
    (case l9 => k_is)
    (case c9 => k_is)
    (case k9 => k_is)
    (case a10 => k_is)
    (case l10 => k_is)
    (case c10 => k_is)
    (case k10 => k_is)
    (case a11 => k_is)
    (case l11 => k_is)
    (case c11 => k_is)
    (case k11 => k_is)
    (case a12 => k_is)
    (case l12 => k_is)
    (case c12 => k_is)
    (case k12 => k_is)
    (case a13 => k_is)
    (case l13 => k_is)
    (case c13 => k_is)
    (case k13 => k_is)
    (case a14 => k_is)
    (case l14 => k_is)
    (case c14 => k_is)
    (case k14 => k_is)
    (case a15 => k_is)
    (case l15 => k_is)
    (case c15 => k_is)
    (case k15 => k_is)
    (case a16 => k_is)
    (case l16 => k_is)
    (case c16 => k_is)
    (case k16 => k_is)
    (case a17 => k_is)
    (case l17 => k_is)
    (case c17 => k_is)
    (case k17 => k_is)
    (case a18 => k_is)
    (case l18 => k_is)
    (case c18 => k_is)
    (case k18 => k_is)
    (case a19 => k_is)
    (case l19 => k_is)
    (case c19 => k_is)
    (case k19 => k_is)
    (case a20 => k_is)
    (case l20 => k_is)
    (case c20 => k_is)
    (case k20 => k_is)
    (case a21 => k_is)
    (case l21 => k_is)
    (case c21 => k_is)
    (case k21 => k_is)
    (case a22 => k_is)
    (case l22 => k_is)
    (case c22 => k_is)
    (case k22 => k_is)
    (case a23 => k_is)
    (case l23 => k_is)
    (case c23 => k_is)
    (case k23 => k_is)
    (case a24 => k_is)
    (case l24 => k_is)
    (case c24 => k_is)
    (case k24 => k_is)
    (case a25 => k_is)
    (case l25 => k_is)
    (case c25 => k_is)
    (case k25 => k_is)
    (case a26 => k_is)
    (case l26 => k_is)
    (case c26 => k_is)
    (case k26 => k_is)
    (case a27 => k_is)
    (case l27 => k_is)
    (case c27 => k_is)
    (case k27 => k_is)
    (case a28 => k_is)
    (case l28 => k_is)
    (case c28 => k_is)
    (case k28 => k_is)
    (case a29 => k_is)
    (case l29 => k_is)
    (case c29 => k_is)
    (case k29 => k_is)
    (case a30 => k_is)
    (case l30 => k_is)
    (case c30 => k_is)
    (case k30 => k_is)
    (case a31 => k_is)
    (case l31 => k_is)
    (case c31 => k_is)
    (case k31 => k_is)
    (case a32 => k_is)
    (case l32 => k_is)
    (case c32 => k_is)
    (case k32 => k_is)
    (case a33 => k_is)
    (case l33 => k_is)
    (case c33 => k_is)
    (case k33 => k_is)
    (case a34 => k_is)
    (case l34 => k_is)
    (case c34 => k_is)
    (case k34 => k_is)
    (case a35 => k_is)
    (case l35 => k_is)
    (case c35 => k_is)
    (case k35 => k_is)
    (case a36 => k_is)
    (case l36 => k_is)
    (case c36 => k_is)
    (case k36 => k_is)
    (case a37 => k_is)
    (case l37 => k_is)
    (case c37 => k_is)
    (case k37 => k_is)
    (case a38 => k_is)
    (case l38 => k_is)
    (case c38 => k_is)
    (case k38 => k_is)
    (case a39 => k_is)
    (case l39 => k_is)
    (case c39 => k_is)
    (case k39 => k_is)
    (case a40 => k_is)
    (case l40 => k_is)
    (case c40 => k_is)
    (case k40 => k_is)
    (case a41 => k_is)
    (case l41 => k_is)
    (case c41 => k_is)
    (case k41 => k_is)
    (case cg0 => k_is)
    (case cg1 => k_is)
    (case cg2 => k_is)
    (case cg3 => k_is)
    (case xc3 => k_is)
    (case xm3 => decide +kernel)
    (case xs3 => k_is)
    (case xe3 => k_is)
    (case xt3 => k_is)
    (case xk3 => k_is)
    (case ii3 => k_is)
    (case it3 => k_is)
    (case il3 => k_is)
    (case ic3 => k_is)
    (case ik3 => k_is)
    (case xga3 => k_is)
    (case xgg3 => k_is)
    (case xhd3 => k_is)
    (case xcl3 => k_is)
    (case xhn3 => k_is)
    (case xht3 => k_is)
    (case xhm3 => k_is)
    (case xss3 => first | rfl | k_is)
    (case no3_at => k_is)
    (case no3_word => k_is)
    (case kt3_LedError => first | kit_is | k_is | rfl)
    (case kt3_PaperError => first | kit_is | k_is | rfl)
    (case kt3_ValueError => first | kit_is | k_is | rfl)
    (case kt3_WebError => first | kit_is | k_is | rfl)
    (case n_ValueError => k_is)
    (case n_abs => k_is)
    (case n_all => k_is)
    (case n_bool => k_is)
    (case n_enumerate => k_is)
    (case n_int => k_is)
    (case n_isinstance => k_is)
    (case n_len => k_is)
    (case n_list => k_is)
    (case n_max => k_is)
    (case n_min => k_is)
    (case n_range => k_is)
    (case n_set => k_is)
    (case n_sorted => k_is)
    (case n_str => k_is)
    (case n_tuple => k_is)
    (case n_zip => k_is)
    (case i_gcd => k_is)
