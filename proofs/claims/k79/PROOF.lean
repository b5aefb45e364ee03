import PyProof.Rows.All
import Wide.All
import OpenK.AllK
import Wide.FinOn
import HandS.ForMost
import HandS.ForExc
import HandS.Wide
import HandS.Gcd
import HandS.IsInst
import HandS.Zip
import HandS.CallSlots
import HandS.Evl
import HandS.ExcCtx
import HandS.Style
import HandS.Text
import KE.GoesMore
import KE.GoesZip
import KE.GoesEnum
import PyProof.ReprRoads
import HandS.Deep
import HandS.More
import HandS.Defaults
import HandS.MakeKwOnly
import HandS.ExcOwn
import HandS.ExcIs
import HandS.SetFor
import HandS.Dict
import HandS.HotCalls
import KE.KDictZip
import HandS.OwnIter
import PySem.Challenge.RW_surehedge_k79_sums_of_lines
set_option Elab.async false
set_option linter.all false
set_option maxRecDepth 100000
set_option maxHeartbeats 4000000
namespace Sf
open PySem PySem.Spec PyProof.Rows L2
open Evl (Ex)

abbrev D := PyData
/-- an error: the name of its class, its fields -/
structure Exn where
  c : Str
  fs : List (Str × D)
/-- what an expression gives -/
inductive R (α : Type) where
  | ok (a : α)
  | ex (e : Exn)
  | no
def R.bind {α β : Type} : R α → (α → R β) → R β
  | .ok a, f => f a
  | .ex e, _ => .ex e
  | .no, _ => .no
/-- a slot: nothing known; data; a list that is the frame's alone -/
inductive En where
  | un
  | v (d : D)
  | o (ds : List D)
  | m (ds : List D)
  | x (a : Addr)
abbrev Ev := List En
/-- what a statement gives -/
inductive Fl where
  | nx (s : Ev)
  | rt (d : D)
  | rl (ds : List D)
  | rm (d : D) (ds : List D)
  | bk (s : Ev)
  | ct (s : Ev)
  | ex (e : Exn) (s : Ev)
  | no

/-! ### baseline and heap -/
structure Ext (B H B' H' : Hp) : Prop where
  b : Ex B B'
  h : Ex H H'
  s : Ex B' H'
  o : ∀ p u, H p = some u → B p = none → B' p = none
theorem Ext.refl {B H : Hp} (h : Ex B H) : Ext B H B H := ⟨Ex.refl B, Ex.refl H, h, fun _ _ _ n => n⟩
theorem Ext.trans {B H B1 H1 B2 H2 : Hp} (x : Ext B H B1 H1) (y : Ext B1 H1 B2 H2) : Ext B H B2 H2 :=
  ⟨x.b.trans y.b, x.h.trans y.h, y.s, fun p u a n => y.o p u (x.h p u a) (x.o p u a n)⟩
theorem ex_none {B H : Hp} (e : Ex B H) {p : Addr} (h : H p = none) : B p = none := Evl.fresh_back e h
theorem Ext.new {B H B1 H1 : Hp} {p : Addr} {o : HO} (x : Ext B H B1 H1) (h : H1 p = none) : Ext B H (upd B1 p o) (upd H1 p o) := by
  have hb : B1 p = none := ex_none x.s h
  refine ⟨x.b.trans (Ex.new hb), x.h.trans (Ex.new h), fun a u e => ?_, fun a u ea na => ?_⟩
  · by_cases z : a = p
    · subst z
      rw [upd_same] at e ⊢
      exact e
    · rw [upd_ne z] at e ⊢
      exact x.s a u e
  · have z : a ≠ p := fun z => by
      subst z
      rw [x.h a u ea] at h
      cases h
    rw [upd_ne z]
    exact x.o a u ea na
/-- a new list that is no part of the baseline yet -/
theorem Ext.side {B H B1 H1 : Hp} {p : Addr} {o : HO} (x : Ext B H B1 H1) (h : H p = none) (hb : B1 p = none) : Ext B H B1 (upd H1 p o) :=
  ⟨x.b, fun a u e => by
    rw [upd_ne (ne_of_none e h)]
    exact x.h a u e, fun a u e => by
    rw [upd_ne (ne_of_none e hb)]
    exact x.s a u e, x.o⟩

section
variable {K : PySem.W.Frag}
theorem sql_ex {H H' : Hp} {a : Addr} {xs : List V} (e : Ex H H') (h : SqL K H a xs) : SqL K H' a xs := Evl.ex_l e h
theorem sqt_ex {H H' : Hp} {a : Addr} {xs : List V} (e : Ex H H') (h : SqT K H a xs) : SqT K H' a xs := Evl.ex_t e h
mutual
theorem Dp.ex {H H' : Hp} (e : Ex H H') : ∀ (d : D) (v : V), Dp K H v d → Dp K H' v d
  | .none, _, h => by cases h; exact .non
  | .bool b, _, h => by cases h; exact .bl b
  | .int i, _, h => by cases h; exact .int i
  | .str x, _, h => by cases h; exact .str x
  | .list ds, _, h => by
    cases h with
    | lst hs ha => exact .lst (sql_ex e hs) (DpAll.ex e ds _ ha)
  | .tuple ds, _, h => by
    cases h with
    | tup hs ha => exact .tup (sqt_ex e hs) (DpAll.ex e ds _ ha)
  | .dict _, _, h => by cases h
theorem DpAll.ex {H H' : Hp} (e : Ex H H') : ∀ (ds : List D) (vs : List V), DpAll K H vs ds → DpAll K H' vs ds
  | [], _, h => by cases h; exact .nil
  | d :: ds, _, h => by
    cases h with
    | cons h1 h2 => exact .cons (Dp.ex e d _ h1) (DpAll.ex e ds _ h2)
end
theorem DpAll.len {H : Hp} : ∀ {ds : List D} {vs : List V}, DpAll K H vs ds → vs.length = ds.length
  | [], _, h => by cases h; rfl
  | d :: ds, _, h => by
    cases h with
    | cons _ h2 => simp [DpAll.len h2]
theorem DpAll.get {H : Hp} : ∀ {ds : List D} {vs : List V} {i : Nat} {d : D}, DpAll K H vs ds → ds[i]? = some d → ∃ v, vs[i]? = some v ∧ Dp K H v d
  | [], _, _, _, _, e => by simp at e
  | d :: ds, _, 0, _, h, e => by
    cases h with
    | cons h1 _ =>
      simp at e
      subst e
      exact ⟨_, rfl, h1⟩
  | d :: ds, _, i + 1, _, h, e => by
    cases h with
    | cons _ h2 =>
      obtain ⟨v, e1, e2⟩ := DpAll.get (i := i) h2 (by simpa using e)
      exact ⟨v, by simpa using e1, e2⟩
theorem DpAll.getV {H : Hp} : ∀ {ds : List D} {vs : List V} {i : Nat} {v : V}, DpAll K H vs ds → vs[i]? = some v → ∃ d, ds[i]? = some d ∧ Dp K H v d
  | [], _, _, _, h, e => by cases h; simp at e
  | d :: ds, _, 0, _, h, e => by
    cases h with
    | cons h1 _ =>
      simp at e
      subst e
      exact ⟨_, rfl, h1⟩
  | d :: ds, _, i + 1, _, h, e => by
    cases h with
    | cons _ h2 =>
      obtain ⟨v, e1, e2⟩ := DpAll.getV (i := i) h2 (by simpa using e)
      exact ⟨v, by simpa using e1, e2⟩
theorem DpAll.append {H : Hp} : ∀ {ds : List D} {vs : List V} {es : List D} {ws : List V}, DpAll K H vs ds → DpAll K H ws es → DpAll K H (vs ++ ws) (ds ++ es)
  | [], _, _, _, h, k => by cases h; exact k
  | d :: ds, _, _, _, h, k => by
    cases h with
    | cons h1 h2 => exact .cons h1 (DpAll.append h2 k)
theorem DpAll.set {H : Hp} {v : V} {d : D} (hd : Dp K H v d) : ∀ {ds : List D} {vs : List V} (i : Nat), DpAll K H vs ds → DpAll K H (vs.set i v) (ds.set i d)
  | [], _, _, h => by cases h; exact .nil
  | _ :: _, _, 0, h => by
    cases h with
    | cons _ h2 => exact .cons hd h2
  | _ :: _, _, i + 1, h => by
    cases h with
    | cons h1 h2 => exact .cons h1 (DpAll.set hd i h2)
theorem DpAll.take {H : Hp} : ∀ {ds : List D} {vs : List V} (n : Nat), DpAll K H vs ds → DpAll K H (vs.take n) (ds.take n)
  | _, _, 0, _ => .nil
  | [], _, _ + 1, h => by cases h; exact .nil
  | _ :: _, _, n + 1, h => by
    cases h with
    | cons h1 h2 => exact .cons h1 (DpAll.take n h2)
theorem DpAll.drop {H : Hp} : ∀ {ds : List D} {vs : List V} (n : Nat), DpAll K H vs ds → DpAll K H (vs.drop n) (ds.drop n)
  | _, _, 0, h => h
  | [], _, _ + 1, h => by cases h; exact .nil
  | _ :: _, _, n + 1, h => by
    cases h with
    | cons h1 h2 => exact DpAll.drop n h2
theorem DpAll.rev {H : Hp} : ∀ {ds : List D} {vs : List V}, DpAll K H vs ds → DpAll K H vs.reverse ds.reverse
  | [], _, h => by cases h; exact .nil
  | _ :: _, _, h => by
    cases h with
    | cons h1 h2 =>
      rw [List.reverse_cons, List.reverse_cons]
      exact DpAll.append (DpAll.rev h2) (.cons h1 .nil)
theorem dp_ints {H : Hp} : ∀ ns : List Int, DpAll K H (ns.map V.int) (ns.map PyData.int)
  | [] => .nil
  | n :: r => .cons (.int n) (dp_ints r)
end

/-! ### the frame -/
/-- the list that was handed in to be changed, at g; slots that hold a known address -/
structure Pin (K : PySem.W.Frag) (g : Addr) (H0 B H : Hp) (σ : L2.St) (s : Ev) : Prop where
  lent : ∀ (i : Nat) (ds : List D), s[i]? = some (.m ds) → ∃ (vs : List V), σ[i]? = some (some (.ref g)) ∧ H g = some (.lst vs) ∧ B g = none ∧ H0 g = none ∧ DpAll K B vs ds
  far : ∀ (i j : Nat) (ds es : List D), s[i]? = some (.m ds) → s[j]? = some (.o es) → σ[j]? ≠ some (some (.ref g))
  one : ∀ (i j : Nat) (ds es : List D), s[i]? = some (.m ds) → s[j]? = some (.m es) → i = j
  adr : ∀ (i : Nat) (a : Addr), s[i]? = some (.x a) → σ[i]? = some (some (.ref a))
section
variable {K : PySem.W.Frag} {g : Addr} {H0 B H B1 H1 : Hp} {σ : L2.St} {s : Ev}
theorem Pin.more (x : Pin K g H0 B H σ s) (e : Ext B H B1 H1) : Pin K g H0 B1 H1 σ s :=
  ⟨fun i ds h => let ⟨vs, a, b, c, f, d⟩ := x.lent i ds h; ⟨vs, a, e.h g _ b, e.o g _ b c, f, DpAll.ex e.b _ _ d⟩, x.far, x.one, x.adr⟩
theorem get_set {α : Type} {L : List α} {i m : Nat} {y z : α} (h : (L.set i y)[m]? = some z) : (i = m ∧ y = z) ∨ (i ≠ m ∧ L[m]? = some z) := by
  rw [List.getElem?_set] at h
  split at h
  · rename_i hij
    split at h
    · exact .inl ⟨hij, Option.some.inj h⟩
    · cases h
  · rename_i hij
    exact .inr ⟨hij, h⟩
/-- a slot changed to something that is neither of the kinds -/
theorem Pin.set {i : Nat} {y : En} {o : Option V} (x : Pin K g H0 B H σ s) (hm : ∀ ds, y ≠ .m ds) (hx : ∀ a, y ≠ .x a) (ho : ∀ ds, y = .o ds → ∀ (j : Nat) (es : List D), s[j]? = some (.m es) → o ≠ some (.ref g)) : Pin K g H0 B H (σ.set i o) (s.set i y) := by
  refine ⟨fun j ds h => ?_, fun j k ds es h1 h2 h3 => ?_, fun j k ds es h1 h2 => ?_, fun j a h => ?_⟩
  · rcases get_set h with ⟨_, e⟩ | ⟨n, e⟩
    · exact absurd e (hm ds)
    · rw [List.getElem?_set_ne n]
      exact x.lent j ds e
  · rcases get_set h1 with ⟨_, e⟩ | ⟨n, e⟩
    · exact absurd e (hm ds)
    · rcases get_set h2 with ⟨q, e2⟩ | ⟨n2, e2⟩
      · subst q
        rw [List.getElem?_set] at h3
        rw [if_pos rfl] at h3
        split at h3
        · exact ho es e2 j ds e (Option.some.inj h3)
        · cases h3
      · rw [List.getElem?_set_ne n2] at h3
        exact x.far j k ds es e e2 h3
  · rcases get_set h1 with ⟨_, e⟩ | ⟨n, e⟩
    · exact absurd e (hm ds)
    · rcases get_set h2 with ⟨_, e2⟩ | ⟨n2, e2⟩
      · exact absurd e2 (hm es)
      · exact x.one j k ds es e e2
  · rcases get_set h with ⟨_, e⟩ | ⟨n, e⟩
    · exact absurd e (hx a)
    · rw [List.getElem?_set_ne n]
      exact x.adr j a e
theorem Pin.side {a : Addr} {o : HO} (x : Pin K g H0 B H σ s) (ne : ∀ (j : Nat) (es : List D), s[j]? = some (.m es) → a ≠ g) : Pin K g H0 B (upd H a o) σ s :=
  ⟨fun j fs h => let ⟨vs, p, b, c, f, d⟩ := x.lent j fs h; ⟨vs, p, by rw [upd_ne (Ne.symm (ne j fs h))]; exact b, c, f, d⟩, x.far, x.one, x.adr⟩
/-- an own list changed in place -/
theorem Pin.write {i : Nat} {p : Addr} {ws : List V} {ds es : List D} (x : Pin K g H0 B H σ s) (hi : s[i]? = some (.o ds)) (hσ : σ[i]? = some (some (.ref p))) : Pin K g H0 B (upd H p (.lst ws)) σ (s.set i (.o es)) := by
  refine ⟨fun j fs h => ?_, fun j k fs gs h1 h2 h3 => ?_, fun j k fs gs h1 h2 => ?_, fun j a h => ?_⟩
  · rcases get_set h with ⟨_, e⟩ | ⟨n, e⟩
    · cases e
    · obtain ⟨vs, a, b, c, f, d⟩ := x.lent j fs e
      have ne : g ≠ p := fun z => by
        subst z
        exact x.far j i fs ds e hi hσ
      exact ⟨vs, a, by rw [upd_ne ne]; exact b, c, f, d⟩
  · rcases get_set h1 with ⟨_, e⟩ | ⟨n, e⟩
    · cases e
    · rcases get_set h2 with ⟨q, _⟩ | ⟨_, e2⟩
      · subst q
        exact x.far j i fs ds e hi h3
      · exact x.far j k fs gs e e2 h3
  · rcases get_set h1 with ⟨_, e⟩ | ⟨n, e⟩
    · cases e
    · rcases get_set h2 with ⟨_, e2⟩ | ⟨_, e2⟩
      · cases e2
      · exact x.one j k fs gs e e2
  · rcases get_set h with ⟨_, e⟩ | ⟨n, e⟩
    · cases e
    · exact x.adr j a e
/-- an own list becomes data -/
theorem Pin.drop {i : Nat} {p : Addr} {vs : List V} {ds : List D} (x : Pin K g H0 B H σ s) (hi : s[i]? = some (.o ds)) (hσ : σ[i]? = some (some (.ref p))) (eb : Ex B (upd B p (.lst vs))) : Pin K g H0 (upd B p (.lst vs)) H σ (s.set i (.v (.list ds))) := by
  refine ⟨fun j fs h => ?_, fun j k fs gs h1 h2 h3 => ?_, fun j k fs gs h1 h2 => ?_, fun j a h => ?_⟩
  · rcases get_set h with ⟨_, e⟩ | ⟨n, e⟩
    · cases e
    · obtain ⟨vs, a, b, c, f, d⟩ := x.lent j fs e
      have ne : g ≠ p := fun z => by
        subst z
        exact x.far j i fs ds e hi hσ
      exact ⟨vs, a, b, by rw [upd_ne ne]; exact c, f, DpAll.ex eb _ _ d⟩
  · rcases get_set h1 with ⟨_, e⟩ | ⟨n, e⟩
    · cases e
    · rcases get_set h2 with ⟨q, e2⟩ | ⟨_, e2⟩
      · cases e2
      · exact x.far j k fs gs e e2 h3
  · rcases get_set h1 with ⟨_, e⟩ | ⟨n, e⟩
    · cases e
    · rcases get_set h2 with ⟨_, e2⟩ | ⟨_, e2⟩
      · cases e2
      · exact x.one j k fs gs e e2
  · rcases get_set h with ⟨_, e⟩ | ⟨n, e⟩
    · cases e
    · exact x.adr j a e
end
structure ER (K : PySem.W.Frag) (g : Addr) (B0 H0 B H : Hp) (σ : L2.St) (s : Ev) : Prop where
  ext : Ext B0 H0 B H
  len : σ.length = s.length
  val : ∀ (i : Nat) (d : D), s[i]? = some (.v d) → ∃ v, σ[i]? = some (some v) ∧ Dp K B v d
  own : ∀ (i : Nat) (ds : List D), s[i]? = some (.o ds) → ∃ (p : Addr) (vs : List V), σ[i]? = some (some (.ref p)) ∧ H p = some (.lst vs) ∧ B p = none ∧ H0 p = none ∧ DpAll K B vs ds
  dis : ∀ (i j : Nat) (ds es : List D) (p : Addr), s[i]? = some (.o ds) → s[j]? = some (.o es) → σ[i]? = some (some (.ref p)) → σ[j]? = some (some (.ref p)) → i = j
  pin : Pin K g H0 B H σ s
section
variable {K : PySem.W.Frag} {g : Addr} {B0 H0 B H B1 H1 : Hp} {σ : L2.St} {s : Ev}
theorem ER.more (x : ER K g B0 H0 B H σ s) (e : Ext B H B1 H1) : ER K g B0 H0 B1 H1 σ s :=
  ⟨x.ext.trans e, x.len, fun i d h => let ⟨v, a, b⟩ := x.val i d h; ⟨v, a, Dp.ex e.b _ _ b⟩,
    fun i ds h => let ⟨p, vs, a, b, c, f, g⟩ := x.own i ds h; ⟨p, vs, a, e.h p _ b, e.o p _ b c, f, DpAll.ex e.b _ _ g⟩, x.dis, x.pin.more e⟩
theorem ER.here (x : ER K g B0 H0 B H σ s) : Ext B H B H := Ext.refl x.ext.s
/-- the baseline as it stands is the new floor -/
theorem ER.floor (x : ER K g B0 H0 B H σ s) : ER K g B H0 B H σ s :=
  ⟨⟨Ex.refl B, x.ext.h, x.ext.s, fun _ _ _ n => n⟩, x.len, x.val, x.own, x.dis, x.pin⟩
theorem ER.unfloor {σ1 : L2.St} {s1 : Ev} (x : Ext B0 H0 B H) (y : ER K g B H0 B1 H1 σ1 s1) : ER K g B0 H0 B1 H1 σ1 s1 :=
  ⟨⟨x.b.trans y.ext.b, y.ext.h, y.ext.s, fun p u a n => y.ext.o p u a (x.o p u a n)⟩, y.len, y.val, y.own, y.dis, y.pin⟩
/-- data stored -/
theorem ER.set {i : Nat} {v : V} {d : D} (x : ER K g B0 H0 B H σ s) (hd : Dp K B v d) : ER K g B0 H0 B H (σ.set i (some v)) (s.set i (.v d)) := by
  refine ⟨x.ext, by simp [x.len], fun j e h => ?_, fun j ds h => ?_, fun j k ds es p h1 h2 h3 h4 => ?_, x.pin.set (fun _ z => by cases z) (fun _ z => by cases z) (fun _ z => by cases z)⟩
  · rw [List.getElem?_set] at h ⊢
    split at h
    · rename_i hij
      subst hij
      split at h
      · rename_i hl
        have hl' : i < σ.length := by rw [x.len]; exact hl
        simp only [Option.some.injEq, En.v.injEq] at h
        subst h
        rw [if_pos rfl, if_pos hl']
        exact ⟨v, rfl, hd⟩
      · cases h
    · rename_i hij
      rw [if_neg hij]
      exact x.val j e h
  · rw [List.getElem?_set] at h ⊢
    split at h
    · split at h
      · cases h
      · cases h
    · rename_i hij
      rw [if_neg hij]
      exact x.own j ds h
  · have ne : ∀ {m : Nat} {fs : List D}, (s.set i (.v d))[m]? = some (.o fs) → i ≠ m ∧ s[m]? = some (.o fs) := fun {m fs} h => by
      rw [List.getElem?_set] at h
      split at h
      · split at h <;> cases h
      · rename_i hij
        exact ⟨hij, h⟩
    obtain ⟨n1, g1⟩ := ne h1
    obtain ⟨n2, g2⟩ := ne h2
    rw [List.getElem?_set_ne n1] at h3
    rw [List.getElem?_set_ne n2] at h4
    exact x.dis j k ds es p g1 g2 h3 h4
/-- a new list of one's own stored: p is not yet another slot's -/
theorem ER.setO {i : Nat} {p : Addr} {vs : List V} {ds : List D} (x : ER K g B0 H0 B H σ s) (hp : H p = some (.lst vs)) (hb : B p = none) (h0 : H0 p = none) (hd : DpAll K B vs ds)
    (new : ∀ (j : Nat) (es : List D), s[j]? = some (.o es) → σ[j]? ≠ some (some (.ref p))) (newM : ∀ (j : Nat) (es : List D), s[j]? = some (.m es) → p ≠ g) : ER K g B0 H0 B H (σ.set i (some (.ref p))) (s.set i (.o ds)) := by
  refine ⟨x.ext, by simp [x.len], fun j e h => ?_, fun j fs h => ?_, fun j k fs es q h1 h2 h3 h4 => ?_, x.pin.set (fun _ z => by cases z) (fun _ z => by cases z) (fun _ _ j es h z => newM j es h (by simpa using z))⟩
  · rw [List.getElem?_set] at h ⊢
    split at h
    · split at h <;> cases h
    · rename_i hij
      rw [if_neg hij]
      exact x.val j e h
  · rw [List.getElem?_set] at h ⊢
    split at h
    · rename_i hij
      subst hij
      split at h
      · rename_i hl
        have hl' : i < σ.length := by rw [x.len]; exact hl
        simp only [Option.some.injEq, En.o.injEq] at h
        subst h
        rw [if_pos rfl, if_pos hl']
        exact ⟨p, vs, rfl, hp, hb, h0, hd⟩
      · cases h
    · rename_i hij
      rw [if_neg hij]
      exact x.own j fs h
  · have sp : ∀ {m : Nat} {fs : List D}, (s.set i (.o ds))[m]? = some (.o fs) → i = m ∨ (i ≠ m ∧ s[m]? = some (.o fs)) := fun {m fs} h => by
      rw [List.getElem?_set] at h
      split at h
      · rename_i hij
        exact .inl hij
      · rename_i hij
        exact .inr ⟨hij, h⟩
    have at_i : ∀ {q : Addr}, (σ.set i (some (.ref p)))[i]? = some (some (.ref q)) → q = p := fun {q} h => by
      rw [List.getElem?_set] at h
      rw [if_pos rfl] at h
      split at h
      · simp only [Option.some.injEq, V.ref.injEq] at h
        exact h.symm
      · cases h
    rcases sp h1 with e1 | ⟨n1, g1⟩ <;> rcases sp h2 with e2 | ⟨n2, g2⟩
    · exact e1.symm.trans e2
    · subst e1
      have := at_i h3
      subst this
      rw [List.getElem?_set_ne n2] at h4
      exact absurd h4 (new k es g2)
    · subst e2
      have := at_i h4
      subst this
      rw [List.getElem?_set_ne n1] at h3
      exact absurd h3 (new j fs g1)
    · rw [List.getElem?_set_ne n1] at h3
      rw [List.getElem?_set_ne n2] at h4
      exact x.dis j k fs es q g1 g2 h3 h4
/-- the own list of slot i is changed in place -/
theorem ER.write {i : Nat} {p : Addr} {vs ws : List V} {ds es : List D} (x : ER K g B0 H0 B H σ s) (hi : s[i]? = some (.o ds)) (hσ : σ[i]? = some (some (.ref p))) (hp : H p = some (.lst vs)) (hb : B p = none) (h0 : H0 p = none) (hd : DpAll K B ws es) :
    ER K g B0 H0 B (upd H p (.lst ws)) σ (s.set i (.o es)) := by
  have hlt : i < s.length := (List.getElem?_eq_some_iff.mp hi).1
  refine ⟨x.ext.side h0 hb, by simp [x.len], fun j e h => ?_, fun j fs h => ?_, fun j k fs gs q h1 h2 h3 h4 => ?_, x.pin.write hi hσ⟩
  · rw [List.getElem?_set] at h
    split at h
    · first | (split at h <;> cases h) | cases h
    · exact x.val j e h
  · rw [List.getElem?_set] at h
    split at h
    · rename_i hij
      subst hij
      try rw [if_pos hlt] at h
      simp only [Option.some.injEq, En.o.injEq] at h
      subst h
      exact ⟨p, ws, hσ, upd_same, hb, h0, hd⟩
    · rename_i hij
      obtain ⟨q, us, a, b, c, f, g⟩ := x.own j fs h
      have hq : q ≠ p := fun z => by
        subst z
        exact hij (x.dis i j ds fs q hi h hσ a)
      exact ⟨q, us, a, by rw [upd_ne hq]; exact b, c, f, g⟩
  · have sp : ∀ {m : Nat} {fs : List D}, (s.set i (.o es))[m]? = some (.o fs) → ∃ gs, s[m]? = some (.o gs) := fun {m fs} h => by
      rw [List.getElem?_set] at h
      split at h
      · rename_i hij
        subst hij
        exact ⟨_, hi⟩
      · exact ⟨_, h⟩
    obtain ⟨_, g1⟩ := sp h1
    obtain ⟨_, g2⟩ := sp h2
    exact x.dis j k _ _ q g1 g2 h3 h4
/-- an own list becomes data -/
theorem ER.drop {i : Nat} {ds : List D} (x : ER K g B0 H0 B H σ s) (hi : s[i]? = some (.o ds)) : ∃ B1, ER K g B0 H0 B1 H σ (s.set i (.v (.list ds))) ∧ Ex B B1 := by
  obtain ⟨p, vs, hσ, hp, hb, h0, hd⟩ := x.own i ds hi
  have hlt : i < s.length := (List.getElem?_eq_some_iff.mp hi).1
  have eb : Ex B (upd B p (.lst vs)) := Ex.new hb
  refine ⟨upd B p (.lst vs), ⟨⟨x.ext.b.trans eb, x.ext.h, fun a u e => ?_, fun a u ea na => ?_⟩, by simp [x.len], fun j e h => ?_, fun j fs h => ?_, fun j k fs gs q h1 h2 h3 h4 => ?_, x.pin.drop hi hσ eb⟩, eb⟩
  · by_cases z : a = p
    · subst z
      rw [upd_same] at e
      rw [← e]
      exact hp
    · rw [upd_ne z] at e
      exact x.ext.s a u e
  · have z : a ≠ p := fun z => by
      subst z
      rw [ea] at h0
      cases h0
    rw [upd_ne z]
    exact x.ext.o a u ea na
  · rw [List.getElem?_set] at h
    split at h
    · rename_i hij
      subst hij
      try rw [if_pos hlt] at h
      simp only [Option.some.injEq, En.v.injEq] at h
      subst h
      exact ⟨.ref p, hσ, .lst (SqL.of upd_same) (DpAll.ex eb _ _ hd)⟩
    · obtain ⟨v, a, b⟩ := x.val j e h
      exact ⟨v, a, Dp.ex eb _ _ b⟩
  · rw [List.getElem?_set] at h
    split at h
    · first | (split at h <;> cases h) | cases h
    · rename_i hij
      obtain ⟨q, us, a, b, c, f, g⟩ := x.own j fs h
      have hq : q ≠ p := fun z => by
        subst z
        exact hij (x.dis i j ds fs q hi h hσ a)
      exact ⟨q, us, a, b, by rw [upd_ne hq]; exact c, f, DpAll.ex eb _ _ g⟩
  · have sp : ∀ {m : Nat} {fs : List D}, (s.set i (.v (.list ds)))[m]? = some (.o fs) → s[m]? = some (.o fs) := fun {m fs} h => by
      rw [List.getElem?_set] at h
      split at h
      · first | (split at h <;> cases h) | cases h
      · exact h
    exact x.dis j k _ _ q (sp h1) (sp h2) h3 h4
/-- the handed-in list is changed in place -/
theorem ER.writeM {i : Nat} {ws : List V} {ds es : List D} (x : ER K g B0 H0 B H σ s) (hi : s[i]? = some (.m ds)) (hd : DpAll K B ws es) : ER K g B0 H0 B (upd H g (.lst ws)) σ (s.set i (.m es)) := by
  obtain ⟨vs, hσ, hp, hb, h0, _⟩ := x.pin.lent i ds hi
  refine ⟨x.ext.side h0 hb, by simp [x.len], fun j e h => ?_, fun j fs h => ?_, fun j k fs gs q h1 h2 h3 h4 => ?_, ⟨fun j fs h => ?_, fun j k fs gs h1 h2 h3 => ?_, fun j k fs gs h1 h2 => ?_, fun j a h => ?_⟩⟩
  · rcases get_set h with ⟨_, e⟩ | ⟨_, e⟩
    · cases e
    · exact x.val j _ e
  · rcases get_set h with ⟨_, e⟩ | ⟨_, e⟩
    · cases e
    · obtain ⟨q, us, a, b, c, f, d⟩ := x.own j fs e
      have hq : q ≠ g := fun z => by
        subst z
        exact x.pin.far i j ds fs hi e a
      exact ⟨q, us, a, by rw [upd_ne hq]; exact b, c, f, d⟩
  · rcases get_set h1 with ⟨_, e⟩ | ⟨_, e⟩
    · cases e
    · rcases get_set h2 with ⟨_, e2⟩ | ⟨_, e2⟩
      · cases e2
      · exact x.dis j k fs gs q e e2 h3 h4
  · rcases get_set h with ⟨q, e⟩ | ⟨n, e⟩
    · cases e
      subst q
      exact ⟨ws, hσ, upd_same, hb, h0, hd⟩
    · exact absurd (x.pin.one i j ds fs hi e) n
  · rcases get_set h2 with ⟨_, e2⟩ | ⟨_, e2⟩
    · cases e2
    · exact x.pin.far i k ds gs hi e2 h3
  · rcases get_set h1 with ⟨q, _⟩ | ⟨n, e⟩
    · rcases get_set h2 with ⟨q2, _⟩ | ⟨n2, e2⟩
      · exact q.symm.trans q2
      · exact absurd (x.pin.one i k ds gs hi e2) n2
    · exact absurd (x.pin.one i j ds fs hi e) n
  · rcases get_set h with ⟨_, e⟩ | ⟨_, e⟩
    · cases e
    · exact x.pin.adr j a e
/-- the heap without one place -/
def hole (p : Addr) (H : Hp) : Hp := fun a => if a = p then none else H a
theorem hole_ne {p a : Addr} {H : Hp} (h : a ≠ p) : hole p H a = H a := if_neg h
theorem hole_some {p a : Addr} {H : Hp} {u : HO} (h : hole p H a = some u) : a ≠ p ∧ H a = some u := by
  unfold hole at h
  split at h
  · cases h
  · rename_i n
    exact ⟨n, h⟩
/-- another def has changed the own list of slot i -/
theorem ER.callee {i : Nat} {p : Addr} {vs us : List V} {ds es : List D} (x : ER K g B0 H0 B H σ s) (hi : s[i]? = some (.o ds)) (hσ : σ[i]? = some (some (.ref p))) (hp : H p = some (.lst vs)) (hb : B p = none) (h0 : H0 p = none)
    (e : Ext B (hole p H) B1 H1) (h1 : H1 p = some (.lst us)) (hb1 : B1 p = none) (hd : DpAll K B1 us es) : ER K g B0 H0 B1 H1 σ (s.set i (.o es)) := by
  have up : ∀ a u, a ≠ p → H a = some u → H1 a = some u := fun a u n h => e.h a u (by rw [hole_ne n]; exact h)
  have un : ∀ a u, a ≠ p → H a = some u → B a = none → B1 a = none := fun a u n h => e.o a u (by rw [hole_ne n]; exact h)
  refine ⟨⟨x.ext.b.trans e.b, fun a u h => ?_, e.s, fun a u h n => ?_⟩, by simp [x.len], fun j d h => ?_, fun j fs h => ?_, fun j k fs gs q h1 h2 h3 h4 => ?_, ⟨fun j fs h => ?_, fun j k fs gs h1 h2 h3 => ?_, fun j k fs gs h1 h2 => ?_, fun j a h => ?_⟩⟩
  · have n : a ≠ p := fun z => by
      subst z
      rw [h0] at h
      cases h
    exact up a u n (x.ext.h a u h)
  · have n2 : a ≠ p := fun z => by
      subst z
      rw [h0] at h
      cases h
    exact un a u n2 (x.ext.h a u h) (x.ext.o a u h n)
  · rcases get_set h with ⟨_, z⟩ | ⟨_, z⟩
    · cases z
    · obtain ⟨v, a, b⟩ := x.val j d z
      exact ⟨v, a, Dp.ex e.b _ _ b⟩
  · rcases get_set h with ⟨q, z⟩ | ⟨n, z⟩
    · cases z
      subst q
      exact ⟨p, us, hσ, h1, hb1, h0, hd⟩
    · obtain ⟨q, ws, a, b, c, f, d⟩ := x.own j fs z
      have hq : q ≠ p := fun y => by
        subst y
        exact n (x.dis i j ds fs q hi z hσ a)
      exact ⟨q, ws, a, up q _ hq b, un q _ hq b c, f, DpAll.ex e.b _ _ d⟩
  · have sp : ∀ {m : Nat} {fs : List D}, (s.set i (.o es))[m]? = some (.o fs) → ∃ gs, s[m]? = some (.o gs) := fun {m fs} h => by
      rcases get_set h with ⟨q, _⟩ | ⟨_, z⟩
      · subst q
        exact ⟨_, hi⟩
      · exact ⟨_, z⟩
    obtain ⟨_, g1⟩ := sp h1
    obtain ⟨_, g2⟩ := sp h2
    exact x.dis j k _ _ q g1 g2 h3 h4
  · rcases get_set h with ⟨_, z⟩ | ⟨n, z⟩
    · cases z
    · obtain ⟨ws, a, b, c, f, d⟩ := x.pin.lent j fs z
      have hq : g ≠ p := fun y => by
        subst y
        exact x.pin.far j i fs ds z hi hσ
      exact ⟨ws, a, up g _ hq b, un g _ hq b c, f, DpAll.ex e.b _ _ d⟩
  · rcases get_set h1 with ⟨_, z⟩ | ⟨_, z⟩
    · cases z
    · rcases get_set h2 with ⟨q, _⟩ | ⟨_, z2⟩
      · subst q
        exact x.pin.far j i fs ds z hi h3
      · exact x.pin.far j k fs gs z z2 h3
  · rcases get_set h1 with ⟨_, z⟩ | ⟨_, z⟩
    · cases z
    · rcases get_set h2 with ⟨_, z2⟩ | ⟨_, z2⟩
      · cases z2
      · exact x.pin.one j k fs gs z z2
  · rcases get_set h with ⟨_, z⟩ | ⟨_, z⟩
    · cases z
    · exact x.pin.adr j a z
/-- another def has changed the handed-in list -/
theorem ER.calleeM {i : Nat} {us : List V} {ds es : List D} (x : ER K g B0 H0 B H σ s) (hi : s[i]? = some (.m ds))
    (e : Ext B (hole g H) B1 H1) (h1 : H1 g = some (.lst us)) (hb1 : B1 g = none) (hd : DpAll K B1 us es) : ER K g B0 H0 B1 H1 σ (s.set i (.m es)) := by
  obtain ⟨vs, hσ, hp, hb, h0, _⟩ := x.pin.lent i ds hi
  have up : ∀ a u, a ≠ g → H a = some u → H1 a = some u := fun a u n h => e.h a u (by rw [hole_ne n]; exact h)
  have un : ∀ a u, a ≠ g → H a = some u → B a = none → B1 a = none := fun a u n h => e.o a u (by rw [hole_ne n]; exact h)
  refine ⟨⟨x.ext.b.trans e.b, fun a u h => ?_, e.s, fun a u h n => ?_⟩, by simp [x.len], fun j d h => ?_, fun j fs h => ?_, fun j k fs gs q h1 h2 h3 h4 => ?_, ⟨fun j fs h => ?_, fun j k fs gs h1 h2 h3 => ?_, fun j k fs gs h1 h2 => ?_, fun j a h => ?_⟩⟩
  · have n : a ≠ g := fun z => by
      subst z
      rw [h0] at h
      cases h
    exact up a u n (x.ext.h a u h)
  · have n2 : a ≠ g := fun z => by
      subst z
      rw [h0] at h
      cases h
    exact un a u n2 (x.ext.h a u h) (x.ext.o a u h n)
  · rcases get_set h with ⟨_, z⟩ | ⟨_, z⟩
    · cases z
    · obtain ⟨v, a, b⟩ := x.val j d z
      exact ⟨v, a, Dp.ex e.b _ _ b⟩
  · rcases get_set h with ⟨_, z⟩ | ⟨n, z⟩
    · cases z
    · obtain ⟨q, ws, a, b, c, f, d⟩ := x.own j fs z
      have hq : q ≠ g := fun y => by
        subst y
        exact x.pin.far i j ds fs hi z a
      exact ⟨q, ws, a, up q _ hq b, un q _ hq b c, f, DpAll.ex e.b _ _ d⟩
  · rcases get_set h1 with ⟨_, z⟩ | ⟨_, z⟩
    · cases z
    · rcases get_set h2 with ⟨_, z2⟩ | ⟨_, z2⟩
      · cases z2
      · exact x.dis j k fs gs q z z2 h3 h4
  · rcases get_set h with ⟨q, z⟩ | ⟨n, z⟩
    · cases z
      subst q
      exact ⟨us, hσ, h1, hb1, h0, hd⟩
    · exact absurd (x.pin.one i j ds fs hi z) n
  · rcases get_set h2 with ⟨_, z2⟩ | ⟨_, z2⟩
    · cases z2
    · exact x.pin.far i k ds gs hi z2 h3
  · rcases get_set h1 with ⟨q, _⟩ | ⟨n, z⟩
    · rcases get_set h2 with ⟨q2, _⟩ | ⟨n2, z2⟩
      · exact q.symm.trans q2
      · exact absurd (x.pin.one i k ds gs hi z2) n2
    · exact absurd (x.pin.one i j ds fs hi z) n
  · rcases get_set h with ⟨_, z⟩ | ⟨_, z⟩
    · cases z
    · exact x.pin.adr j a z
/-- the list that was handed in, at its slot -/
theorem ER.setM {j : Nat} {ys : List V} {ds : List D} (x : ER K g B0 H0 B H σ s) (hp : H g = some (.lst ys)) (hb : B g = none) (h0 : H0 g = none) (hd : DpAll K B ys ds) (hj : j < s.length)
    (no : ∀ (i : Nat) (es : List D), s[i]? ≠ some (.o es) ∧ s[i]? ≠ some (.m es)) : ER K g B0 H0 B H (σ.set j (some (.ref g))) (s.set j (.m ds)) := by
  have at_j : (σ.set j (some (V.ref g)))[j]? = some (some (V.ref g)) := List.getElem?_set_self (by rw [x.len]; exact hj)
  refine ⟨x.ext, by simp [x.len], fun i d h => ?_, fun i es h => ?_, fun i k es fs p h1 _ _ _ => ?_, ⟨fun i es h => ?_, fun i k es fs _ h2 _ => ?_, fun i k es fs h1 h2 => ?_, fun i a h => ?_⟩⟩
  · rcases get_set h with ⟨_, e⟩ | ⟨n, e⟩
    · cases e
    · rw [List.getElem?_set_ne n]
      exact x.val i d e
  · rcases get_set h with ⟨_, e⟩ | ⟨_, e⟩
    · cases e
    · exact absurd e (no i es).1
  · rcases get_set h1 with ⟨_, e⟩ | ⟨_, e⟩
    · cases e
    · exact absurd e (no i es).1
  · rcases get_set h with ⟨q, e⟩ | ⟨_, e⟩
    · cases e
      subst q
      exact ⟨ys, at_j, hp, hb, h0, hd⟩
    · exact absurd e (no i es).2
  · rcases get_set h2 with ⟨_, e⟩ | ⟨_, e⟩
    · cases e
    · exact absurd e (no k fs).1
  · rcases get_set h1 with ⟨q, _⟩ | ⟨_, e⟩
    · rcases get_set h2 with ⟨q2, _⟩ | ⟨_, e2⟩
      · exact q.symm.trans q2
      · exact absurd e2 (no k fs).2
    · exact absurd e (no i es).2
  · rcases get_set h with ⟨_, e⟩ | ⟨n, e⟩
    · cases e
    · rw [List.getElem?_set_ne n]
      exact x.pin.adr i a e
/-- slots forgotten -/
def wipeE (s : Ev) : List Nat → Ev
  | [] => s
  | i :: r => (wipeE s r).set i .un
theorem ER.un {i : Nat} (x : ER K g B0 H0 B H σ s) : ER K g B0 H0 B H (σ.set i none) (s.set i .un) := by
  have ne : ∀ {m : Nat} {z : En}, (s.set i .un)[m]? = some z → z ≠ .un → i ≠ m ∧ s[m]? = some z := fun {m z} h hz => by
    rw [List.getElem?_set] at h
    split at h
    · first
      | (split at h
         · simp only [Option.some.injEq] at h
           exact absurd h.symm hz
         · cases h)
      | (simp only [Option.some.injEq] at h
         exact absurd h.symm hz)
    · rename_i hij
      exact ⟨hij, h⟩
  refine ⟨x.ext, by simp [x.len], fun j e h => ?_, fun j ds h => ?_, fun j k ds es p h1 h2 h3 h4 => ?_, x.pin.set (fun _ z => by cases z) (fun _ z => by cases z) (fun _ z => by cases z)⟩
  · obtain ⟨n1, g⟩ := ne h (by intro z; cases z)
    rw [List.getElem?_set_ne n1]
    exact x.val j e g
  · obtain ⟨n1, g⟩ := ne h (by intro z; cases z)
    rw [List.getElem?_set_ne n1]
    exact x.own j ds g
  · obtain ⟨n1, g1⟩ := ne h1 (by intro z; cases z)
    obtain ⟨n2, g2⟩ := ne h2 (by intro z; cases z)
    rw [List.getElem?_set_ne n1] at h3
    rw [List.getElem?_set_ne n2] at h4
    exact x.dis j k ds es p g1 g2 h3 h4
theorem ER.wipe (x : ER K g B0 H0 B H σ s) : ∀ vs : List Nat, ER K g B0 H0 B H (L2.wipe σ vs) (wipeE s vs)
  | [] => x
  | _ :: r => (ER.wipe x r).un
end
end Sf

namespace Sf
open PySem PySem.Spec PyProof.Rows L2
open Evl (Ex)

/-! ### an error by its class and fields -/
def XRep (mg : Str → Option Value) (K : PySem.W.Frag) (B : Hp) (e : Exn) (cls : Value) (dd : Option Addr) : Prop :=
  mg e.c = some cls ∧ (match e.fs with
    | [] => dd = none
    | f :: fs => ∃ (d : Addr) (vs : List (Str × V)), dd = some d ∧ B d = some (.xd vs) ∧ vs.map (·.1) = (f :: fs).map (·.1) ∧ DpAll K B (vs.map (·.2)) ((f :: fs).map (·.2)))
theorem XRep.more {mg : Str → Option Value} {K : PySem.W.Frag} {B B' : Hp} {e : Exn} {cls : Value} {dd : Option Addr} (x : Ex B B') (h : XRep mg K B e cls dd) : XRep mg K B' e cls dd := by
  obtain ⟨c, fs⟩ := e
  obtain ⟨h1, h2⟩ := h
  refine ⟨h1, ?_⟩
  cases fs with
  | nil => exact h2
  | cons f fs =>
    obtain ⟨d, vs, e1, e2, e3, e4⟩ := h2
    exact ⟨d, vs, e1, x _ _ e2, e3, DpAll.ex x _ _ e4⟩

section
variable (K : PySem.W.Frag) (mg : Str → Option Value) (W : WX)
/-! ### what is wanted behind an expression -/
def EPost (σ : L2.St) (B H : Hp) (Q : VK) : R D → Prop
  | .ok d => ∀ v B' H', Ext B H B' H' → Dp K B' v d → Q v H'
  | .ex e => ∀ cls dd B' H', Ext B H B' H' → XRep mg K B' e cls dd → W cls dd σ H'
  | .no => False
def APost (σ : L2.St) (B H : Hp) (Q : List V → Hp → Prop) : R (List D) → Prop
  | .ok ds => ∀ vs B' H', Ext B H B' H' → DpAll K B' vs ds → Q vs H'
  | .ex e => ∀ cls dd B' H', Ext B H B' H' → XRep mg K B' e cls dd → W cls dd σ H'
  | .no => False
def TPost (σ : L2.St) (B H : Hp) (Q : Bool → Hp → Prop) : R Bool → Prop
  | .ok b => ∀ B' H', Ext B H B' H' → Q b H'
  | .ex e => ∀ cls dd B' H', Ext B H B' H' → XRep mg K B' e cls dd → W cls dd σ H'
  | .no => False
structure SndE (t : TE) (f : Ev → R D) : Prop where
  run : ∀ ga B0 H0 B H σ s Q, ER K ga B0 H0 B H σ s → EPost K mg W σ B H Q (f s) → t σ H Q
structure SndA (t : TA) (f : Ev → R (List D)) : Prop where
  run : ∀ ga B0 H0 B H σ s Q, ER K ga B0 H0 B H σ s → APost K mg W σ B H Q (f s) → t σ H Q
structure SndT (t : TT) (f : Ev → R Bool) : Prop where
  run : ∀ ga B0 H0 B H σ s Q, ER K ga B0 H0 B H σ s → TPost K mg W σ B H Q (f s) → t σ H Q
/-- an operation on values -/
def OPost (B H : Hp) (Q : VK) : R D → Prop
  | .ok d => ∀ v B' H', Ext B H B' H' → Dp K B' v d → Q v H'
  | _ => False
structure SndR2 (r : R2) (o : D → D → R D) : Prop where
  run : ∀ B H x y d e Q, Ex B H → Dp K B x d → Dp K B y e → OPost K B H Q (o d e) → r x y H Q
structure SndR1 (r : V → Hp → VK → Prop) (o : D → R D) : Prop where
  run : ∀ B H x d Q, Ex B H → Dp K B x d → OPost K B H Q (o d) → r x H Q
structure SndRL (r : List V → Hp → VK → Prop) (o : List D → R D) : Prop where
  run : ∀ B H xs ds Q, Ex B H → DpAll K B xs ds → OPost K B H Q (o ds) → r xs H Q
end
/-! ### what an expression gives: the words -/
def fVar (i : Nat) : Ev → R D := fun s => match s[i]? with
  | some (.v d) => .ok d
  | _ => .no
def fC (d : D) : Ev → R D := fun _ => .ok d
def fBin (o : D → D → R D) (f g : Ev → R D) : Ev → R D := fun s => (f s).bind fun x => (g s).bind fun y => o x y
def fUn (o : D → R D) (f : Ev → R D) : Ev → R D := fun s => (f s).bind o
def fNil : Ev → R (List D) := fun _ => .ok []
def fCons (f : Ev → R D) (g : Ev → R (List D)) : Ev → R (List D) := fun s => (f s).bind fun x => (g s).bind fun xs => .ok (x :: xs)
def fCall (o : List D → R D) (g : Ev → R (List D)) : Ev → R D := fun s => (g s).bind o
def fTup (g : Ev → R (List D)) : Ev → R D := fun s => (g s).bind fun xs => if xs.length ≤ 100000 then .ok (.tuple xs) else .no
def fLst (g : Ev → R (List D)) : Ev → R D := fun s => (g s).bind fun xs => if xs.length ≤ 100000 then .ok (.list xs) else .no
def fIf (t : Ev → R Bool) (f g : Ev → R D) : Ev → R D := fun s => (t s).bind fun b => if b = true then f s else g s
/-- tests -/
def bAnd (t u : Ev → R Bool) : Ev → R Bool := fun s => (t s).bind fun b => if b = true then u s else .ok false
def bOr (t u : Ev → R Bool) : Ev → R Bool := fun s => (t s).bind fun b => if b = true then .ok true else u s
def bNot (t : Ev → R Bool) : Ev → R Bool := fun s => (t s).bind fun b => .ok (!b)
/-- a value that is a truth value, as a test -/
def bVal (f : Ev → R D) : Ev → R Bool := fun s => (f s).bind fun
  | .bool b => .ok b
  | _ => .no
def truth : D → R Bool
  | .none => .ok false
  | .bool b => .ok b
  | .int i => .ok (i != 0)
  | .str x => if x.length ≤ 100000 then .ok ((x.length : Int) != 0) else .no
  | .list xs => .ok (!xs.isEmpty)
  | .tuple xs => .ok (!xs.isEmpty)
  | _ => .no
def bTru (f : Ev → R D) : Ev → R Bool := fun s => (f s).bind truth
/-- and, or, not as values, of truth values -/
def fAnd (f g : Ev → R D) : Ev → R D := fun s => (f s).bind fun
  | .bool b => if b = true then g s else .ok (.bool false)
  | _ => .no
def fOr (f g : Ev → R D) : Ev → R D := fun s => (f s).bind fun
  | .bool b => if b = true then .ok (.bool true) else g s
  | _ => .no
def fNot (f : Ev → R D) : Ev → R D := fun s => (f s).bind fun
  | .bool b => .ok (.bool !b)
  | _ => .no

section
variable {K : PySem.W.Frag} {mg : Str → Option Value} {W : WX}
theorem EPost.more {σ : L2.St} {B H B1 H1 : Hp} {Q : VK} (e : Ext B H B1 H1) : ∀ {r : R D}, EPost K mg W σ B H Q r → EPost K mg W σ B1 H1 Q r
  | .ok d, h => fun v B' H' x q => h v B' H' (e.trans x) q
  | .ex _, h => fun c dd B' H' x q => h c dd B' H' (e.trans x) q
  | .no, h => h
theorem EPost.of_o {σ : L2.St} {B H : Hp} {Q : VK} : ∀ {r : R D}, EPost K mg W σ B H Q r → (∀ e, r ≠ .ex e) → OPost K B H Q r
  | .ok d, h, _ => h
  | .ex _, _, n => absurd rfl (n _)
  | .no, h, _ => h
/-- an expression, then more -/
theorem SndE.bind {t : TE} {f : Ev → R D} (h : SndE K mg W t f) {ga : Addr} {B0 H0 B H : Hp} {σ : L2.St} {s : Ev} {Q Q1 : VK} {g : D → R D} (e : ER K ga B0 H0 B H σ s)
    (p : EPost K mg W σ B H Q ((f s).bind g)) (k : ∀ d v B1 H1, f s = .ok d → Ext B H B1 H1 → Dp K B1 v d → ER K ga B0 H0 B1 H1 σ s → EPost K mg W σ B1 H1 Q (g d) → Q1 v H1) : t σ H Q1 := by
  refine h.run ga B0 H0 B H σ s Q1 e ?_
  cases hf : f s with
  | ok d =>
    rw [hf] at p
    exact fun v B1 H1 x q => k d v B1 H1 hf x q (e.more x) (EPost.more x p)
  | ex y =>
    rw [hf] at p
    exact p
  | no =>
    rw [hf] at p
    exact p
theorem snd_var {i : Nat} : SndE K mg W (tVar i) (fVar i) := by
  refine ⟨fun ga B0 H0 B H σ s Q e p => ?_⟩
  unfold fVar at p
  cases h : s[i]? with
  | none =>
    rw [h] at p
    exact p.elim
  | some x =>
    rw [h] at p
    cases x with
    | v d =>
      obtain ⟨v, a, b⟩ := e.val i d h
      exact ⟨v, a, p v B H e.here b⟩
    | un => exact p.elim
    | o ds => exact p.elim
    | m ds => exact p.elim
    | x a => exact p.elim
theorem snd_c {v : V} {d : D} (h : ∀ B, Dp K B v d) : SndE K mg W (tC v) (fC d) := ⟨fun ga B0 H0 B H σ s Q e p => p v B H e.here (h B)⟩
theorem snd_bin {r : R2} {o : D → D → R D} {ta tb : TE} {f g : Ev → R D} (hr : SndR2 K r o) (no : ∀ d e x, o d e ≠ .ex x) (ha : SndE K mg W ta f) (hb : SndE K mg W tb g) : SndE K mg W (tOp r ta tb) (fBin o f g) := by
  refine ⟨fun ga B0 H0 B H σ s Q e p => ?_⟩
  refine ha.bind e p fun d v B1 H1 _ x1 q1 e1 p1 => ?_
  refine hb.bind e1 p1 fun d2 v2 B2 H2 _ x2 q2 e2 p2 => ?_
  exact hr.run B2 H2 v v2 d d2 Q e2.ext.s (Dp.ex x2.b _ _ q1) q2 (EPost.of_o p2 (no d d2))
theorem snd_un {r : V → Hp → VK → Prop} {o : D → R D} {ta : TE} {f : Ev → R D} (hr : SndR1 K r o) (no : ∀ d x, o d ≠ .ex x) (ha : SndE K mg W ta f) : SndE K mg W (tUn r ta) (fUn o f) := by
  refine ⟨fun ga B0 H0 B H σ s Q e p => ?_⟩
  refine ha.bind e p fun d v B1 H1 _ x1 q1 e1 p1 => ?_
  exact hr.run B1 H1 v d Q e1.ext.s q1 (EPost.of_o p1 (no d))
/-! ### arguments -/
theorem APost.more {σ : L2.St} {B H B1 H1 : Hp} {Q : List V → Hp → Prop} (e : Ext B H B1 H1) : ∀ {r : R (List D)}, APost K mg W σ B H Q r → APost K mg W σ B1 H1 Q r
  | .ok d, h => fun v B' H' x q => h v B' H' (e.trans x) q
  | .ex _, h => fun c dd B' H' x q => h c dd B' H' (e.trans x) q
  | .no, h => h
theorem snd_nil : SndA K mg W tNil fNil := ⟨fun ga B0 H0 B H σ s Q e p => p [] B H e.here .nil⟩
theorem snd_cons {ta : TE} {tr : TA} {f : Ev → R D} {g : Ev → R (List D)} (ha : SndE K mg W ta f) (hr : SndA K mg W tr g) : SndA K mg W (tCons ta tr) (fCons f g) := by
  refine ⟨fun ga B0 H0 B H σ s Q e p => ?_⟩
  unfold fCons at p
  refine ha.run ga B0 H0 B H σ s _ e ?_
  cases hf : f s with
  | ex y =>
    rw [hf] at p
    exact p
  | no =>
    rw [hf] at p
    exact p
  | ok d =>
    rw [hf] at p
    intro v B1 H1 x1 q1
    refine hr.run ga B0 H0 B1 H1 σ s _ (e.more x1) ?_
    replace p : APost K mg W σ B H Q ((g s).bind fun xs => .ok (d :: xs)) := p
    cases hg : g s with
    | ex y =>
      rw [hg] at p
      exact APost.more x1 p
    | no =>
      rw [hg] at p
      exact p
    | ok ds =>
      rw [hg] at p
      intro vs B2 H2 x2 q2
      exact p (v :: vs) B2 H2 (x1.trans x2) (.cons (Dp.ex x2.b _ _ q1) q2)
theorem SndA.bind {t : TA} {f : Ev → R (List D)} (h : SndA K mg W t f) {ga : Addr} {B0 H0 B H : Hp} {σ : L2.St} {s : Ev} {Q : VK} {Q1 : List V → Hp → Prop} {g : List D → R D} (e : ER K ga B0 H0 B H σ s)
    (p : EPost K mg W σ B H Q ((f s).bind g)) (k : ∀ d v B1 H1, f s = .ok d → Ext B H B1 H1 → DpAll K B1 v d → ER K ga B0 H0 B1 H1 σ s → EPost K mg W σ B1 H1 Q (g d) → Q1 v H1) : t σ H Q1 := by
  refine h.run ga B0 H0 B H σ s Q1 e ?_
  cases hf : f s with
  | ok d =>
    rw [hf] at p
    exact fun v B1 H1 x q => k d v B1 H1 hf x q (e.more x) (EPost.more x p)
  | ex y =>
    rw [hf] at p
    exact p
  | no =>
    rw [hf] at p
    exact p
theorem sz100 {n : Nat} (h : n ≤ 100000) : n ≤ sizeLine := Evl.sz_of h
theorem snd_tup {ta : TA} {g : Ev → R (List D)} (h : SndA K mg W ta g) : SndE K mg W (tTup ta) (fTup g) := by
  refine ⟨fun ga B0 H0 B H σ s Q e p => ?_⟩
  refine h.bind e p fun ds vs B1 H1 _ x1 q1 e1 p1 => ?_
  have hl := DpAll.len q1
  by_cases hz : ds.length ≤ 100000
  · rw [if_pos hz] at p1
    refine ⟨sz100 (by omega), fun a ha => ?_⟩
    have hb : B1 a = none := ex_none e1.ext.s ha
    exact p1 (.ref a) _ _ ((Ext.refl e1.ext.s).new ha) (.tup (SqT.of upd_same) (DpAll.ex (Ex.new hb) _ _ q1))
  · rw [if_neg hz] at p1
    exact p1.elim
theorem snd_lst {ta : TA} {g : Ev → R (List D)} (h : SndA K mg W ta g) : SndE K mg W (tLst ta) (fLst g) := by
  refine ⟨fun ga B0 H0 B H σ s Q e p => ?_⟩
  refine h.bind e p fun ds vs B1 H1 _ x1 q1 e1 p1 => ?_
  have hl := DpAll.len q1
  by_cases hz : ds.length ≤ 100000
  · rw [if_pos hz] at p1
    refine ⟨sz100 (by omega), fun a ha => ?_⟩
    have hb : B1 a = none := ex_none e1.ext.s ha
    exact p1 (.ref a) _ _ ((Ext.refl e1.ext.s).new ha) (.lst (SqL.of upd_same) (DpAll.ex (Ex.new hb) _ _ q1))
  · rw [if_neg hz] at p1
    exact p1.elim
theorem snd_cb {r : List V → Hp → VK → Prop} {o : List D → R D} {ta : TA} {g : Ev → R (List D)} (hr : SndRL K r o) (no : ∀ d x, o d ≠ .ex x) (h : SndA K mg W ta g) : SndE K mg W (tCB r ta) (fCall o g) := by
  refine ⟨fun ga B0 H0 B H σ s Q e p => ?_⟩
  refine h.bind e p fun ds vs B1 H1 _ x1 q1 e1 p1 => ?_
  exact hr.run B1 H1 vs ds Q e1.ext.s q1 (EPost.of_o p1 (no ds))
/-! ### tests -/
theorem TPost.more {σ : L2.St} {B H B1 H1 : Hp} {Q : Bool → Hp → Prop} (e : Ext B H B1 H1) : ∀ {r : R Bool}, TPost K mg W σ B H Q r → TPost K mg W σ B1 H1 Q r
  | .ok d, h => fun B' H' x => h B' H' (e.trans x)
  | .ex _, h => fun c dd B' H' x q => h c dd B' H' (e.trans x) q
  | .no, h => h
theorem SndT.bind {t : TT} {f : Ev → R Bool} (h : SndT K mg W t f) {ga : Addr} {B0 H0 B H : Hp} {σ : L2.St} {s : Ev} {Q Q1 : Bool → Hp → Prop} {g : Bool → R Bool} (e : ER K ga B0 H0 B H σ s)
    (p : TPost K mg W σ B H Q ((f s).bind g)) (k : ∀ b B1 H1, f s = .ok b → Ext B H B1 H1 → ER K ga B0 H0 B1 H1 σ s → TPost K mg W σ B1 H1 Q (g b) → Q1 b H1) : t σ H Q1 := by
  refine h.run ga B0 H0 B H σ s Q1 e ?_
  cases hf : f s with
  | ok d =>
    rw [hf] at p
    exact fun B1 H1 x => k d B1 H1 hf x (e.more x) (TPost.more x p)
  | ex y =>
    rw [hf] at p
    exact p
  | no =>
    rw [hf] at p
    exact p
theorem SndE.bindT {t : TE} {f : Ev → R D} (h : SndE K mg W t f) {ga : Addr} {B0 H0 B H : Hp} {σ : L2.St} {s : Ev} {Q : Bool → Hp → Prop} {Q1 : VK} {g : D → R Bool} (e : ER K ga B0 H0 B H σ s)
    (p : TPost K mg W σ B H Q ((f s).bind g)) (k : ∀ d v B1 H1, f s = .ok d → Ext B H B1 H1 → Dp K B1 v d → ER K ga B0 H0 B1 H1 σ s → TPost K mg W σ B1 H1 Q (g d) → Q1 v H1) : t σ H Q1 := by
  refine h.run ga B0 H0 B H σ s Q1 e ?_
  cases hf : f s with
  | ok d =>
    rw [hf] at p
    exact fun v B1 H1 x q => k d v B1 H1 hf x q (e.more x) (TPost.more x p)
  | ex y =>
    rw [hf] at p
    exact p
  | no =>
    rw [hf] at p
    exact p
theorem SndT.bindE {t : TT} {f : Ev → R Bool} (h : SndT K mg W t f) {ga : Addr} {B0 H0 B H : Hp} {σ : L2.St} {s : Ev} {Q : VK} {Q1 : Bool → Hp → Prop} {g : Bool → R D} (e : ER K ga B0 H0 B H σ s)
    (p : EPost K mg W σ B H Q ((f s).bind g)) (k : ∀ b B1 H1, f s = .ok b → Ext B H B1 H1 → ER K ga B0 H0 B1 H1 σ s → EPost K mg W σ B1 H1 Q (g b) → Q1 b H1) : t σ H Q1 := by
  refine h.run ga B0 H0 B H σ s Q1 e ?_
  cases hf : f s with
  | ok d =>
    rw [hf] at p
    exact fun B1 H1 x => k d B1 H1 hf x (e.more x) (EPost.more x p)
  | ex y =>
    rw [hf] at p
    exact p
  | no =>
    rw [hf] at p
    exact p
theorem snd_test {ta : TE} {f : Ev → R D} (h : SndE K mg W ta f) : SndT K mg W (tTest ta) (bVal f) := by
  refine ⟨fun ga B0 H0 B H σ s Q e p => ?_⟩
  refine h.bindT e p fun d v B1 H1 _ x1 q1 e1 p1 => ?_
  cases q1 with
  | bl b => exact ⟨b, rfl, p1 B1 H1 e1.here⟩
  | _ => exact p1.elim
theorem snd_tB {ta : TE} {f : Ev → R D} (h : SndE K mg W ta f) : SndT K mg W (tB ta) (bVal f) := by
  refine ⟨fun ga B0 H0 B H σ s Q e p => ?_⟩
  refine h.bindT e p fun d v B1 H1 _ x1 q1 e1 p1 => ?_
  cases q1 with
  | bl b => exact ⟨b, rfl, p1 B1 H1 e1.here⟩
  | _ => exact p1.elim
theorem empt {H : Hp} {ds : List D} {vs : List V} (h : DpAll K H vs ds) : vs.isEmpty = ds.isEmpty := by
  cases h <;> rfl
theorem snd_tru {ta : TE} {f : Ev → R D} (h : SndE K mg W ta f) : SndT K mg W (fun σ H Q => ta σ H fun x H' => ∃ k, TruV K x H' k ∧ Q k H') (bTru f) := by
  refine ⟨fun ga B0 H0 B H σ s Q e p => ?_⟩
  refine h.bindT e p fun d v B1 H1 _ x1 q1 e1 p1 => ?_
  cases q1 with
  | non => exact ⟨false, rfl, p1 B1 H1 e1.here⟩
  | bl b => exact ⟨b, rfl, p1 B1 H1 e1.here⟩
  | int i => exact ⟨i != 0, rfl, p1 B1 H1 e1.here⟩
  | str x =>
    replace p1 : TPost K mg W σ B1 H1 Q (if x.length ≤ 100000 then .ok ((x.length : Int) != 0) else .no) := p1
    by_cases hz : x.length ≤ 100000
    · rw [if_pos hz] at p1
      exact ⟨_, ⟨sz100 hz, rfl⟩, p1 B1 H1 e1.here⟩
    · rw [if_neg hz] at p1
      exact p1.elim
  | lst hs ha => exact ⟨_, .inl ⟨_, sql_ex e1.ext.s hs, rfl⟩, by rw [empt ha]; exact p1 B1 H1 e1.here⟩
  | tup hs ha => exact ⟨_, .inr (.inl ⟨_, sqt_ex e1.ext.s hs, rfl⟩), by rw [empt ha]; exact p1 B1 H1 e1.here⟩
theorem snd_and {t u : TT} {f g : Ev → R Bool} (ht : SndT K mg W t f) (hu : SndT K mg W u g) : SndT K mg W (tAnd t u) (bAnd f g) := by
  refine ⟨fun ga B0 H0 B H σ s Q e p => ?_⟩
  refine ht.bind e p fun b B1 H1 _ x1 e1 p1 => ?_
  cases b with
  | true => exact hu.run ga B0 H0 B1 H1 σ s Q e1 p1
  | false => exact p1 B1 H1 e1.here
theorem snd_or {t u : TT} {f g : Ev → R Bool} (ht : SndT K mg W t f) (hu : SndT K mg W u g) : SndT K mg W (tOr t u) (bOr f g) := by
  refine ⟨fun ga B0 H0 B H σ s Q e p => ?_⟩
  refine ht.bind e p fun b B1 H1 _ x1 e1 p1 => ?_
  cases b with
  | true => exact p1 B1 H1 e1.here
  | false => exact hu.run ga B0 H0 B1 H1 σ s Q e1 p1
theorem snd_not {t : TT} {f : Ev → R Bool} (ht : SndT K mg W t f) : SndT K mg W (tNot t) (bNot f) := by
  refine ⟨fun ga B0 H0 B H σ s Q e p => ?_⟩
  exact ht.bind e p fun b B1 H1 _ x1 e1 p1 => p1 B1 H1 e1.here
theorem snd_andV {ta tb : TE} {f g : Ev → R D} (ha : SndE K mg W ta f) (hb : SndE K mg W tb g) : SndE K mg W (tAndV ta tb) (fAnd f g) := by
  refine ⟨fun ga B0 H0 B H σ s Q e p => ?_⟩
  refine ha.bind e p fun d v B1 H1 _ x1 q1 e1 p1 => ?_
  cases q1 with
  | bl b =>
    cases b with
    | true => exact ⟨true, rfl, hb.run ga B0 H0 B1 H1 σ s Q e1 p1⟩
    | false => exact ⟨false, rfl, p1 _ B1 H1 e1.here (.bl false)⟩
  | _ => exact p1.elim
theorem snd_orV {ta tb : TE} {f g : Ev → R D} (ha : SndE K mg W ta f) (hb : SndE K mg W tb g) : SndE K mg W (tOrV ta tb) (fOr f g) := by
  refine ⟨fun ga B0 H0 B H σ s Q e p => ?_⟩
  refine ha.bind e p fun d v B1 H1 _ x1 q1 e1 p1 => ?_
  cases q1 with
  | bl b =>
    cases b with
    | false => exact ⟨false, rfl, hb.run ga B0 H0 B1 H1 σ s Q e1 p1⟩
    | true => exact ⟨true, rfl, p1 _ B1 H1 e1.here (.bl true)⟩
  | _ => exact p1.elim
theorem snd_notV {ta : TE} {f : Ev → R D} (ha : SndE K mg W ta f) : SndE K mg W (tNotV ta) (fNot f) := by
  refine ⟨fun ga B0 H0 B H σ s Q e p => ?_⟩
  refine ha.bind e p fun d v B1 H1 _ x1 q1 e1 p1 => ?_
  cases q1 with
  | bl b => exact ⟨b, rfl, p1 _ B1 H1 e1.here (.bl _)⟩
  | _ => exact p1.elim
theorem snd_if {t : TT} {c : Ev → R Bool} {ta tb : TE} {f g : Ev → R D} (ht : SndT K mg W t c) (ha : SndE K mg W ta f) (hb : SndE K mg W tb g) : SndE K mg W (tIf t ta tb) (fIf c f g) := by
  refine ⟨fun ga B0 H0 B H σ s Q e p => ?_⟩
  refine ht.bindE e p fun b B1 H1 _ x1 e1 p1 => ?_
  cases b with
  | true => exact ha.run ga B0 H0 B1 H1 σ s Q e1 p1
  | false => exact hb.run ga B0 H0 B1 H1 σ s Q e1 p1
end
end Sf

namespace Sf
open PySem PySem.Spec PyProof.Rows L2
open Evl (Ex)

/-! ### operations on data -/
def gInt2 (C : Int → Int → Prop) [∀ i j, Decidable (C i j)] (g : Int → Int → D) : D → D → R D
  | .int i, .int j => if C i j then .ok (g i j) else .no
  | _, _ => .no
def gAdd : D → D → R D
  | .int i, .int j => .ok (.int (i + j))
  | .str x, .str y => if x.length + y.length ≤ 100000 then .ok (.str (x ++ y)) else .no
  | .list xs, .list ys => if xs.length + ys.length ≤ 100000 then .ok (.list (xs ++ ys)) else .no
  | _, _ => .no
def gSubI : D → D → R D
  | .int i, .int j => .ok (.int (i - j))
  | _, _ => .no
instance (i j : Int) : Decidable (CMulW i j) := by unfold CMulW; infer_instance
/-- small whole numbers, told apart without a comparison of ints -/
def inM : Int → Bool
  | .ofNat n => Nat.ble n 1000000000000
  | .negSucc n => Nat.ble n 1000000000000
theorem inM_of {j : Int} (h : inM j = true) : -1000000000002 < j ∧ j < 1000000000002 := by
  cases j with
  | ofNat n =>
    have h1 : n ≤ 1000000000000 := Nat.le_of_ble_eq_true h
    have e : Int.ofNat n = (n : Int) := rfl
    omega
  | negSucc n =>
    have h1 : n ≤ 1000000000000 := Nat.le_of_ble_eq_true h
    omega
theorem inM_to {j : Int} (h : -1000000000000 ≤ j ∧ j ≤ 1000000000000) : inM j = true := by
  cases j with
  | ofNat n =>
    have e : Int.ofNat n = (n : Int) := rfl
    exact Nat.ble_eq_true_of_le (by omega)
  | negSucc n => exact Nat.ble_eq_true_of_le (by omega)
def CMulA (i j : Int) : Prop := CMulW i j ∨ inM i = true ∨ inM j = true
theorem CMulA.ok {i j : Int} (h : CMulA i j) : IntMulOk i j := by
  rcases h with h | h | h
  · exact h.ok
  · have := inM_of h
    exact CMul.ok (.inl (by omega))
  · have := inM_of h
    exact CMul.ok (.inr (by omega))
instance (i j : Int) : Decidable (CMulA i j) := by unfold CMulA; infer_instance
def gMul : D → D → R D := gInt2 CMulA fun i j => .int (i * j)
theorem op_mulA {X : Cx} : OpR X (binaryOp .Mult) (rI CMulA fun i j => .int (i * j)) := opI fun _ _ _ _ _ _ _ hc q => mul_int q hc.ok
/-- a divisor that is not 0, below 2 ^ 9000 -/
def CDivA (_ j : Int) : Prop := j ≠ 0 ∧ j.natAbs.log2 < 9000
instance (i j : Int) : Decidable (CDivA i j) := by unfold CDivA; infer_instance
def gDiv : D → D → R D := gInt2 CDivA fun i j => .int (i.fdiv j)
def CNz (_ j : Int) : Prop := j ≠ 0
instance (i j : Int) : Decidable (CNz i j) := by unfold CNz; infer_instance
def gMod : D → D → R D := gInt2 CNz fun i j => .int (i.fmod j)
instance (i j : Int) : Decidable (CPow i j) := by unfold CPow; infer_instance
def gPow : D → D → R D := gInt2 CPow fun i j => .int (i ^ j.toNat)
def gCmp (p : Int → Int → Bool) : D → D → R D
  | .int i, .int j => .ok (.bool (p i j))
  | _, _ => .no
def gEq (a b : D) : R D := if (SeqAt.shaped a && SeqAt.shaped b) = true then .ok (.bool (PyData.eqv a b)) else .no
def gNe (a b : D) : R D := if (SeqAt.shaped a && SeqAt.shaped b) = true then .ok (.bool (!PyData.eqv a b)) else .no
def flatD : D → Bool
  | .none => true
  | .bool _ => true
  | .int _ => true
  | .str _ => true
  | _ => false
def gIn (neg : Bool) (a : D) : D → R D
  | .list es => if (flatD a && es.all flatD) = true then .ok (.bool (if neg then !(es.any fun y => PyData.eqv y a) else es.any fun y => PyData.eqv y a)) else .no
  | .tuple es => if (flatD a && es.all flatD) = true then .ok (.bool (if neg then !(es.any fun y => PyData.eqv y a) else es.any fun y => PyData.eqv y a)) else .no
  | .str z => match a with
    | .str x => .ok (.bool (if neg then !(!(Builtin.Str.occurrences z x 0 z.length 1).isEmpty) else !(Builtin.Str.occurrences z x 0 z.length 1).isEmpty))
    | _ => .no
  | _ => .no
def gIsN : D → R D
  | .none => .ok (.bool true)
  | _ => .ok (.bool false)
def gNotN : D → R D
  | .none => .ok (.bool false)
  | _ => .ok (.bool true)
def gNeg : D → R D
  | .int i => .ok (.int (-i))
  | _ => .no
def gIx : D → D → R D
  | .list xs, .int i => match atI xs i with
    | some d => .ok d
    | none => .no
  | .tuple xs, .int i => match atI xs i with
    | some d => .ok d
    | none => .no
  | .str z, .int i => if z.length ≤ 100000 then match atI z.cps.toList i with
      | some c => .ok (.str ⟨#[c]⟩)
      | none => .no
    else .no
  | _, _ => .no

section
variable {K : PySem.W.Frag}
theorem OPost.no {B H : Hp} {Q : VK} (h : OPost K B H Q .no) : False := h
theorem sr_int0 {o : D → D → R D} {g : Int → Int → V} {gd : Int → Int → D} (ho : ∀ i j, o (.int i) (.int j) = .ok (gd i j)) (hn : ∀ d e, (∀ i j, ¬ (d = .int i ∧ e = .int j)) → o d e = .no) (hg : ∀ B i j, Dp K B (g i j) (gd i j)) : SndR2 K (rI0 g) o := by
  refine ⟨fun B H x y d e Q eb hx hy p => ?_⟩
  by_cases h : ∃ i j, d = .int i ∧ e = .int j
  · obtain ⟨i, j, rfl, rfl⟩ := h
    cases hx
    cases hy
    rw [ho] at p
    exact ⟨i, j, rfl, rfl, p _ B H (Ext.refl eb) (hg B i j)⟩
  · rw [hn d e fun i j z => h ⟨i, j, z.1, z.2⟩] at p
    exact p.elim
theorem int2_no {C : Int → Int → Prop} [∀ i j, Decidable (C i j)] {g : Int → Int → D} {d e : D} (h : ∀ i j, ¬ (d = .int i ∧ e = .int j)) : gInt2 C g d e = .no := by
  unfold gInt2
  split
  · exact absurd ⟨rfl, rfl⟩ (h _ _)
  · rfl
theorem sr_int {C : Int → Int → Prop} [∀ i j, Decidable (C i j)] {g : Int → Int → V} {gd : Int → Int → D} (hg : ∀ B i j, Dp K B (g i j) (gd i j)) : SndR2 K (rI C g) (gInt2 C gd) := by
  refine ⟨fun B H x y d e Q eb hx hy p => ?_⟩
  by_cases h : ∃ i j, d = .int i ∧ e = .int j
  · obtain ⟨i, j, rfl, rfl⟩ := h
    cases hx
    cases hy
    have p' : OPost K B H Q (if C i j then .ok (gd i j) else .no) := p
    by_cases hc : C i j
    · rw [if_pos hc] at p'
      exact ⟨i, j, rfl, rfl, hc, p' _ B H (Ext.refl eb) (hg B i j)⟩
    · rw [if_neg hc] at p'
      exact p'.elim
  · rw [int2_no fun i j z => h ⟨i, j, z.1, z.2⟩] at p
    exact p.elim
theorem int2_nx {C : Int → Int → Prop} [∀ i j, Decidable (C i j)] {g : Int → Int → D} (d e : D) (x : Exn) : gInt2 C g d e ≠ .ex x := by
  unfold gInt2
  split
  · split <;> exact fun z => nomatch z
  · exact fun z => nomatch z
theorem cmp_no {p : Int → Int → Bool} {d e : D} (h : ∀ i j, ¬ (d = .int i ∧ e = .int j)) : gCmp p d e = .no := by
  unfold gCmp
  split
  · exact absurd ⟨rfl, rfl⟩ (h _ _)
  · rfl
theorem cmp_nx {p : Int → Int → Bool} (d e : D) (x : Exn) : gCmp p d e ≠ .ex x := by
  unfold gCmp
  split <;> exact fun z => nomatch z
theorem sr_cmp {p : Int → Int → Bool} : SndR2 K (rI0 fun i j => .bl (p i j)) (gCmp p) := sr_int0 (gd := fun i j => .bool (p i j)) (fun _ _ => rfl) (fun _ _ h => cmp_no h) fun _ _ _ => .bl _
theorem sub_nx (d e : D) (x : Exn) : gSubI d e ≠ .ex x := by
  unfold gSubI
  split <;> exact fun z => nomatch z
theorem sr_sub : SndR2 K (rI0 fun i j => .int (i - j)) gSubI := sr_int0 (gd := fun i j => .int (i - j)) (fun _ _ => rfl) (fun d e h => by
  unfold gSubI
  split
  · exact absurd ⟨rfl, rfl⟩ (h _ _)
  · rfl) fun _ _ _ => .int _

/-! ### + -/
def rCatL (K : PySem.W.Frag) : R2 := fun x y H Q => ∃ l b xs zs, x = .ref l ∧ y = .ref b ∧ SqL K H l xs ∧ SqL K H b zs ∧ xs.length + zs.length ≤ sizeLine ∧ ∀ p, H p = none → Q (.ref p) (upd H p (.lst (xs ++ zs)))
theorem op_catL {X : Cx} : OpR X (binaryOp .Add) (rCatL X.K) := by
  intro pins s σ H x y v u Q I rx ry h
  obtain ⟨l, b, xs, zs, rfl, rfl, hH, hB, hz, q⟩ := h
  cases rx
  cases ry
  obtain ⟨its, r, p1, _⟩ := I.list hH
  obtain ⟨its2, r2, p2, _⟩ := I.list hB
  have hl := r.length
  have hl2 := r2.length
  obtain ⟨⟨cls, dd, data, sl⟩, ho, hc, n, hd⟩ := id p1.isList
  obtain ⟨⟨cls2, dd2, data2, sl2⟩, ho2, hc2, n2, hd2⟩ := id p2.isList
  simp only at hc hd hc2 hd2
  subst hc hd hc2 hd2
  have e : its.toArray ++ its2.toArray = (its ++ its2).toArray := by simp
  refine concat_meets ⟨_, ho, rfl⟩ ⟨_, ho2, rfl⟩ noFill_list_add seq_list_add PySem.F.slot_list_add PySem.F.entry_list_add (PySem.F.args_list_add_2 _ _) (list_addW l b its.toArray its2.toArray n n2 dd dd2 sl sl2 (by simp only [List.size_toArray]; omega)) ⟨ho, ho2, ?_⟩
  rw [e]
  exact ⟨.ref _, _, I.lnew (t' := s.toks) (r.append r2) (by rw [List.length_append]; omega), rfl, q _ I.fresh⟩
def rAddA (K : PySem.W.Frag) : R2 := fun x y H Q => rI0 (fun i j => .int (i + j)) x y H Q ∨ (∃ i j, x = .str i ∧ y = .str j ∧ i.length + j.length ≤ sizeLine ∧ Q (.str (i ++ j)) H) ∨ rCatL K x y H Q
theorem op_addA {X : Cx} : OpR X (binaryOp .Add) (rAddA X.K) := op_add.or (op_add_str.or op_catL)
theorem add_nx (d e : D) (x : Exn) : gAdd d e ≠ .ex x := by
  unfold gAdd
  split
  · exact fun z => nomatch z
  · split <;> exact fun z => nomatch z
  · split <;> exact fun z => nomatch z
  · exact fun z => nomatch z
theorem sr_add : SndR2 K (rAddA K) gAdd := by
  refine ⟨fun B H x y d e Q eb hx hy p => ?_⟩
  unfold gAdd at p
  split at p
  · cases hx
    cases hy
    exact .inl ⟨_, _, rfl, rfl, p _ B H (Ext.refl eb) (.int _)⟩
  · rename_i x1 y1
    split at p
    · rename_i hz
      cases hx
      cases hy
      exact .inr (.inl ⟨_, _, rfl, rfl, sz100 hz, p _ B H (Ext.refl eb) (.str _)⟩)
    · exact p.elim
  · split at p
    · rename_i hz
      cases hx with
      | lst hs ha =>
        cases hy with
        | lst hs2 ha2 =>
          have l1 := DpAll.len ha
          have l2 := DpAll.len ha2
          refine .inr (.inr ⟨_, _, _, _, rfl, rfl, sql_ex eb hs, sql_ex eb hs2, sz100 (by omega), fun a hn => ?_⟩)
          have hb : B a = none := ex_none eb hn
          exact p _ _ _ ((Ext.refl eb).new hn) (.lst (SqL.of upd_same) (DpAll.ex (Ex.new hb) _ _ (DpAll.append ha ha2)))
    · exact p.elim
  · exact p.elim
/-! ### // -/
theorem op_fdivA {X : Cx} : OpR X (binaryOp .FloorDiv) (rI CDivA fun i j => .int (i.fdiv j)) := opI fun i j _ _ _ _ _ hc q => floordiv_int hc.1 q (.inl (PyProof.noPylong_of_log2 hc.2))
/-! ### ==, != -/
theorem eq_nx (d e : D) (x : Exn) : gEq d e ≠ .ex x := by
  unfold gEq
  split <;> exact fun z => nomatch z
theorem ne_nx (d e : D) (x : Exn) : gNe d e ≠ .ex x := by
  unfold gNe
  split <;> exact fun z => nomatch z
theorem sr_eq : SndR2 K (rEqD K) gEq := by
  refine ⟨fun B H x y d e Q eb hx hy p => ?_⟩
  unfold gEq at p
  split at p
  · rename_i h
    rw [Bool.and_eq_true] at h
    exact ⟨d, e, Dp.ex eb _ _ hx, Dp.ex eb _ _ hy, h.1, h.2, p _ B H (Ext.refl eb) (.bl _)⟩
  · exact p.elim
theorem sr_ne : SndR2 K (rNeD K) gNe := by
  refine ⟨fun B H x y d e Q eb hx hy p => ?_⟩
  unfold gNe at p
  split at p
  · rename_i h
    rw [Bool.and_eq_true] at h
    exact ⟨d, e, Dp.ex eb _ _ hx, Dp.ex eb _ _ hy, h.1, h.2, p _ B H (Ext.refl eb) (.bl _)⟩
  · exact p.elim
/-! ### in, not in -/
theorem flat_of {B : Hp} {v : V} {d : D} (h : Dp K B v d) : flatV v = flatD d := by cases h <;> rfl
theorem flats_of {B : Hp} : ∀ {ds : List D} {vs : List V}, DpAll K B vs ds → vs.all flatV = ds.all flatD
  | [], _, h => by cases h; rfl
  | d :: ds, _, h => by
    cases h with
    | cons h1 h2 => rw [List.all_cons, List.all_cons, flat_of h1, flats_of h2]
theorem eqv_of {B : Hp} {v w : V} {d e : D} (h : Dp K B v d) (k : Dp K B w e) (f : flatD d = true) (g : flatD e = true) : eqV v w = PyData.eqv d e := by
  cases h <;> cases k <;> first | rfl | (exact absurd f (by simp [flatD])) | (exact absurd g (by simp [flatD])) | (simp [eqV, PyData.eqv]; done)
theorem inV_of {B : Hp} {v : V} {d : D} (h : Dp K B v d) (f : flatD d = true) : ∀ {ds : List D} {vs : List V}, DpAll K B vs ds → ds.all flatD = true → inV v vs = ds.any fun y => PyData.eqv y d
  | [], _, k, _ => by cases k; rfl
  | e :: ds, _, k, g => by
    cases k with
    | cons h1 h2 =>
      rw [List.all_cons, Bool.and_eq_true] at g
      show (eqV _ v || inV v _) = _
      rw [List.any_cons, eqv_of h1 h g.1 f, inV_of h f h2 g.2]
def rInA (K : PySem.W.Frag) (neg : Bool) : R2 := fun x y H Q => rIn K neg x y H Q ∨ ∃ i j, x = .str i ∧ y = .str j ∧ Q (.bl (if neg then !(!(Builtin.Str.occurrences j i 0 j.length 1).isEmpty) else !(Builtin.Str.occurrences j i 0 j.length 1).isEmpty)) H
theorem op_inA {X : Cx} : OpR X (compareOp .In) (rInA X.K false) := op_in_seq.or op_in_str
theorem op_notInA {X : Cx} : OpR X (compareOp .NotIn) (rInA X.K true) := op_notIn_seq.or op_notIn_str
theorem in_nx (neg : Bool) (d e : D) (x : Exn) : gIn neg d e ≠ .ex x := by
  unfold gIn
  split
  · split <;> exact fun z => nomatch z
  · split <;> exact fun z => nomatch z
  · split <;> exact fun z => nomatch z
  · exact fun z => nomatch z
theorem sr_in {neg : Bool} : SndR2 K (rInA K neg) (gIn neg) := by
  refine ⟨fun B H x y d e Q eb hx hy p => ?_⟩
  unfold gIn at p
  split at p
  · split at p
    · rename_i h
      rw [Bool.and_eq_true] at h
      cases hy with
      | lst hs ha =>
        refine .inl ⟨_, _, rfl, .inl (sql_ex eb hs), by rw [flat_of hx]; exact h.1, by rw [flats_of ha]; exact h.2, ?_⟩
        rw [inV_of hx h.1 ha h.2]
        exact p _ B H (Ext.refl eb) (.bl _)
    · exact p.elim
  · split at p
    · rename_i h
      rw [Bool.and_eq_true] at h
      cases hy with
      | tup hs ha =>
        refine .inl ⟨_, _, rfl, .inr (sqt_ex eb hs), by rw [flat_of hx]; exact h.1, by rw [flats_of ha]; exact h.2, ?_⟩
        rw [inV_of hx h.1 ha h.2]
        exact p _ B H (Ext.refl eb) (.bl _)
    · exact p.elim
  · split at p
    · cases hx
      cases hy
      exact .inr ⟨_, _, rfl, rfl, p _ B H (Ext.refl eb) (.bl _)⟩
    · exact p.elim
  · exact p.elim
/-! ### is None -/
theorem isN_of {B : Hp} {v : V} {d : D} (h : Dp K B v d) : decide (v = .non) = (match d with | .none => true | _ => false) := by cases h <;> simp
theorem isN_nx (d : D) (x : Exn) : gIsN d ≠ .ex x := by
  unfold gIsN
  split <;> exact fun z => nomatch z
theorem notN_nx (d : D) (x : Exn) : gNotN d ≠ .ex x := by
  unfold gNotN
  split <;> exact fun z => nomatch z
theorem neg_nx (d : D) (x : Exn) : gNeg d ≠ .ex x := by
  unfold gNeg
  split <;> exact fun z => nomatch z
theorem sr_neg : SndR1 K (rU fun i => .int (-i)) gNeg := by
  refine ⟨fun B H x d Q eb hx p => ?_⟩
  unfold gNeg at p
  split at p
  · cases hx
    exact ⟨_, rfl, p _ B H (Ext.refl eb) (.int _)⟩
  · exact p.elim
/-! ### items -/
theorem atI_of {B : Hp} {ds : List D} {vs : List V} {i : Int} {d : D} (h : DpAll K B vs ds) (e : atI ds i = some d) : ∃ v, atI vs i = some v ∧ Dp K B v d := by
  unfold atI at e ⊢
  rw [← DpAll.len h] at e
  cases hx : ixN vs.length i with
  | none =>
    rw [hx] at e
    cases e
  | some j =>
    rw [hx] at e
    obtain ⟨v, a, b⟩ := DpAll.get h (show ds[j]? = some d from e)
    exact ⟨v, a, b⟩
theorem ix_nx (d e : D) (x : Exn) : gIx d e ≠ .ex x := by
  unfold gIx
  split
  · split <;> exact fun z => nomatch z
  · split <;> exact fun z => nomatch z
  · split
    · split <;> exact fun z => nomatch z
    · exact fun z => nomatch z
  · exact fun z => nomatch z
theorem sr_ix : SndR2 K (rIx K) gIx := by
  refine ⟨fun B H x y d e Q eb hx hy p => ?_⟩
  unfold gIx at p
  split at p
  · split at p
    · rename_i h
      cases hy
      cases hx with
      | lst hs ha =>
        obtain ⟨v, a, b⟩ := atI_of ha h
        exact .inl ⟨_, _, _, v, rfl, rfl, sql_ex eb hs, a, p _ B H (Ext.refl eb) b⟩
    · exact p.elim
  · split at p
    · rename_i h
      cases hy
      cases hx with
      | tup hs ha =>
        obtain ⟨v, a, b⟩ := atI_of ha h
        exact .inr (.inl ⟨_, _, _, v, rfl, rfl, sqt_ex eb hs, a, p _ B H (Ext.refl eb) b⟩)
    · exact p.elim
  · split at p
    · rename_i hz
      split at p
      · rename_i h
        cases hy
        cases hx
        exact .inr (.inr ⟨_, _, _, rfl, rfl, sz100 hz, h, p _ B H (Ext.refl eb) (.str _)⟩)
      · exact p.elim
    · exact p.elim
  · exact p.elim
end
end Sf

namespace Sf
open PySem PySem.Spec PyProof.Rows L2
open Evl (Ex)

/-! ### statements -/
section
variable (K : PySem.W.Frag) (mg : Str → Option Value) (W : WX)
def SPost (ga : Addr) (B0 H0 : Hp) (E : Ends) : Fl → Prop
  | .nx s => ∀ B H σ, ER K ga B0 H0 B H σ s → E.nx σ H
  | .rt d => ∀ v B H, Ext B0 H0 B H → Dp K B v d → E.rt v H
  | .rm d ds => ∀ v (ws : List V) B H, Ext B0 H0 B H → Dp K B v d → H ga = some (.lst ws) → B ga = none → DpAll K B ws ds → E.rt v H
  | .rl ds => ∀ (p : Addr) (ws : List V) B H, Ext B0 H0 B H → H0 p = none → B p = none → H p = some (.lst ws) → DpAll K B ws ds → E.rt (.ref p) H
  | .bk s => ∀ B H σ, ER K ga B0 H0 B H σ s → E.bk σ H
  | .ct s => ∀ B H σ, ER K ga B0 H0 B H σ s → E.ct σ H
  | .ex e s => ∀ cls dd B H σ, ER K ga B0 H0 B H σ s → XRep mg K B e cls dd → W cls dd σ H
  | .no => False
structure SndS (t : TS) (f : Ev → Fl) : Prop where
  run : ∀ ga B0 H0 B H σ s E, ER K ga B0 H0 B H σ s → SPost K mg W ga B0 H0 E (f s) → t E σ H
/-- a target -/
def GPost (ga : Addr) (B0 H0 : Hp) (Q : L2.St → Hp → Prop) : R Ev → Prop
  | .ok s => ∀ B H σ, ER K ga B0 H0 B H σ s → Q σ H
  | _ => False
structure SndG (g : TG) (f : D → Ev → R Ev) : Prop where
  run : ∀ ga B0 H0 B H σ s v d Q, ER K ga B0 H0 B H σ s → Dp K B v d → GPost K ga B0 H0 Q (f d s) → g v σ H Q
structure SndGs (g : TGs) (f : List D → Ev → R Ev) : Prop where
  run : ∀ ga B0 H0 B H σ s vs ds Q, ER K ga B0 H0 B H σ s → DpAll K B vs ds → GPost K ga B0 H0 Q (f ds s) → g vs σ H Q
end
/-- the value stands where an expression's does -/
def xf {α : Type} (s : Ev) (r : R α) (k : α → Fl) : Fl := match r with
  | .ok a => k a
  | .ex e => .ex e s
  | .no => .no
def gSeq (f g : Ev → Fl) : Ev → Fl := fun s => match f s with
  | .nx s' => g s'
  | r => r
def gNext : Ev → Fl := fun s => .nx s
def gRet (f : Ev → R D) : Ev → Fl := fun s => xf s (f s) .rt
def gRetN : Ev → Fl := fun _ => .rt .none
def gBrk : Ev → Fl := fun s => .bk s
def gCnt : Ev → Fl := fun s => .ct s
def gAsg (f : Ev → R D) (tg : D → Ev → R Ev) : Ev → Fl := fun s => xf s (f s) fun d => match tg d s with
  | .ok s' => .nx s'
  | _ => .no
def gIfS (c : Ev → R Bool) (f g : Ev → Fl) : Ev → Fl := fun s => xf s (c s) fun b => if b = true then f s else g s
def gDrop (f : Ev → R D) : Ev → Fl := fun s => xf s (f s) fun _ => .nx s
/-- targets -/
def hName (i : Nat) : D → Ev → R Ev := fun d s => .ok (s.set i (.v d))
def hNil : List D → Ev → R Ev := fun ds s => match ds with
  | [] => .ok s
  | _ => .no
def hCons (t : D → Ev → R Ev) (u : List D → Ev → R Ev) : List D → Ev → R Ev := fun ds s => match ds with
  | d :: r => (t d s).bind (u r)
  | [] => .no
def hTup (n : Nat) (t : List D → Ev → R Ev) : D → Ev → R Ev := fun d s => match d with
  | .tuple ds => if ds.length = n then t ds s else .no
  | _ => .no
/-- an own list: made, lengthened, changed at a place -/
def gOwn (i : Nat) (f : Ev → R D) : Ev → Fl := fun s => xf s (f s) fun
  | .list ds => .nx (s.set i (.o ds))
  | _ => .no
def gApp (i : Nat) (f : Ev → R D) : Ev → Fl := fun s => match s[i]? with
  | some (.o ds) => xf s (f s) fun d => if ds.length < 100000 then .nx (s.set i (.o (ds ++ [d]))) else .no
  | some (.m ds) => xf s (f s) fun d => if ds.length < 100000 then .nx (s.set i (.m (ds ++ [d]))) else .no
  | _ => .no
def gPut (i : Nat) (f g : Ev → R D) : Ev → Fl := fun s => match s[i]? with
  | some (.o ds) => xf s (f s) fun d => xf s (g s) fun
    | .int k => match ixN ds.length k with
      | some j => .nx (s.set i (.o (ds.set j d)))
      | none => .no
    | _ => .no
  | some (.m ds) => xf s (f s) fun d => xf s (g s) fun
    | .int k => match ixN ds.length k with
      | some j => .nx (s.set i (.m (ds.set j d)))
      | none => .no
    | _ => .no
  | _ => .no
/-- no text of the program: an own list is from here on data -/
def gLet (i : Nat) (f : Ev → Fl) : Ev → Fl := fun s => match s[i]? with
  | some (.o ds) => f (s.set i (.v (.list ds)))
  | _ => f s
/-- reading an own list: an item, the length, a slice -/
def fIxO (i : Nat) (g : Ev → R D) : Ev → R D := fun s => match s[i]? with
  | some (.o ds) => (g s).bind fun k => gIx (.list ds) k
  | some (.m ds) => (g s).bind fun k => gIx (.list ds) k
  | some (.v d) => (g s).bind fun k => gIx d k
  | _ => .no
def fLenO (i : Nat) : Ev → R D := fun s => match s[i]? with
  | some (.o ds) => .ok (.int ds.length)
  | some (.m ds) => .ok (.int ds.length)
  | _ => .no

section
variable {K : PySem.W.Frag} {mg : Str → Option Value} {W : WX}
/-- an expression in a statement -/
theorem SndE.stm {t : TE} {f : Ev → R D} (h : SndE K mg W t f) {ga : Addr} {B0 H0 B H : Hp} {σ : L2.St} {s : Ev} {E : Ends} {Q1 : VK} {k : D → Fl} (e : ER K ga B0 H0 B H σ s)
    (p : SPost K mg W ga B0 H0 E (xf s (f s) k)) (q : ∀ d v B1 H1, f s = .ok d → Ext B H B1 H1 → Dp K B1 v d → ER K ga B0 H0 B1 H1 σ s → SPost K mg W ga B0 H0 E (k d) → Q1 v H1) : t σ H Q1 := by
  refine h.run ga B0 H0 B H σ s Q1 e ?_
  cases hf : f s with
  | ok d =>
    rw [hf] at p
    exact fun v B1 H1 x r => q d v B1 H1 hf x r (e.more x) p
  | ex y =>
    rw [hf] at p
    exact fun cls dd B1 H1 x r => p cls dd B1 H1 σ (e.more x) r
  | no =>
    rw [hf] at p
    exact p.elim
theorem SndT.stm {t : TT} {f : Ev → R Bool} (h : SndT K mg W t f) {ga : Addr} {B0 H0 B H : Hp} {σ : L2.St} {s : Ev} {E : Ends} {Q1 : Bool → Hp → Prop} {k : Bool → Fl} (e : ER K ga B0 H0 B H σ s)
    (p : SPost K mg W ga B0 H0 E (xf s (f s) k)) (q : ∀ b B1 H1, f s = .ok b → Ext B H B1 H1 → ER K ga B0 H0 B1 H1 σ s → SPost K mg W ga B0 H0 E (k b) → Q1 b H1) : t σ H Q1 := by
  refine h.run ga B0 H0 B H σ s Q1 e ?_
  cases hf : f s with
  | ok d =>
    rw [hf] at p
    exact fun B1 H1 x => q d B1 H1 hf x (e.more x) p
  | ex y =>
    rw [hf] at p
    exact fun cls dd B1 H1 x r => p cls dd B1 H1 σ (e.more x) r
  | no =>
    rw [hf] at p
    exact p.elim
theorem snd_next : SndS K mg W tNext gNext := ⟨fun ga _ _ B H σ s E e p => p B H σ e⟩
theorem snd_brk : SndS K mg W tBreak gBrk := ⟨fun ga _ _ B H σ s E e p => p B H σ e⟩
theorem snd_cnt : SndS K mg W tCont gCnt := ⟨fun ga _ _ B H σ s E e p => p B H σ e⟩
theorem snd_retN : SndS K mg W tRetN gRetN := ⟨fun ga _ _ B H σ s E e p => p .non B H e.ext .non⟩
theorem snd_seq {t u : TS} {f g : Ev → Fl} (ht : SndS K mg W t f) (hu : SndS K mg W u g) : SndS K mg W (tSeq t u) (gSeq f g) := by
  refine ⟨fun ga B0 H0 B H σ s E e p => ?_⟩
  refine ht.run ga B0 H0 B H σ s _ e ?_
  unfold gSeq at p
  cases hf : f s with
  | nx s' =>
    rw [hf] at p
    exact fun B1 H1 σ1 e1 => hu.run ga B0 H0 B1 H1 σ1 s' E e1 p
  | rt d =>
    rw [hf] at p
    exact p
  | rl ds =>
    rw [hf] at p
    exact p
  | rm d ds =>
    rw [hf] at p
    exact p
  | bk s' =>
    rw [hf] at p
    exact p
  | ct s' =>
    rw [hf] at p
    exact p
  | ex y s' =>
    rw [hf] at p
    exact p
  | no =>
    rw [hf] at p
    exact p
theorem snd_ret {t : TE} {f : Ev → R D} (h : SndE K mg W t f) : SndS K mg W (tRet t) (gRet f) := by
  refine ⟨fun ga B0 H0 B H σ s E e p => ?_⟩
  exact h.stm e p fun d v B1 H1 _ x q e1 p1 => p1 v B1 H1 e1.ext q
theorem snd_ifS {c : TT} {t u : TS} {b : Ev → R Bool} {f g : Ev → Fl} (hc : SndT K mg W c b) (ht : SndS K mg W t f) (hu : SndS K mg W u g) : SndS K mg W (tIfS c t u) (gIfS b f g) := by
  refine ⟨fun ga B0 H0 B H σ s E e p => ?_⟩
  refine hc.stm e p fun b B1 H1 _ x e1 p1 => ?_
  cases b with
  | true => exact ht.run ga B0 H0 B1 H1 σ s E e1 p1
  | false => exact hu.run ga B0 H0 B1 H1 σ s E e1 p1
theorem snd_drop {t : TE} {f : Ev → R D} (h : SndE K mg W t f) : SndS K mg W (tDrop t) (gDrop f) := by
  refine ⟨fun ga B0 H0 B H σ s E e p => ?_⟩
  exact h.stm e p fun d v B1 H1 _ x q e1 p1 => p1 B1 H1 σ e1
/-! ### targets -/
theorem sg_name {i : Nat} : SndG K (gName i) (hName i) := ⟨fun ga B0 H0 B H σ s v d Q e q p => p B H _ (e.set q)⟩
theorem sg_nil : SndGs K gNil hNil := by
  refine ⟨fun ga B0 H0 B H σ s vs ds Q e q p => ?_⟩
  cases q with
  | nil => exact ⟨rfl, p B H σ e⟩
  | cons _ _ => exact p.elim
theorem GPost.ok {ga : Addr} {B0 H0 : Hp} {Q : L2.St → Hp → Prop} {r : R Ev} {k : Ev → R Ev} (p : GPost K ga B0 H0 Q (r.bind k)) : ∃ s, r = .ok s ∧ GPost K ga B0 H0 Q (k s) := by
  cases r with
  | ok s => exact ⟨s, rfl, p⟩
  | ex _ => exact p.elim
  | no => exact p.elim
theorem sg_cons {g : TG} {gs : TGs} {t : D → Ev → R Ev} {u : List D → Ev → R Ev} (h : SndG K g t) (k : SndGs K gs u) : SndGs K (gCons g gs) (hCons t u) := by
  refine ⟨fun ga B0 H0 B H σ s vs ds Q e q p => ?_⟩
  cases q with
  | nil => exact p.elim
  | cons q1 q2 =>
    obtain ⟨s1, h1, p1⟩ := GPost.ok p
    refine ⟨_, _, rfl, h.run ga B H0 B H σ s _ _ _ e.floor q1 ?_⟩
    rw [h1]
    intro B1 H1 σ1 e1
    exact k.run ga B0 H0 B1 H1 σ1 s1 _ _ Q (ER.unfloor e.ext e1) (DpAll.ex e1.ext.b _ _ q2) p1
theorem sg_tup {n : Nat} {gs : TGs} {u : List D → Ev → R Ev} (k : SndGs K gs u) : SndG K (gTup K n gs) (hTup n u) := by
  refine ⟨fun ga B0 H0 B H σ s v d Q e q p => ?_⟩
  cases q with
  | tup hs ha =>
    replace p : GPost K ga B0 H0 Q (if _ = n then u _ s else .no) := p
    split at p
    · rename_i hz
      exact ⟨_, _, rfl, sqt_ex e.ext.s hs, by rw [DpAll.len ha]; exact hz, k.run ga B0 H0 B H σ s _ _ Q e ha p⟩
    · exact p.elim
  | _ => exact p.elim
theorem snd_asg {t : TE} {f : Ev → R D} {g : TG} {tg : D → Ev → R Ev} (h : SndE K mg W t f) (hg : SndG K g tg) : SndS K mg W (tAsg t g) (gAsg f tg) := by
  refine ⟨fun ga B0 H0 B H σ s E e p => ?_⟩
  refine h.stm e p fun d v B1 H1 _ x q e1 p1 => ?_
  refine hg.run ga B0 H0 B1 H1 σ s v d _ e1 q ?_
  cases hx : tg d s with
  | ok s1 =>
    rw [hx] at p1
    exact p1
  | ex _ =>
    rw [hx] at p1
    exact p1.elim
  | no =>
    rw [hx] at p1
    exact p1.elim
/-! ### own lists -/
/-- an expression that makes a new list -/
structure SndL (K : PySem.W.Frag) (mg : Str → Option Value) (W : WX) (t : TE) (f : Ev → R D) : Prop where
  run : ∀ ga B0 H0 B H σ s Q, ER K ga B0 H0 B H σ s → (match f s with
    | .ok d => ∀ (p : Addr) (vs : List V) (ds : List D) B' H', d = .list ds → Ext B H B' H' → H p = none → B' p = none → H' p = some (.lst vs) → DpAll K B' vs ds → Q (.ref p) H'
    | .ex e => ∀ cls dd B' H', Ext B H B' H' → XRep mg K B' e cls dd → W cls dd σ H'
    | .no => False) → t σ H Q
theorem SndL.toE {t : TE} {f : Ev → R D} (h : SndL K mg W t f) : SndE K mg W t f := by
  refine ⟨fun ga B0 H0 B H σ s Q e p => h.run ga B0 H0 B H σ s Q e ?_⟩
  cases hf : f s with
  | ok d =>
    rw [hf] at p
    intro a vs ds B1 H1 hd x h0 hb h1 q
    subst hd
    have eb : Ex B1 (upd B1 a (.lst vs)) := Ex.new hb
    refine p (.ref a) (upd B1 a (.lst vs)) H1 ⟨x.b.trans eb, x.h, fun c u g => ?_, fun c u g n => ?_⟩ (.lst (SqL.of upd_same) (DpAll.ex eb _ _ q))
    · by_cases z : c = a
      · subst z
        rw [upd_same] at g
        rw [← g]
        exact h1
      · rw [upd_ne z] at g
        exact x.s c u g
    · have z : c ≠ a := fun z => by
        subst z
        rw [h0] at g
        cases g
      rw [upd_ne z]
      exact x.o c u g n
  | ex y =>
    rw [hf] at p
    exact p
  | no =>
    rw [hf] at p
    exact p
theorem own_new {ga : Addr} {B0 H0 B H B1 H1 : Hp} {σ : L2.St} {s : Ev} {p : Addr} (e : ER K ga B0 H0 B H σ s) (x : Ext B H B1 H1) (h0 : H p = none) :
    H0 p = none ∧ ∀ (j : Nat) (es : List D), s[j]? = some (.o es) → σ[j]? ≠ some (some (.ref p)) := by
  refine ⟨Evl.fresh_back e.ext.h h0, fun j es hj hσ => ?_⟩
  obtain ⟨q, vs, a, b, _⟩ := e.own j es hj
  rw [hσ] at a
  cases a
  rw [h0] at b
  cases b
theorem own_newM {ga : Addr} {B0 H0 B H : Hp} {σ : L2.St} {s : Ev} {p : Addr} (e : ER K ga B0 H0 B H σ s) (h0 : H p = none) : ∀ (j : Nat) (es : List D), s[j]? = some (.m es) → p ≠ ga := by
  intro j es hj z
  obtain ⟨vs, _, b, _⟩ := e.pin.lent j es hj
  subst z
  rw [h0] at b
  cases b
theorem snd_own {i : Nat} {t : TE} {f : Ev → R D} (h : SndL K mg W t f) : SndS K mg W (tAsg t (gName i)) (gOwn i f) := by
  refine ⟨fun ga B0 H0 B H σ s E e p => h.run ga B0 H0 B H σ s _ e ?_⟩
  unfold gOwn at p
  cases hf : f s with
  | ok d =>
    rw [hf] at p
    intro a vs ds B1 H1 hd x h0 hb h1 q
    subst hd
    obtain ⟨z0, new⟩ := own_new e x h0
    exact p B1 H1 _ ((e.more x).setO h1 hb z0 q new (own_newM e h0))
  | ex y =>
    rw [hf] at p
    exact fun cls dd B1 H1 x r => p cls dd B1 H1 σ (e.more x) r
  | no =>
    rw [hf] at p
    exact p.elim
/-- a new list handed out, the caller's own from then on -/
def gRetL (f : Ev → R D) : Ev → Fl := fun s => xf s (f s) fun
  | .list ds => .rl ds
  | _ => .no
def gRetO (i : Nat) : Ev → Fl := fun s => match s[i]? with
  | some (.o ds) => .rl ds
  | _ => .no
theorem snd_retL {t : TE} {f : Ev → R D} (h : SndL K mg W t f) : SndS K mg W (tRet t) (gRetL f) := by
  refine ⟨fun ga B0 H0 B H σ s E e p => h.run ga B0 H0 B H σ s _ e ?_⟩
  unfold gRetL at p
  cases hf : f s with
  | ok d =>
    rw [hf] at p
    intro a vs ds B1 H1 hd x h0 hb h1 q
    subst hd
    exact p a vs B1 H1 (e.ext.trans x) (Evl.fresh_back e.ext.h h0) hb h1 q
  | ex y =>
    rw [hf] at p
    exact fun cls dd B1 H1 x r => p cls dd B1 H1 σ (e.more x) r
  | no =>
    rw [hf] at p
    exact p.elim
theorem snd_retO {i : Nat} : SndS K mg W (tRet (tVar i)) (gRetO i) := by
  refine ⟨fun ga B0 H0 B H σ s E e p => ?_⟩
  unfold gRetO at p
  split at p
  · rename_i ds hi
    obtain ⟨a, vs, hσ, hp, hb, h0, hd⟩ := e.own i ds hi
    exact ⟨.ref a, hσ, p a vs B H e.ext h0 hb hp hd⟩
  · exact p.elim
theorem snd_app {i : Nat} {t : TE} {f : Ev → R D} (h : SndE K mg W t f) : SndS K mg W (tDrop (tBM K "list" rAppend (tVar i) (tCons t tNil))) (gApp i f) := by
  refine ⟨fun ga B0 H0 B H σ s E e p => ?_⟩
  unfold gApp at p
  split at p
  · rename_i ds hi
    obtain ⟨a, vs, hσ, hp, hb, h0, hd⟩ := e.own i ds hi
    refine ⟨.ref a, hσ, .inl ⟨rfl, vs, SqL.of hp⟩, ?_⟩
    refine h.stm e p fun d v B1 H1 _ x q e1 p1 => ?_
    have hp1 : H1 a = some (.lst vs) := x.h a _ hp
    have hb1 : B1 a = none := x.o a _ hp hb
    split at p1
    · rename_i hz
      refine ⟨a, vs, v, rfl, rfl, hp1, Evl.sz_lt (by rw [DpAll.len hd]; exact hz), ?_⟩
      exact p1 B1 _ σ (e1.write hi hσ hp1 hb1 h0 (DpAll.append (DpAll.ex x.b _ _ hd) (.cons q .nil)))
    · exact p1.elim
  · rename_i ds hi
    obtain ⟨vs, hσ, hp, hb, h0, hd⟩ := e.pin.lent i ds hi
    refine ⟨.ref ga, hσ, .inl ⟨rfl, vs, SqL.of hp⟩, ?_⟩
    refine h.stm e p fun d v B1 H1 _ x q e1 p1 => ?_
    have hp1 : H1 ga = some (.lst vs) := x.h ga _ hp
    split at p1
    · rename_i hz
      refine ⟨ga, vs, v, rfl, rfl, hp1, Evl.sz_lt (by rw [DpAll.len hd]; exact hz), ?_⟩
      exact p1 B1 _ σ (e1.writeM hi (DpAll.append (DpAll.ex x.b _ _ hd) (.cons q .nil)))
    · exact p1.elim
  · exact p.elim
theorem snd_put {i : Nat} {t u : TE} {f g : Ev → R D} (h : SndE K mg W t f) (k : SndE K mg W u g) : SndS K mg W (tAsg t (gSub (tVar i) u rSetL)) (gPut i f g) := by
  refine ⟨fun ga B0 H0 B H σ s E e p => ?_⟩
  unfold gPut at p
  split at p
  · rename_i ds hi
    obtain ⟨a, vs, hσ, hp, hb, h0, hd⟩ := e.own i ds hi
    refine h.stm e p fun d v B1 H1 _ x q e1 p1 => ?_
    refine ⟨.ref a, hσ, ?_⟩
    refine k.stm e1 p1 fun d2 v2 B2 H2 _ x2 q2 e2 p2 => ?_
    have hp1 : H2 a = some (.lst vs) := x2.h a _ (x.h a _ hp)
    have hb1 : B2 a = none := x2.o a _ (x.h a _ hp) (x.o a _ hp hb)
    cases q2 with
    | int j =>
      replace p2 : SPost K mg W ga B0 H0 E (match ixN ds.length j with | some j => .nx (s.set i (.o (ds.set j d))) | none => .no) := p2
      split at p2
      · rename_i m hm
        refine ⟨a, vs, j, m, rfl, rfl, hp1, by rw [DpAll.len hd]; exact hm, ?_⟩
        exact p2 B2 _ σ (e2.write hi hσ hp1 hb1 h0 (DpAll.set (Dp.ex x2.b _ _ q) m (DpAll.ex x2.b _ _ (DpAll.ex x.b _ _ hd))))
      · exact p2.elim
    | _ => exact p2.elim
  · rename_i ds hi
    obtain ⟨vs, hσ, hp, hb, h0, hd⟩ := e.pin.lent i ds hi
    refine h.stm e p fun d v B1 H1 _ x q e1 p1 => ?_
    refine ⟨.ref ga, hσ, ?_⟩
    refine k.stm e1 p1 fun d2 v2 B2 H2 _ x2 q2 e2 p2 => ?_
    have hp1 : H2 ga = some (.lst vs) := x2.h ga _ (x.h ga _ hp)
    cases q2 with
    | int j =>
      replace p2 : SPost K mg W ga B0 H0 E (match ixN ds.length j with | some j => .nx (s.set i (.m (ds.set j d))) | none => .no) := p2
      split at p2
      · rename_i m hm
        refine ⟨ga, vs, j, m, rfl, rfl, hp1, by rw [DpAll.len hd]; exact hm, ?_⟩
        exact p2 B2 _ σ (e2.writeM hi (DpAll.set (Dp.ex x2.b _ _ q) m (DpAll.ex x2.b _ _ (DpAll.ex x.b _ _ hd))))
      · exact p2.elim
    | _ => exact p2.elim
  · exact p.elim
theorem snd_let {i : Nat} {t : TS} {f : Ev → Fl} (h : SndS K mg W t f) : SndS K mg W t (gLet i f) := by
  refine ⟨fun ga B0 H0 B H σ s E e p => ?_⟩
  unfold gLet at p
  split at p
  · rename_i ds hi
    obtain ⟨B1, e1, _⟩ := e.drop hi
    exact h.run ga B0 H0 B1 H σ _ E e1 p
  · exact h.run ga B0 H0 B H σ s E e p
theorem snd_ixO {i : Nat} {t : TE} {g : Ev → R D} (h : SndE K mg W t g) : SndE K mg W (tOp (rIx K) (tVar i) t) (fIxO i g) := by
  refine ⟨fun ga B0 H0 B H σ s Q e p => ?_⟩
  unfold fIxO at p
  split at p
  · rename_i ds hi
    obtain ⟨a, vs, hσ, hp, hb, h0, hd⟩ := e.own i ds hi
    refine ⟨.ref a, hσ, ?_⟩
    refine h.bind e p fun d v B1 H1 _ x q e1 p1 => ?_
    have p2 := EPost.of_o p1 (ix_nx _ d)
    unfold gIx at p2
    split at p2
    · rename_i xs j ex _
      cases ex
      split at p2
      · rename_i z hz
        cases q
        obtain ⟨w, g1, g2⟩ := atI_of hd hz
        exact .inl ⟨a, vs, _, w, rfl, rfl, SqL.of (x.h a _ hp), g1, p2 w B1 H1 e1.here (Dp.ex x.b _ _ g2)⟩
      · exact p2.elim
    · rename_i ex _
      cases ex
    · rename_i ex _
      cases ex
    · exact p2.elim
  · rename_i ds hi
    obtain ⟨vs, hσ, hp, hb, h0, hd⟩ := e.pin.lent i ds hi
    refine ⟨.ref ga, hσ, ?_⟩
    refine h.bind e p fun d v B1 H1 _ x q e1 p1 => ?_
    have p2 := EPost.of_o p1 (ix_nx _ d)
    unfold gIx at p2
    split at p2
    · rename_i xs j ex _
      cases ex
      split at p2
      · rename_i z hz
        cases q
        obtain ⟨w, g1, g2⟩ := atI_of hd hz
        exact .inl ⟨ga, vs, _, w, rfl, rfl, SqL.of (x.h ga _ hp), g1, p2 w B1 H1 e1.here (Dp.ex x.b _ _ g2)⟩
      · exact p2.elim
    · rename_i ex _
      cases ex
    · rename_i ex _
      cases ex
    · exact p2.elim
  · rename_i d0 hi
    obtain ⟨v0, hσ, q0⟩ := e.val i d0 hi
    refine ⟨v0, hσ, ?_⟩
    refine h.bind e p fun d v B1 H1 _ x q e1 p1 => ?_
    exact sr_ix.run B1 H1 v0 v d0 d Q e1.ext.s (Dp.ex x.b _ _ q0) q (EPost.of_o p1 (ix_nx _ _))
  · exact p.elim
def rLenA (K : PySem.W.Frag) : List V → Hp → VK → Prop := fun xs H Q => (∃ p ys, xs = [.ref p] ∧ (SqL K H p ys ∨ SqT K H p ys) ∧ Q (.int ys.length) H) ∨ ∃ z, xs = [.str z] ∧ z.length ≤ sizeLine ∧ Q (.int z.length) H
theorem call_lenA {X : Cx} : CallR X (.builtin "len") (rLenA X.K) := call_len_seq.or call_len_str
theorem snd_lenO {i : Nat} : SndE K mg W (tCB (rLenA K) (tCons (tVar i) tNil)) (fLenO i) := by
  refine ⟨fun ga B0 H0 B H σ s Q e p => ?_⟩
  unfold fLenO at p
  split at p
  · rename_i ds hi
    obtain ⟨a, vs, hσ, hp, hb, h0, hd⟩ := e.own i ds hi
    refine ⟨.ref a, hσ, .inl ⟨a, vs, rfl, .inl (SqL.of hp), ?_⟩⟩
    rw [DpAll.len hd]
    exact p _ B H e.here (.int _)
  · rename_i ds hi
    obtain ⟨vs, hσ, hp, hb, h0, hd⟩ := e.pin.lent i ds hi
    refine ⟨.ref ga, hσ, .inl ⟨ga, vs, rfl, .inl (SqL.of hp), ?_⟩⟩
    rw [DpAll.len hd]
    exact p _ B H e.here (.int _)
  · exact p.elim
def gLen : List D → R D
  | [.list xs] => .ok (.int xs.length)
  | [.tuple xs] => .ok (.int xs.length)
  | [.str x] => if x.length ≤ 100000 then .ok (.int x.length) else .no
  | _ => .no
theorem dp1 {B : Hp} {xs : List V} {d : D} (h : DpAll K B xs [d]) : ∃ v, xs = [v] ∧ Dp K B v d := by
  cases h with
  | cons h1 h2 =>
    cases h2
    exact ⟨_, rfl, h1⟩
theorem dp2 {B : Hp} {xs : List V} {d e : D} (h : DpAll K B xs [d, e]) : ∃ v w, xs = [v, w] ∧ Dp K B v d ∧ Dp K B w e := by
  cases h with
  | cons h1 h2 =>
    obtain ⟨w, rfl, h3⟩ := dp1 h2
    exact ⟨_, w, rfl, h1, h3⟩
theorem len_nx (d : List D) (x : Exn) : gLen d ≠ .ex x := by
  unfold gLen
  split
  · exact fun z => nomatch z
  · exact fun z => nomatch z
  · split <;> exact fun z => nomatch z
  · exact fun z => nomatch z
theorem sr_len : SndRL K (rLenA K) gLen := by
  refine ⟨fun B H xs ds Q eb h p => ?_⟩
  unfold gLen at p
  split at p
  · obtain ⟨v, rfl, q⟩ := dp1 h
    cases q with
    | lst hs ha => exact .inl ⟨_, _, rfl, .inl (sql_ex eb hs), by rw [DpAll.len ha]; exact p _ B H (Ext.refl eb) (.int _)⟩
  · obtain ⟨v, rfl, q⟩ := dp1 h
    cases q with
    | tup hs ha => exact .inl ⟨_, _, rfl, .inr (sqt_ex eb hs), by rw [DpAll.len ha]; exact p _ B H (Ext.refl eb) (.int _)⟩
  · obtain ⟨v, rfl, q⟩ := dp1 h
    cases q
    split at p
    · rename_i hz
      exact .inr ⟨_, rfl, sz100 hz, p _ B H (Ext.refl eb) (.int _)⟩
    · exact p.elim
  · exact p.elim
/-! ### small built-ins -/
def gInt1 : List D → R D
  | [.int i] => .ok (.int i)
  | [.bool b] => .ok (.int (if b then 1 else 0))
  | _ => .no
theorem int1_nx (d : List D) (x : Exn) : gInt1 d ≠ .ex x := by unfold gInt1; split <;> exact fun z => nomatch z
theorem sr_int1 : SndRL K (fun xs H Q => (∃ i, xs = [.int i] ∧ Q (.int i) H) ∨ ∃ k, xs = [.bl k] ∧ Q (.int (if k then 1 else 0)) H) gInt1 := by
  refine ⟨fun B H xs ds Q eb h p => ?_⟩
  unfold gInt1 at p
  split at p
  · obtain ⟨v, rfl, q⟩ := dp1 h
    cases q
    exact .inl ⟨_, rfl, p _ B H (Ext.refl eb) (.int _)⟩
  · obtain ⟨v, rfl, q⟩ := dp1 h
    cases q
    exact .inr ⟨_, rfl, p _ B H (Ext.refl eb) (.int _)⟩
  · exact p.elim
def gAbs : List D → R D
  | [.int i] => .ok (.int (if i < 0 then -i else i))
  | _ => .no
theorem abs_nx (d : List D) (x : Exn) : gAbs d ≠ .ex x := by unfold gAbs; split <;> exact fun z => nomatch z
theorem sr_abs : SndRL K (fun xs H Q => ∃ i, xs = [.int i] ∧ Q (.int (if i < 0 then -i else i)) H) gAbs := by
  refine ⟨fun B H xs ds Q eb h p => ?_⟩
  unfold gAbs at p
  split at p
  · obtain ⟨v, rfl, q⟩ := dp1 h
    cases q
    exact ⟨_, rfl, p _ B H (Ext.refl eb) (.int _)⟩
  · exact p.elim
def gMax2 : List D → R D
  | [.int i, .int j] => .ok (.int (if j > i then j else i))
  | _ => .no
theorem max2_nx (d : List D) (x : Exn) : gMax2 d ≠ .ex x := by unfold gMax2; split <;> exact fun z => nomatch z
theorem sr_max2 : SndRL K (fun xs H Q => ∃ i j, xs = [.int i, .int j] ∧ Q (.int (if j > i then j else i)) H) gMax2 := by
  refine ⟨fun B H xs ds Q eb h p => ?_⟩
  unfold gMax2 at p
  split at p
  · obtain ⟨v, w, rfl, q, q2⟩ := dp2 h
    cases q
    cases q2
    exact ⟨_, _, rfl, p _ B H (Ext.refl eb) (.int _)⟩
  · exact p.elim
def gMin2 : List D → R D
  | [.int i, .int j] => .ok (.int (if j < i then j else i))
  | _ => .no
theorem min2_nx (d : List D) (x : Exn) : gMin2 d ≠ .ex x := by unfold gMin2; split <;> exact fun z => nomatch z
theorem sr_min2 : SndRL K (fun xs H Q => ∃ i j, xs = [.int i, .int j] ∧ Q (.int (if j < i then j else i)) H) gMin2 := by
  refine ⟨fun B H xs ds Q eb h p => ?_⟩
  unfold gMin2 at p
  split at p
  · obtain ⟨v, w, rfl, q, q2⟩ := dp2 h
    cases q
    cases q2
    exact ⟨_, _, rfl, p _ B H (Ext.refl eb) (.int _)⟩
  · exact p.elim
def gGcd : List D → R D
  | [.int i, .int j] => .ok (.int ((Nat.gcd i.natAbs j.natAbs : Nat) : Int))
  | _ => .no
theorem gcd_nx (d : List D) (x : Exn) : gGcd d ≠ .ex x := by unfold gGcd; split <;> exact fun z => nomatch z
theorem sr_gcd : SndRL K rGcd gGcd := by
  refine ⟨fun B H xs ds Q eb h p => ?_⟩
  unfold gGcd at p
  split at p
  · obtain ⟨v, w, rfl, q, q2⟩ := dp2 h
    cases q
    cases q2
    exact ⟨_, _, rfl, p _ B H (Ext.refl eb) (.int _)⟩
  · exact p.elim
def gStrI : List D → R D
  | [.int i] => if i.natAbs.log2 < 1920 then .ok (.str (toString i)) else .no
  | _ => .no
theorem strI_nx (d : List D) (x : Exn) : gStrI d ≠ .ex x := by
  unfold gStrI
  split
  · split <;> exact fun z => nomatch z
  · exact fun z => nomatch z
theorem sr_strI : SndRL K (fun xs H Q => ∃ i, xs = [.int i] ∧ i.natAbs.log2 < 1920 ∧ Q (.str (toString i)) H) gStrI := by
  refine ⟨fun B H xs ds Q eb h p => ?_⟩
  unfold gStrI at p
  split at p
  · obtain ⟨v, rfl, q⟩ := dp1 h
    cases q
    split at p
    · rename_i hz
      exact ⟨_, rfl, hz, p _ B H (Ext.refl eb) (.str _)⟩
    · exact p.elim
  · exact p.elim
/-- all, any of a list of truth values -/
def bools : List D → Option (List Bool)
  | [] => some []
  | .bool b :: r => (bools r).map (b :: ·)
  | _ :: _ => none
theorem bools_of {B : Hp} : ∀ {ds : List D} {vs : List V} {bs : List Bool}, DpAll K B vs ds → bools ds = some bs → vs = bs.map V.bl
  | [], _, bs, h, e => by
    cases h
    cases e
    rfl
  | d :: ds, _, bs, h, e => by
    cases h with
    | cons h1 h2 =>
      cases h1 with
      | bl b =>
        cases hb : bools ds with
        | none =>
          rw [show bools (.bool b :: ds) = (bools ds).map (b :: ·) from rfl, hb] at e
          cases e
        | some cs =>
          rw [show bools (.bool b :: ds) = (bools ds).map (b :: ·) from rfl, hb] at e
          cases e
          rw [bools_of h2 hb]
          rfl
      | _ => cases e
def gAll : List D → R D
  | [.list xs] => match bools xs with
    | some bs => .ok (.bool (bs.all id))
    | none => .no
  | _ => .no
def gAny : List D → R D
  | [.list xs] => match bools xs with
    | some bs => .ok (.bool (bs.any id))
    | none => .no
  | _ => .no
theorem all_nx (d : List D) (x : Exn) : gAll d ≠ .ex x := by
  unfold gAll
  split
  · split <;> exact fun z => nomatch z
  · exact fun z => nomatch z
theorem any_nx (d : List D) (x : Exn) : gAny d ≠ .ex x := by
  unfold gAny
  split
  · split <;> exact fun z => nomatch z
  · exact fun z => nomatch z
theorem sr_all : SndRL K (rAll K) gAll := by
  refine ⟨fun B H xs ds Q eb h p => ?_⟩
  unfold gAll at p
  split at p
  · obtain ⟨v, rfl, q⟩ := dp1 h
    split at p
    · rename_i bs hb
      cases q with
      | lst hs ha => exact ⟨_, bs, rfl, by rw [← bools_of ha hb]; exact sql_ex eb hs, p _ B H (Ext.refl eb) (.bl _)⟩
    · exact p.elim
  · exact p.elim
theorem sr_any : SndRL K (rAny K) gAny := by
  refine ⟨fun B H xs ds Q eb h p => ?_⟩
  unfold gAny at p
  split at p
  · obtain ⟨v, rfl, q⟩ := dp1 h
    split at p
    · rename_i bs hb
      cases q with
      | lst hs ha => exact ⟨_, bs, rfl, by rw [← bools_of ha hb]; exact sql_ex eb hs, p _ B H (Ext.refl eb) (.bl _)⟩
    · exact p.elim
  · exact p.elim
/-- isinstance against one built-in class -/
def tyD : D → Option String
  | .none => some "NoneType"
  | .bool _ => some "bool"
  | .int _ => some "int"
  | .str _ => some "str"
  | .list _ => some "list"
  | .tuple _ => some "tuple"
  | _ => none
def gIsi (T : String) (d : D) : R D := match tyD d with
  | some u => match kitB u T with
    | some b => .ok (.bool b)
    | none => .no
  | none => .no
theorem isi_nx {T : String} (d : D) (x : Exn) : gIsi T d ≠ .ex x := by
  unfold gIsi
  split
  · split <;> exact fun z => nomatch z
  · exact fun z => nomatch z
theorem tyX_of {B H : Hp} {v : V} {d : D} {u : String} (eb : Ex B H) (h : Dp K B v d) (e : tyD d = some u) : TyX K H v (.type u) := by
  cases h with
  | non => cases e; exact .base .non
  | bl b => cases e; exact .base (.bl b)
  | int i => cases e; exact .base (.int i)
  | str x => cases e; exact .base (.str x)
  | lst hs ha =>
    cases e
    rcases sql_ex eb hs with (h | ⟨o, h⟩) | ⟨o, its, n, h, hc, _⟩
    · exact .base (.lst h)
    · exact .base (.frz h)
    · exact .kList h hc
  | tup hs ha =>
    cases e
    rcases sqt_ex eb hs with (h | ⟨o, h⟩) | ⟨o, its, n, h, hc, _⟩
    · exact .base (.tup h)
    · exact .fTuple h
    · exact .kTuple h hc
theorem snd_isi {T : String} {t : TE} {f : Ev → R D} (h : SndE K mg W t f) : SndE K mg W (tCB (rIsi K) (tCons t (tCons (tC (.ty T)) tNil))) (fUn (gIsi T) f) := by
  refine ⟨fun ga B0 H0 B H σ s Q e p => ?_⟩
  refine h.bind e p fun d v B1 H1 _ x1 q1 e1 p1 => ?_
  have p2 := EPost.of_o p1 (isi_nx d)
  unfold gIsi at p2
  split at p2
  · rename_i u hu
    split at p2
    · rename_i b hb
      exact ⟨v, .ty T, .type u, .type T, b, rfl, .ty T, tyX_of e1.ext.s q1 hu, kit_ty hb, p2 _ B1 H1 e1.here (.bl b)⟩
    · exact p2.elim
  · exact p2.elim
end
end Sf

namespace Sf
open PySem PySem.Spec PyProof.Rows L2
open Evl (Ex)

/-! ### what a loop walks -/
/-- from a baseline B1 on, the iterator yields the items of ds -/
def Walk (K : PySem.W.Frag) (B1 : Hp) (J : It) (ds : List D) : Prop := ∀ B H, Ex B1 B → Ex B H →
  (∀ i, i < ds.length → J.go i H ∧ ∀ x H1, J.yld i H x H1 → ∃ B2 d, Ext B H B2 H1 ∧ ds[i]? = some d ∧ Dp K B2 x d) ∧ J.stop ds.length H
section
variable (K : PySem.W.Frag) (mg : Str → Option Value) (W : WX)
structure SndI (wi : TI) (f : Ev → R (List D)) : Prop where
  run : ∀ ga B0 H0 B H σ s (Q : It → Hp → Prop), ER K ga B0 H0 B H σ s → (match f s with
    | .ok ds => ∀ J B' H', Ext B H B' H' → Walk K B' J ds → Q J H'
    | .ex e => ∀ cls dd B' H', Ext B H B' H' → XRep mg K B' e cls dd → W cls dd σ H'
    | .no => False) → wi σ H Q
end
def gLoop (tg : D → Ev → R Ev) (b : Ev → Fl) : List D → Ev → Fl
  | [], s => .nx s
  | d :: r, s => match tg d s with
    | .ok s1 => match b s1 with
      | .nx s2 => gLoop tg b r s2
      | .ct s2 => gLoop tg b r s2
      | .bk s2 => .nx s2
      | z => z
    | _ => .no
def gFor (src : Ev → R (List D)) (tg : D → Ev → R Ev) (b : Ev → Fl) : Ev → Fl := fun s => xf s (src s) fun ds => gLoop tg b ds s
def gWhile (c : Ev → R Bool) (b : Ev → Fl) : Nat → Ev → Fl
  | 0, _ => .no
  | n + 1, s => xf s (c s) fun t => if t = true then match b s with
      | .nx s2 => gWhile c b n s2
      | .ct s2 => gWhile c b n s2
      | .bk s2 => .nx s2
      | z => z
    else .nx s
/-- a comprehension's turns -/
def cLoop (tg : D → Ev → R Ev) (t : Ev → R Bool) (f : Ev → R D) (s : Ev) : List D → R (List D)
  | [] => .ok []
  | d :: r => match tg d s with
    | .ok s1 => match t s1 with
      | .ok true => match f s1 with
        | .ok y => (cLoop tg t f s r).bind fun ys => .ok (y :: ys)
        | _ => .no
      | .ok false => cLoop tg t f s r
      | _ => .no
    | _ => .no
def fLc (src : Ev → R (List D)) (tg : D → Ev → R Ev) (t : Ev → R Bool) (f : Ev → R D) (vs : List Nat) : Ev → R D := fun s => (src s).bind fun ds =>
  if ds.length ≤ 100000 then (cLoop tg t f (wipeE s vs) ds).bind fun ys => .ok (.list ys) else .no
def bYes : Ev → R Bool := fun _ => .ok true

section
variable {K : PySem.W.Frag} {mg : Str → Option Value} {W : WX}
theorem SndI.stm {t : TI} {f : Ev → R (List D)} (h : SndI K mg W t f) {ga : Addr} {B0 H0 B H : Hp} {σ : L2.St} {s : Ev} {E : Ends} {Q1 : It → Hp → Prop} {k : List D → Fl} (e : ER K ga B0 H0 B H σ s)
    (p : SPost K mg W ga B0 H0 E (xf s (f s) k)) (q : ∀ ds J B1 H1, f s = .ok ds → Ext B H B1 H1 → Walk K B1 J ds → ER K ga B0 H0 B1 H1 σ s → SPost K mg W ga B0 H0 E (k ds) → Q1 J H1) : t σ H Q1 := by
  refine h.run ga B0 H0 B H σ s Q1 e ?_
  cases hf : f s with
  | ok d =>
    rw [hf] at p
    exact fun J B1 H1 x r => q d J B1 H1 hf x r (e.more x) p
  | ex y =>
    rw [hf] at p
    exact fun cls dd B1 H1 x r => p cls dd B1 H1 σ (e.more x) r
  | no =>
    rw [hf] at p
    exact p.elim
theorem SPost.loop {B0 H0 : Hp} {E : Ends} {N : L2.St → Hp → Prop} {r : Fl} {k : Ev → Fl} (p : SPost K mg W ga B0 H0 E (match r with | .nx s => k s | .ct s => k s | .bk s => .nx s | z => z))
    (hn : ∀ s B H σ, SPost K mg W ga B0 H0 E (k s) → ER K ga B0 H0 B H σ s → N σ H) : SPost K mg W ga B0 H0 { E with nx := N, ct := N, bk := E.nx } r := by
  cases r with
  | nx s => exact fun B H σ e => hn s B H σ p e
  | ct s => exact fun B H σ e => hn s B H σ p e
  | bk s => exact p
  | rt d => exact p
  | rl ds => exact p
  | rm d ds => exact p
  | ex y s => exact p
  | no => exact p
/-- the turns of a loop over what is walked -/
theorem for_walk {g : TG} {tg : D → Ev → R Ev} {tb : TS} {b : Ev → Fl} (hg : SndG K g tg) (hb : SndS K mg W tb b) {ga : Addr} {B0 H0 B1 H1 : Hp} {σ : L2.St} {s : Ev} {E : Ends} {ds : List D} {J : It} (wk : Walk K B1 J ds) (e1 : ER K ga B0 H0 B1 H1 σ s) (p1 : SPost K mg W ga B0 H0 E (gLoop tg b ds s)) :
    ∃ W : Nat → Nat → L2.St → Hp → Prop, (∃ m, W 0 m σ H1) ∧ ∀ i m σ H, W i m σ H →
      (J.stop i H ∧ E.nx σ H) ∨ (J.go i H ∧ ∃ N : L2.St → Hp → Prop, (∀ σ' H', N σ' H' → ∃ m', m' < m ∧ W (i + 1) m' σ' H') ∧ ∀ x H', J.yld i H x H' → g x σ H' fun σ2 H2 => tb { E with nx := N, ct := N, bk := E.nx } σ2 H2) := by
  refine ⟨fun i m σ' H' => m = ds.length - i ∧ i ≤ ds.length ∧ ∃ B' s', ER K ga B0 H0 B' H' σ' s' ∧ Ex B1 B' ∧ SPost K mg W ga B0 H0 E (gLoop tg b (ds.drop i) s'), ⟨ds.length, rfl, Nat.zero_le _, B1, s, e1, Ex.refl B1, p1⟩, ?_⟩
  rintro i m σ' H' ⟨rfl, hi2, B', s', e', x', p'⟩
  obtain ⟨go, stop⟩ := wk B' H' x' e'.ext.s
  by_cases hlt : i < ds.length
  · obtain ⟨g1, g2⟩ := go i hlt
    refine .inr ⟨g1, fun σ2 H2 => ∃ B2 s2, ER K ga B0 H0 B2 H2 σ2 s2 ∧ Ex B1 B2 ∧ SPost K mg W ga B0 H0 E (gLoop tg b (ds.drop (i + 1)) s2), fun σ2 H2 ⟨B2, s2, a, c, d⟩ => ⟨ds.length - (i + 1), by omega, rfl, hlt, B2, s2, a, c, d⟩, fun v H2 y => ?_⟩
    obtain ⟨B2, d, x2, hd, q2⟩ := g2 v H2 y
    have e2 := e'.more x2
    have hdr : ds.drop i = d :: ds.drop (i + 1) := by
      obtain ⟨hl, he⟩ := List.getElem?_eq_some_iff.mp hd
      rw [List.drop_eq_getElem_cons hl, he]
    rw [hdr] at p'
    unfold gLoop at p'
    refine hg.run ga B2 H0 B2 H2 σ' s' v d _ e2.floor q2 ?_
    cases ht : tg d s' with
    | ok s1 =>
      rw [ht] at p'
      replace p' : SPost K mg W ga B0 H0 E (match b s1 with | .nx s2 => gLoop tg b (ds.drop (i + 1)) s2 | .ct s2 => gLoop tg b (ds.drop (i + 1)) s2 | .bk s2 => .nx s2 | z => z) := p'
      intro B3 H3 σ3 e3
      have e3' : ER K ga B0 H0 B3 H3 σ3 s1 := ER.unfloor e2.ext e3
      have x3 : Ex B1 B3 := (x'.trans x2.b).trans e3.ext.b
      -- the body, from the floor B3
      refine hb.run ga B3 H0 B3 H3 σ3 s1 _ e3'.floor ?_
      have up : ∀ {B4 H4 : Hp} {σ4 : L2.St} {s4 : Ev}, ER K ga B3 H0 B4 H4 σ4 s4 → ER K ga B0 H0 B4 H4 σ4 s4 ∧ Ex B1 B4 := fun e4 => ⟨ER.unfloor e3'.ext e4, x3.trans e4.ext.b⟩
      cases hb2 : b s1 with
      | nx s2 =>
        rw [hb2] at p'
        exact fun B4 H4 σ4 e4 => ⟨B4, s2, (up e4).1, (up e4).2, p'⟩
      | ct s2 =>
        rw [hb2] at p'
        exact fun B4 H4 σ4 e4 => ⟨B4, s2, (up e4).1, (up e4).2, p'⟩
      | bk s2 =>
        rw [hb2] at p'
        exact fun B4 H4 σ4 e4 => p' B4 H4 σ4 (up e4).1
      | rt r =>
        rw [hb2] at p'
        exact fun v B4 H4 x4 q4 => p' v B4 H4 ⟨e3'.ext.b.trans x4.b, x4.h, x4.s, fun a u h n => x4.o a u h (e3'.ext.o a u h n)⟩ q4
      | rl r =>
        rw [hb2] at p'
        exact fun v ws B4 H4 x4 h0 hb4 h4 q4 => p' v ws B4 H4 ⟨e3'.ext.b.trans x4.b, x4.h, x4.s, fun a u h n => x4.o a u h (e3'.ext.o a u h n)⟩ h0 hb4 h4 q4
      | rm d r =>
        rw [hb2] at p'
        exact fun v ws B4 H4 x4 q0 h4 hb4 q4 => p' v ws B4 H4 ⟨e3'.ext.b.trans x4.b, x4.h, x4.s, fun a u h n => x4.o a u h (e3'.ext.o a u h n)⟩ q0 h4 hb4 q4
      | ex y s2 =>
        rw [hb2] at p'
        exact fun cls dd B4 H4 σ4 e4 q4 => p' cls dd B4 H4 σ4 (up e4).1 q4
      | no =>
        rw [hb2] at p'
        exact (show False from p').elim
    | ex _ =>
      rw [ht] at p'
      exact (show False from p').elim
    | no =>
      rw [ht] at p'
      exact (show False from p').elim
  · have hz : i = ds.length := by omega
    subst hz
    rw [List.drop_length] at p'
    exact .inl ⟨stop, p' B' H' σ' e'⟩
theorem snd_for {wi : TI} {src : Ev → R (List D)} {g : TG} {tg : D → Ev → R Ev} {tb : TS} {b : Ev → Fl} (hi : SndI K mg W wi src) (hg : SndG K g tg) (hb : SndS K mg W tb b) : SndS K mg W (tFor wi g tb) (gFor src tg b) := by
  refine ⟨fun ga B0 H0 B H σ s E e p => ?_⟩
  exact hi.stm e p fun ds J B1 H1 _ x wk e1 p1 => for_walk hg hb wk e1 p1
theorem snd_while {c : TT} {t : Ev → R Bool} {tb : TS} {b : Ev → Fl} (n : Nat) (hc : SndT K mg W c t) (hb : SndS K mg W tb b) : SndS K mg W (tWhile c tb) (gWhile t b n) := by
  refine ⟨fun ga B0 H0 B H σ s E e p => ?_⟩
  refine ⟨fun m σ' H' => ∃ B' s', ER K ga B0 H0 B' H' σ' s' ∧ SPost K mg W ga B0 H0 E (gWhile t b m s'), ⟨n, B, s, e, p⟩, ?_⟩
  rintro m σ' H' ⟨B', s', e', p'⟩
  cases m with
  | zero => exact (show False from p').elim
  | succ m =>
    refine hc.stm e' p' fun d B1 H1 _ x e1 p1 => ?_
    cases d with
    | true =>
      refine ⟨fun σ2 H2 => ∃ B2 s2, ER K ga B0 H0 B2 H2 σ2 s2 ∧ SPost K mg W ga B0 H0 E (gWhile t b m s2), fun σ2 H2 h => ⟨m, Nat.lt_succ_self m, h⟩, ?_⟩
      refine hb.run ga B0 H0 B1 H1 σ' s' _ e1 ?_
      replace p1 : SPost K mg W ga B0 H0 E (match b s' with | .nx s2 => gWhile t b m s2 | .ct s2 => gWhile t b m s2 | .bk s2 => .nx s2 | z => z) := p1
      cases hb2 : b s' with
      | nx s2 =>
        rw [hb2] at p1
        exact fun B4 H4 σ4 e4 => ⟨B4, s2, e4, p1⟩
      | ct s2 =>
        rw [hb2] at p1
        exact fun B4 H4 σ4 e4 => ⟨B4, s2, e4, p1⟩
      | bk s2 =>
        rw [hb2] at p1
        exact p1
      | rt r =>
        rw [hb2] at p1
        exact p1
      | rl r =>
        rw [hb2] at p1
        exact p1
      | rm d r =>
        rw [hb2] at p1
        exact p1
      | ex y s2 =>
        rw [hb2] at p1
        exact p1
      | no =>
        rw [hb2] at p1
        exact (show False from p1).elim
    | false => exact p1 B1 H1 σ' e1
/-! ### sources -/
theorem SndE.walk {t : TE} {f : Ev → R D} (h : SndE K mg W t f) {ga : Addr} {B0 H0 B H : Hp} {σ : L2.St} {s : Ev} {Q : It → Hp → Prop} {Q1 : VK} {g : D → R (List D)} (e : ER K ga B0 H0 B H σ s)
    (p : match (f s).bind g with
      | .ok ds => ∀ J B' H', Ext B H B' H' → Walk K B' J ds → Q J H'
      | .ex e => ∀ cls dd B' H', Ext B H B' H' → XRep mg K B' e cls dd → W cls dd σ H'
      | .no => False) (k : ∀ d v B1 H1, Ext B H B1 H1 → Dp K B1 v d → Ex B1 H1 → ∀ ds, g d = .ok ds → (∀ J B' H', Ext B1 H1 B' H' → Walk K B' J ds → Q J H') → Q1 v H1) (no : ∀ d x, g d ≠ .ex x) : t σ H Q1 := by
  refine h.run ga B0 H0 B H σ s Q1 e ?_
  cases hf : f s with
  | ok d =>
    rw [hf] at p
    intro v B1 H1 x q
    cases hd : g d with
    | ok ds =>
      refine k d v B1 H1 x q x.s ds hd fun J B2 H2 x2 w => ?_
      replace p : match g d with
        | .ok ds => ∀ J B' H', Ext B H B' H' → Walk K B' J ds → Q J H'
        | .ex e => ∀ cls dd B' H', Ext B H B' H' → XRep mg K B' e cls dd → W cls dd σ H'
        | .no => False := p
      rw [hd] at p
      exact p J B2 H2 (x.trans x2) w
    | ex y => exact absurd hd (no d y)
    | no =>
      replace p : match g d with
        | .ok ds => ∀ J B' H', Ext B H B' H' → Walk K B' J ds → Q J H'
        | .ex e => ∀ cls dd B' H', Ext B H B' H' → XRep mg K B' e cls dd → W cls dd σ H'
        | .no => False := p
      rw [hd] at p
      exact p.elim
  | ex y =>
    rw [hf] at p
    exact p
  | no =>
    rw [hf] at p
    exact p.elim
/-- a list or a tuple -/
def items : D → R (List D)
  | .list ds => .ok ds
  | .tuple ds => .ok ds
  | _ => .no
theorem items_nx (d : D) (x : Exn) : items d ≠ .ex x := by unfold items; split <;> exact fun z => nomatch z
def iSeq (K : PySem.W.Frag) (tl : TE) : TI := fun σ H R => tl σ H fun x H1 => ∃ a, x = .ref a ∧ (((∃ xs, SqL K H1 a xs) ∧ R (Itl K a) H1) ∨ ((∃ xs, SqT K H1 a xs) ∧ R (Itt K a) H1))
theorem pi_seq {X : Cx} {tg l : Expr} {tl : TE} (hl : PE X l tl) : PI X tg l (iSeq X.K tl) := by
  refine ⟨fun pins s σ H R I h => ?_⟩
  refine thn (hl.run pins s σ H _ I h) fun v s1 ⟨x, H1, I1, r1, q1⟩ => ?_
  obtain ⟨a, e, h⟩ := q1
  subst e
  cases r1
  rcases h with ⟨⟨xs, hq⟩, q⟩ | ⟨⟨xs, hq⟩, q⟩
  · obtain ⟨its, rv, p, hz⟩ := I1.list hq
    refine wpAny_pyIter_list p.isList ?_
    refine ⟨s1.heap.objs.size, [s1.heap.objs.size], _, _, H1, rfl, I1.kept (t' := s1.toks) fun b o e => Heap.get?_push_of_some _ e, turn_list a _, ⟨_, Heap.get?_push_size _ rfl, rfl, rfl⟩, fun b hb => ?_, q⟩
    have e : b = s1.heap.objs.size := by simpa using hb
    subst e
    exact I1.fpOk (Nat.le_refl _) (I1.hok.fresh (Nat.le_refl _))
  · obtain ⟨its, rv, p, hz⟩ := I1.tuple hq
    refine wpAny_pyIter_tuple (show s1.heap.IsTuple a its.toArray from p) ?_
    refine ⟨s1.heap.objs.size, [s1.heap.objs.size], _, _, H1, rfl, I1.kept (t' := s1.toks) fun b o e => Heap.get?_push_of_some _ e, turn_tuple a _, ⟨_, Heap.get?_push_size _ rfl, rfl, rfl⟩, fun b hb => ?_, q⟩
    have e : b = s1.heap.objs.size := by simpa using hb
    subst e
    exact I1.fpOk (Nat.le_refl _) (I1.hok.fresh (Nat.le_refl _))
theorem walk_list {B1 : Hp} {a : Addr} {vs : List V} {ds : List D} (hs : SqL K B1 a vs) (ha : DpAll K B1 vs ds) : Walk K B1 (Itl K a) ds := by
  intro B H x1 x2
  have hS : SqL K H a vs := sql_ex x2 (sql_ex x1 hs)
  have hl := DpAll.len ha
  refine ⟨fun i hi => ?_, ⟨vs, hS, by omega⟩⟩
  have hv : i < vs.length := by omega
  refine ⟨⟨vs, vs[i], hS, by simp [hv]⟩, fun v H1 y => ?_⟩
  obtain ⟨rfl, y⟩ := y
  obtain ⟨d, g1, g2⟩ := DpAll.getV ha (y vs hS)
  exact ⟨B, d, Ext.refl x2, g1, Dp.ex x1 _ _ g2⟩
theorem walk_tup {B1 : Hp} {a : Addr} {vs : List V} {ds : List D} (hs : SqT K B1 a vs) (ha : DpAll K B1 vs ds) : Walk K B1 (Itt K a) ds := by
  intro B H x1 x2
  have hS : SqT K H a vs := sqt_ex x2 (sqt_ex x1 hs)
  have hl := DpAll.len ha
  refine ⟨fun i hi => ?_, ⟨vs, hS, by omega⟩⟩
  have hv : i < vs.length := by omega
  refine ⟨⟨vs, vs[i], hS, by simp [hv]⟩, fun v H1 y => ?_⟩
  obtain ⟨rfl, y⟩ := y
  obtain ⟨d, g1, g2⟩ := DpAll.getV ha (y vs hS)
  exact ⟨B, d, Ext.refl x2, g1, Dp.ex x1 _ _ g2⟩
def sSeq (f : Ev → R D) : Ev → R (List D) := fun s => (f s).bind items
theorem si_seq {t : TE} {f : Ev → R D} (h : SndE K mg W t f) : SndI K mg W (iSeq K t) (sSeq f) := by
  refine ⟨fun ga B0 H0 B H σ s Q e p => ?_⟩
  refine h.walk e p (fun d v B1 H1 x q eb zs hd k => ?_) items_nx
  cases q with
  | lst hs ha =>
    cases hd
    exact ⟨_, rfl, .inl ⟨⟨_, sql_ex eb hs⟩, k _ B1 H1 (Ext.refl eb) (walk_list hs ha)⟩⟩
  | tup hs ha =>
    cases hd
    exact ⟨_, rfl, .inr ⟨⟨_, sqt_ex eb hs⟩, k _ B1 H1 (Ext.refl eb) (walk_tup hs ha)⟩⟩
  | _ => cases hd
/-- range(n), range(a, b) -/
def rng (lo : Int) (n : Nat) : List D := (List.range n).map fun (i : Nat) => .int (lo + i)
def gRng1 : List D → R (List D)
  | [.int j] => if inM j = true then .ok (rng 0 j.toNat) else .no
  | _ => .no
def gRng2 : List D → R (List D)
  | [.int i, .int j] => if inM i = true ∧ inM j = true then .ok (rng i (j - i).toNat) else .no
  | _ => .no
theorem rng1_nx (d : List D) (x : Exn) : gRng1 d ≠ .ex x := by
  unfold gRng1
  split
  · split <;> exact fun z => nomatch z
  · exact fun z => nomatch z
theorem rng2_nx (d : List D) (x : Exn) : gRng2 d ≠ .ex x := by
  unfold gRng2
  split
  · split <;> exact fun z => nomatch z
  · exact fun z => nomatch z
theorem walk_rng {B1 : Hp} {lo : Int} {n : Nat} : Walk K B1 (Itr lo n) (rng lo n) := by
  intro B H x1 x2
  have hl : (rng lo n).length = n := by unfold rng; simp
  refine ⟨fun i hi => ⟨by rw [hl] at hi; exact hi, fun v H1 y => ?_⟩, by rw [hl]; exact Nat.le_refl _⟩
  obtain ⟨rfl, rfl⟩ := y
  refine ⟨B, .int (lo + i), Ext.refl x2, ?_, .int _⟩
  unfold rng
  rw [List.getElem?_map, List.getElem?_range (by omega)]
  rfl
theorem SndA.walk {t : TA} {f : Ev → R (List D)} (h : SndA K mg W t f) {ga : Addr} {B0 H0 B H : Hp} {σ : L2.St} {s : Ev} {Q : It → Hp → Prop} {Q1 : List V → Hp → Prop} {g : List D → R (List D)} (e : ER K ga B0 H0 B H σ s)
    (p : match (f s).bind g with
      | .ok ds => ∀ J B' H', Ext B H B' H' → Walk K B' J ds → Q J H'
      | .ex e => ∀ cls dd B' H', Ext B H B' H' → XRep mg K B' e cls dd → W cls dd σ H'
      | .no => False) (k : ∀ d v B1 H1, Ext B H B1 H1 → DpAll K B1 v d → Ex B1 H1 → ∀ ds, g d = .ok ds → (∀ J B' H', Ext B1 H1 B' H' → Walk K B' J ds → Q J H') → Q1 v H1) (no : ∀ d x, g d ≠ .ex x) : t σ H Q1 := by
  refine h.run ga B0 H0 B H σ s Q1 e ?_
  cases hf : f s with
  | ok d =>
    rw [hf] at p
    intro v B1 H1 x q
    cases hd : g d with
    | ok ds =>
      refine k d v B1 H1 x q x.s ds hd fun J B2 H2 x2 w => ?_
      replace p : match g d with
        | .ok ds => ∀ J B' H', Ext B H B' H' → Walk K B' J ds → Q J H'
        | .ex e => ∀ cls dd B' H', Ext B H B' H' → XRep mg K B' e cls dd → W cls dd σ H'
        | .no => False := p
      rw [hd] at p
      exact p J B2 H2 (x.trans x2) w
    | ex y => exact absurd hd (no d y)
    | no =>
      replace p : match g d with
        | .ok ds => ∀ J B' H', Ext B H B' H' → Walk K B' J ds → Q J H'
        | .ex e => ∀ cls dd B' H', Ext B H B' H' → XRep mg K B' e cls dd → W cls dd σ H'
        | .no => False := p
      rw [hd] at p
      exact p.elim
  | ex y =>
    rw [hf] at p
    exact p
  | no =>
    rw [hf] at p
    exact p.elim
def sRng1 (f : Ev → R (List D)) : Ev → R (List D) := fun s => (f s).bind gRng1
def sRng2 (f : Ev → R (List D)) : Ev → R (List D) := fun s => (f s).bind gRng2
theorem si_rng1 {t : TA} {f : Ev → R (List D)} (h : SndA K mg W t f) : SndI K mg W (iRng1 t) (sRng1 f) := by
  refine ⟨fun ga B0 H0 B H σ s Q e p => ?_⟩
  refine h.walk e p (fun d v B1 H1 x q eb zs hd k => ?_) rng1_nx
  unfold gRng1 at hd
  split at hd
  · obtain ⟨w, rfl, q1⟩ := dp1 q
    cases q1
    split at hd
    · rename_i hz
      cases hd
      have hj := inM_of hz
      exact ⟨_, rfl, by omega, by omega, k _ B1 H1 (Ext.refl eb) walk_rng⟩
    · cases hd
  · cases hd
theorem si_rng2 {t : TA} {f : Ev → R (List D)} (h : SndA K mg W t f) : SndI K mg W (iRng2 t) (sRng2 f) := by
  refine ⟨fun ga B0 H0 B H σ s Q e p => ?_⟩
  refine h.walk e p (fun d v B1 H1 x q eb zs hd k => ?_) rng2_nx
  unfold gRng2 at hd
  split at hd
  · obtain ⟨w, w2, rfl, q1, q2⟩ := dp2 q
    cases q1
    cases q2
    split at hd
    · rename_i hz
      cases hd
      have hj := inM_of hz.1
      have hj2 := inM_of hz.2
      exact ⟨_, _, rfl, by omega, k _ B1 H1 (Ext.refl eb) walk_rng⟩
    · cases hd
  · cases hd
/-- enumerate(xs), zip(xs, ys) of lists -/
def enumD : Nat → List D → List D
  | _, [] => []
  | i, d :: r => .tuple [.int (i : Nat), d] :: enumD (i + 1) r
theorem enumD_get : ∀ {ds : List D} {k i : Nat} {d : D}, ds[i]? = some d → (enumD k ds)[i]? = some (.tuple [.int ((k + i : Nat) : Int), d])
  | [], _, _, _, h => by simp at h
  | e :: r, k, 0, d, h => by
    simp at h
    subst h
    rfl
  | e :: r, k, i + 1, d, h => by
    have h' : r[i]? = some d := by simpa using h
    have := enumD_get (k := k + 1) h'
    rw [show k + (i + 1) = k + 1 + i by omega]
    exact this
theorem enumD_len : ∀ (k : Nat) (ds : List D), (enumD k ds).length = ds.length
  | _, [] => rfl
  | k, d :: r => by
    show (enumD (k + 1) r).length + 1 = r.length + 1
    rw [enumD_len]
def gEnum : List D → R (List D)
  | [.list ds] => .ok (enumD 0 ds)
  | _ => .no
def gZip : List D → R (List D)
  | [.list ds, .list es] => .ok ((ds.zip es).map fun p => .tuple [p.1, p.2])
  | _ => .no
def sEnum (f : Ev → R (List D)) : Ev → R (List D) := fun s => (f s).bind gEnum
def sZip (f : Ev → R (List D)) : Ev → R (List D) := fun s => (f s).bind gZip
theorem walk_enum {B1 : Hp} {a : Addr} {vs : List V} {ds : List D} (hs : SqL K B1 a vs) (ha : DpAll K B1 vs ds) : Walk K B1 (Ite K a) (enumD 0 ds) := by
  intro B H x1 x2
  have hS : SqL K H a vs := sql_ex x2 (sql_ex x1 hs)
  have hl := DpAll.len ha
  refine ⟨fun i hi => ?_, ⟨vs, hS, by rw [enumD_len]; omega⟩⟩
  rw [enumD_len] at hi
  have hv : i < vs.length := by omega
  refine ⟨⟨vs, vs[i], hS, by simp [hv]⟩, fun v H1 y => ?_⟩
  obtain ⟨T, x, rfl, hT, rfl, f⟩ := y
  obtain ⟨d, g1, g2⟩ := DpAll.getV ha (f vs hS)
  have hb : B T = none := ex_none x2 hT
  refine ⟨_, .tuple [.int (i : Nat), d], (Ext.refl x2).new hT, by rw [enumD_get g1, Nat.zero_add], .tup (SqT.of upd_same) (.cons (.int _) (.cons (Dp.ex (Ex.new hb) _ _ (Dp.ex x1 _ _ g2)) .nil))⟩
theorem walk_zip {B1 : Hp} {a b : Addr} {vs ws : List V} {ds es : List D} (hs : SqL K B1 a vs) (ha : DpAll K B1 vs ds) (hs2 : SqL K B1 b ws) (hb2 : DpAll K B1 ws es) : Walk K B1 (Itz K a b) ((ds.zip es).map fun p => .tuple [p.1, p.2]) := by
  intro B H x1 x2
  have hS : SqL K H a vs := sql_ex x2 (sql_ex x1 hs)
  have hS2 : SqL K H b ws := sql_ex x2 (sql_ex x1 hs2)
  have hl := DpAll.len ha
  have hl2 := DpAll.len hb2
  have hlen : ((ds.zip es).map fun p => (PyData.tuple [p.1, p.2])).length = min ds.length es.length := by simp
  refine ⟨fun i hi => ?_, ⟨vs, ws, hS, hS2, by rw [hlen]; omega⟩⟩
  rw [hlen] at hi
  have hv : i < vs.length := by omega
  have hw : i < ws.length := by omega
  refine ⟨⟨vs, ws, vs[i], ws[i], hS, hS2, by simp [hv], by simp [hw]⟩, fun v H1 y => ?_⟩
  obtain ⟨T, x, x', rfl, hT, rfl, f, f'⟩ := y
  obtain ⟨d, g1, g2⟩ := DpAll.getV ha (f vs hS)
  obtain ⟨e, g3, g4⟩ := DpAll.getV hb2 (f' ws hS2)
  have hb : B T = none := ex_none x2 hT
  refine ⟨_, .tuple [d, e], (Ext.refl x2).new hT, ?_, .tup (SqT.of upd_same) (.cons (Dp.ex (Ex.new hb) _ _ (Dp.ex x1 _ _ g2)) (.cons (Dp.ex (Ex.new hb) _ _ (Dp.ex x1 _ _ g4)) .nil))⟩
  rw [List.getElem?_map, (List.getElem?_zip_eq_some (z := (d, e))).mpr ⟨g1, g3⟩] <;> rfl
theorem enum_nx (d : List D) (x : Exn) : gEnum d ≠ .ex x := by unfold gEnum; split <;> exact fun z => nomatch z
theorem zip_nx (d : List D) (x : Exn) : gZip d ≠ .ex x := by unfold gZip; split <;> exact fun z => nomatch z
theorem si_enum {t : TA} {f : Ev → R (List D)} (h : SndA K mg W t f) : SndI K mg W (iEnum K t) (sEnum f) := by
  refine ⟨fun ga B0 H0 B H σ s Q e p => ?_⟩
  refine h.walk e p (fun d v B1 H1 x q eb zs hd k => ?_) enum_nx
  unfold gEnum at hd
  split at hd
  · obtain ⟨w, rfl, q1⟩ := dp1 q
    cases hd
    cases q1 with
    | lst hs ha => exact ⟨_, _, rfl, sql_ex eb hs, k _ B1 H1 (Ext.refl eb) (walk_enum hs ha)⟩
  · cases hd
theorem si_zip {t : TA} {f : Ev → R (List D)} (h : SndA K mg W t f) : SndI K mg W (iZip K t) (sZip f) := by
  refine ⟨fun ga B0 H0 B H σ s Q e p => ?_⟩
  refine h.walk e p (fun d v B1 H1 x q eb zs hd k => ?_) zip_nx
  unfold gZip at hd
  split at hd
  · obtain ⟨w, w2, rfl, q1, q2⟩ := dp2 q
    cases hd
    cases q1 with
    | lst hs ha =>
      cases q2 with
      | lst hs2 ha2 => exact ⟨_, _, _, _, rfl, sql_ex eb hs, sql_ex eb hs2, k _ B1 H1 (Ext.refl eb) (walk_zip hs ha hs2 ha2)⟩
  · cases hd
end
end Sf

namespace Sf
open PySem PySem.Spec PyProof.Rows L2
open Evl (Ex)

/-- what is wished for in a comprehension's block: nothing is let out -/
abbrev W0 : WX := fun _ _ _ _ => False
/-- a target of a comprehension: it stores into the block's own slots alone -/
structure SndGW (K : PySem.W.Frag) (vs : List Nat) (g : TG) (f : D → Ev → R Ev) : Prop where
  run : ∀ ga B0 H0 B H σ s v d Q, ER K ga B0 H0 B H σ s → Dp K B v d → (match f d s with
    | .ok s' => ∀ σ', ER K ga B0 H0 B H σ' s' → wipe σ' vs = wipe σ vs → Q σ' H
    | _ => False) → g v σ H Q
structure SndGsW (K : PySem.W.Frag) (vs : List Nat) (g : TGs) (f : List D → Ev → R Ev) : Prop where
  run : ∀ ga B0 H0 B H σ s xs ds Q, ER K ga B0 H0 B H σ s → DpAll K B xs ds → (match f ds s with
    | .ok s' => ∀ σ', ER K ga B0 H0 B H σ' s' → wipe σ' vs = wipe σ vs → Q σ' H
    | _ => False) → g xs σ H Q
theorem wipe_set {x : Option V} {j : Nat} : ∀ {vs : List Nat} {σ : L2.St}, j ∈ vs → wipe (σ.set j x) vs = wipe σ vs
  | [], _, h => by cases h
  | v :: vs, σ, h => by
    show (wipe (σ.set j x) vs).set v none = (wipe σ vs).set v none
    by_cases hv : j ∈ vs
    · rw [wipe_set hv]
    · have e : j = v := by
        rcases List.mem_cons.mp h with e | e
        · exact e
        · exact absurd e hv
      subst e
      -- j is wiped last: what stood there is forgotten
      have aux : ∀ (ws : List Nat) (τ : L2.St), j ∉ ws → wipe (τ.set j x) ws = (wipe τ ws).set j x := by
        intro ws
        induction ws with
        | nil => intro τ _; rfl
        | cons w ws ih =>
          intro τ hn
          have n1 : j ≠ w := fun z => hn (by rw [z]; exact List.mem_cons_self)
          have n2 : j ∉ ws := fun z => hn (List.mem_cons_of_mem _ z)
          show (wipe (τ.set j x) ws).set w none = ((wipe τ ws).set w none).set j x
          rw [ih τ n2, List.set_comm _ _ n1]
      rw [aux vs σ hv, List.set_set]
section
variable {K : PySem.W.Frag} {mg : Str → Option Value} {W : WX}
theorem sw_name {vs : List Nat} {i : Nat} (h : i ∈ vs) : SndGW K vs (gName i) (hName i) := ⟨fun ga B0 H0 B H σ s v d Q e q p => p _ (e.set q) (wipe_set h)⟩
theorem sw_nil {vs : List Nat} : SndGsW K vs gNil hNil := by
  refine ⟨fun ga B0 H0 B H σ s xs ds Q e q p => ?_⟩
  cases q with
  | nil => exact ⟨rfl, p σ e rfl⟩
  | cons _ _ => exact (show False from p).elim
theorem sw_cons {vs : List Nat} {g : TG} {gs : TGs} {t : D → Ev → R Ev} {u : List D → Ev → R Ev} (h : SndGW K vs g t) (k : SndGsW K vs gs u) : SndGsW K vs (gCons g gs) (hCons t u) := by
  refine ⟨fun ga B0 H0 B H σ s xs ds Q e q p => ?_⟩
  cases q with
  | nil => exact (show False from p).elim
  | @cons v vr d dr q1 q2 =>
    refine ⟨_, _, rfl, h.run ga B0 H0 B H σ s _ _ _ e q1 ?_⟩
    replace p : match ((t d s).bind (u dr)) with
      | .ok s' => ∀ σ', ER K ga B0 H0 B H σ' s' → wipe σ' vs = wipe σ vs → Q σ' H
      | _ => False := p
    cases ht : t d s with
    | ok s1 =>
      rw [ht] at p
      intro σ1 e1 w1
      refine k.run ga B0 H0 B H σ1 s1 vr dr Q e1 q2 ?_
      replace p : match u dr s1 with
        | .ok s' => ∀ σ', ER K ga B0 H0 B H σ' s' → wipe σ' vs = wipe σ vs → Q σ' H
        | _ => False := p
      cases hu : u dr s1 with
      | ok s2 =>
        rw [hu] at p
        exact fun σ2 e2 w2 => p σ2 e2 (w2.trans w1)
      | ex _ =>
        rw [hu] at p
        exact p
      | no =>
        rw [hu] at p
        exact p
    | ex _ =>
      rw [ht] at p
      exact p
    | no =>
      rw [ht] at p
      exact p
theorem sw_tup {vs : List Nat} {n : Nat} {gs : TGs} {u : List D → Ev → R Ev} (k : SndGsW K vs gs u) : SndGW K vs (gTup K n gs) (hTup n u) := by
  refine ⟨fun ga B0 H0 B H σ s v d Q e q p => ?_⟩
  cases q with
  | @tup a xs ds hs ha =>
    replace p : match (if ds.length = n then u ds s else .no) with
      | .ok s' => ∀ σ', ER K ga B0 H0 B H σ' s' → wipe σ' vs = wipe σ vs → Q σ' H
      | _ => False := p
    by_cases hz : ds.length = n
    · rw [if_pos hz] at p
      exact ⟨_, _, rfl, sqt_ex e.ext.s hs, by rw [DpAll.len ha]; exact hz, k.run ga B0 H0 B H σ s _ _ Q e ha p⟩
    · rw [if_neg hz] at p
      exact p.elim
  | _ => exact (show False from p).elim
/-- the comprehension -/
theorem snd_lc {wi : TI} {src : Ev → R (List D)} {g : TG} {tg : D → Ev → R Ev} {tt : TT} {t : Ev → R Bool} {te : TE} {f : Ev → R D} {vs : List Nat} (hi : SndI K mg W wi src) (hg : SndGW K vs g tg) (ht : SndT K mg W0 tt t) (he : SndE K mg W0 te f) :
    SndL K mg W (tLc wi g tt te vs) (fLc src tg t f vs) := by
  refine ⟨fun ga B0 H0 B H σ s Q e p => ?_⟩
  refine hi.run ga B0 H0 B H σ s _ e ?_
  unfold fLc at p
  cases hs : src s with
  | ex y =>
    rw [hs] at p
    exact p
  | no =>
    rw [hs] at p
    exact p
  | ok ds =>
    rw [hs] at p
    replace p : match (if ds.length ≤ 100000 then (cLoop tg t f (wipeE s vs) ds).bind fun ys => R.ok (PyData.list ys) else .no) with
      | .ok d => ∀ (p : Addr) (vs : List V) (ds : List D) B' H', d = .list ds → Ext B H B' H' → H p = none → B' p = none → H' p = some (.lst vs) → DpAll K B' vs ds → Q (.ref p) H'
      | .ex e => ∀ cls dd B' H', Ext B H B' H' → XRep mg K B' e cls dd → W cls dd σ H'
      | .no => False := p
    by_cases hz : ds.length ≤ 100000
    · rw [if_pos hz] at p
      cases hc : cLoop tg t f (wipeE s vs) ds with
      | no =>
        rw [hc] at p
        exact (show False from p).elim
      | ex y =>
        -- a comprehension's turns give no error
        exfalso
        have aux : ∀ l : List D, cLoop tg t f (wipeE s vs) l ≠ .ex y := by
          intro l
          induction l with
          | nil => exact fun z => nomatch z
          | cons d r ih =>
            intro z
            unfold cLoop at z
            split at z
            · split at z
              · split at z
                · cases hr : cLoop tg t f (wipeE s vs) r with
                  | ok w =>
                    rw [hr] at z
                    cases z
                  | ex w =>
                    rw [hr] at z
                    cases z
                    exact ih hr
                  | no =>
                    rw [hr] at z
                    cases z
                · cases z
              · exact ih z
              · cases z
            · cases z
        exact aux ds hc
      | ok ys =>
        rw [hc] at p
        intro J B1 H1 x1 wk a ha
        have e1 := e.more x1
        have hb : B1 a = none := ex_none e1.ext.s ha
        refine ⟨fun i m H' => m = ds.length - i ∧ i ≤ ds.length ∧ ∃ B' acc ads zs, ER K ga B0 H0 B' H' (wipe σ vs) (wipeE s vs) ∧ Ext B1 H1 B' H' ∧ B' a = none ∧ H' a = some (.lst acc) ∧ DpAll K B' acc ads ∧ ads.length ≤ i ∧ cLoop tg t f (wipeE s vs) (ds.drop i) = .ok zs ∧ ads ++ zs = ys, ⟨ds.length, rfl, Nat.zero_le _, B1, [], [], ys, ?_, (Ext.refl e1.ext.s).side ha hb, hb, upd_same, .nil, Nat.le_refl _, hc, rfl⟩, ?_⟩
        · exact (e1.wipe vs).more ⟨Ex.refl _, Ex.new ha, fun c u g => by
            rw [upd_ne (ne_of_none g hb)]
            exact e1.ext.s c u g, fun _ _ _ n => n⟩
        rintro i m H' ⟨rfl, hi2, B', acc, ads, zs, e', x', hb', ha', hd', hl', hc', hy'⟩
        obtain ⟨go, stop⟩ := wk B' H' x'.b e'.ext.s
        by_cases hlt : i < ds.length
        · obtain ⟨g1, g2⟩ := go i hlt
          refine .inr ⟨g1, fun H2 => ∃ B' acc ads zs, ER K ga B0 H0 B' H2 (wipe σ vs) (wipeE s vs) ∧ Ext B1 H1 B' H2 ∧ B' a = none ∧ H2 a = some (.lst acc) ∧ DpAll K B' acc ads ∧ ads.length ≤ i + 1 ∧ cLoop tg t f (wipeE s vs) (ds.drop (i + 1)) = .ok zs ∧ ads ++ zs = ys,
            fun H2 h => ⟨ds.length - (i + 1), by omega, rfl, hlt, h⟩, fun v H2 y => ?_⟩
          obtain ⟨B2, d, x2, hd, q2⟩ := g2 v H2 y
          have e2 := e'.more x2
          have hb2 : B2 a = none := x2.o a _ ha' hb'
          have ha2 : H2 a = some (.lst acc) := x2.h a _ ha'
          have hdr : ds.drop i = d :: ds.drop (i + 1) := by
            obtain ⟨hl, he⟩ := List.getElem?_eq_some_iff.mp hd
            rw [List.drop_eq_getElem_cons hl, he]
          rw [hdr] at hc'
          unfold cLoop at hc'
          refine hg.run ga B0 H0 B2 H2 (wipe σ vs) (wipeE s vs) v d _ e2 q2 ?_
          cases htg : tg d (wipeE s vs) with
          | ex _ =>
            rw [htg] at hc'
            cases hc'
          | no =>
            rw [htg] at hc'
            cases hc'
          | ok s1 =>
            rw [htg] at hc'
            replace hc' : (match t s1 with
              | .ok true => match f s1 with
                | .ok y => (cLoop tg t f (wipeE s vs) (ds.drop (i + 1))).bind fun ys => R.ok (y :: ys)
                | _ => .no
              | .ok false => cLoop tg t f (wipeE s vs) (ds.drop (i + 1))
              | _ => .no) = .ok zs := hc'
            intro σ3 e3 w3
            have ww : wipe (wipe σ vs) vs = wipe σ vs := by
              have aux : ∀ ws : List Nat, (∀ j ∈ ws, j ∈ vs) → wipe (wipe σ vs) ws = wipe σ vs := by
                intro ws
                induction ws with
                | nil => intro _; rfl
                | cons w ws ih =>
                  intro hw
                  show (wipe (wipe σ vs) ws).set w none = wipe σ vs
                  rw [ih fun j hj => hw j (List.mem_cons_of_mem _ hj)]
                  have aux2 : ∀ (us : List Nat) (τ : L2.St), w ∈ us → (wipe τ us).set w none = wipe τ us := by
                    intro us
                    induction us with
                    | nil => intro τ h; cases h
                    | cons u us ih2 =>
                      intro τ h
                      show ((wipe τ us).set u none).set w none = (wipe τ us).set u none
                      by_cases z : w = u
                      · subst z
                        rw [List.set_set]
                      · rw [List.set_comm _ _ (Ne.symm z)]
                        rcases List.mem_cons.mp h with h | h
                        · exact absurd h z
                        · rw [ih2 τ h]
                  exact aux2 vs σ (hw w List.mem_cons_self)
              exact aux vs fun _ h => h
            refine ⟨w3.trans ww, ?_⟩
            refine ht.run ga B0 H0 B2 H2 σ3 s1 _ e3 ?_
            cases hts : t s1 with
            | ex _ =>
              rw [hts] at hc'
              cases hc'
            | no =>
              rw [hts] at hc'
              cases hc'
            | ok b =>
              rw [hts] at hc'
              intro B4 H4 x4
              have e4 := e3.more x4
              have e4w : ER K ga B0 H0 B4 H4 (wipe σ vs) (wipeE s vs) := e2.more x4
              cases b with
              | false =>
                exact ⟨B4, acc, ads, zs, e4w, (x'.trans x2).trans x4, x4.o a _ ha2 hb2, x4.h a _ ha2, DpAll.ex (x2.b.trans x4.b) _ _ hd', by omega, hc', hy'⟩
              | true =>
                replace hc' : (match f s1 with
                  | .ok y => (cLoop tg t f (wipeE s vs) (ds.drop (i + 1))).bind fun ys => R.ok (y :: ys)
                  | _ => .no) = .ok zs := hc'
                show te σ3 H4 _
                refine he.run ga B0 H0 B4 H4 σ3 s1 _ e4 ?_
                cases hf : f s1 with
                | ex _ =>
                  rw [hf] at hc'
                  cases hc'
                | no =>
                  rw [hf] at hc'
                  cases hc'
                | ok y =>
                  rw [hf] at hc'
                  intro w5 B5 H5 x5 q5
                  cases hr : cLoop tg t f (wipeE s vs) (ds.drop (i + 1)) with
                  | ex _ =>
                    rw [hr] at hc'
                    cases hc'
                  | no =>
                    rw [hr] at hc'
                    cases hc'
                  | ok rs =>
                    rw [hr] at hc'
                    cases hc'
                    have xx := ((x'.trans x2).trans x4).trans x5
                    have hb5 : B5 a = none := x5.o a _ (x4.h a _ ha2) (x4.o a _ ha2 hb2)
                    have ha5 : H5 a = some (.lst acc) := x5.h a _ (x4.h a _ ha2)
                    refine ⟨acc, ha5, Evl.sz_lt (by rw [DpAll.len hd']; omega), B5, acc ++ [w5], ads ++ [y], rs, ?_, xx.side ha hb5, hb5, upd_same, DpAll.append (DpAll.ex ((x2.b.trans x4.b).trans x5.b) _ _ hd') (.cons q5 .nil), by simp; omega, rfl, by rw [List.append_assoc]; exact hy'⟩
                    -- the frame, with the new list at a
                    have e5 : ER K ga B0 H0 B5 H5 (wipe σ vs) (wipeE s vs) := e4w.more x5
                    have h0a : H0 a = none := Evl.fresh_back e1.ext.h ha
                    refine ⟨e5.ext.side h0a hb5, e5.len, e5.val, fun j fs h => ?_, e5.dis, e5.pin.side (own_newM (e1.wipe vs) ha)⟩
                    obtain ⟨q, us, a1, a2, a3, a4, a5⟩ := e5.own j fs h
                    have hq : q ≠ a := fun z => by
                      subst z
                      obtain ⟨q', us', b1, b2, _⟩ := (e1.wipe vs).own j fs h
                      rw [a1] at b1
                      cases b1
                      rw [ha] at b2
                      cases b2
                    exact ⟨q, us, a1, by rw [upd_ne hq]; exact a2, a3, a4, a5⟩
        · have hz2 : i = ds.length := by omega
          subst hz2
          rw [List.drop_length] at hc'
          cases hc'
          rw [List.append_nil] at hy'
          subst hy'
          exact .inl ⟨stop, p a acc ads B' H' rfl (x1.trans x') (Evl.fresh_back x1.h ha) hb' ha' hd'⟩
    · rw [if_neg hz] at p
      exact (show False from p).elim
theorem snd_yes : SndT K mg W tYes bYes := ⟨fun ga B0 H0 B H σ s Q e p => p B H e.here⟩
end
end Sf

namespace Sf
open PySem PySem.Spec PyProof.Rows L2
open Evl (Ex)

section
variable {K : PySem.W.Frag} {mg : Str → Option Value} {W : WX}
/-! ### slices -/
structure SndO (K : PySem.W.Frag) (mg : Str → Option Value) (W : WX) (t : TO) (f : Ev → R (Option Int)) : Prop where
  run : ∀ ga B0 H0 B H σ s Q, ER K ga B0 H0 B H σ s → (match f s with
    | .ok o => ∀ B' H', Ext B H B' H' → Q o H'
    | .ex e => ∀ cls dd B' H', Ext B H B' H' → XRep mg K B' e cls dd → W cls dd σ H'
    | .no => False) → t σ H Q
def oNone : Ev → R (Option Int) := fun _ => .ok none
def oSome (f : Ev → R D) : Ev → R (Option Int) := fun s => (f s).bind fun
  | .int i => .ok (some i)
  | _ => .no
theorem so_none : SndO K mg W tNoPart oNone := ⟨fun ga B0 H0 B H σ s Q e p => p B H e.here⟩
theorem so_some {t : TE} {f : Ev → R D} (h : SndE K mg W t f) : SndO K mg W (tPart t) (oSome f) := by
  refine ⟨fun ga B0 H0 B H σ s Q e p => h.run ga B0 H0 B H σ s _ e ?_⟩
  unfold oSome at p
  cases hf : f s with
  | ok d =>
    rw [hf] at p
    intro v B1 H1 x q
    cases q with
    | int i => exact ⟨i, rfl, p B1 H1 x⟩
    | _ => exact (show False from p).elim
  | ex y =>
    rw [hf] at p
    exact p
  | no =>
    rw [hf] at p
    exact p
def cutD (xs : List D) (lo hi : Option Int) : List D := (xs.drop (HT.sIx xs.length 0 lo)).take (HT.sIx xs.length xs.length hi - HT.sIx xs.length 0 lo)
theorem cut_of {B : Hp} {ds : List D} {vs : List V} {lo hi : Option Int} (h : DpAll K B vs ds) : DpAll K B (cutV vs lo hi) (cutD ds lo hi) := by
  unfold cutV cutD
  rw [DpAll.len h]
  exact DpAll.take _ (DpAll.drop _ h)
def gCut : D → Option Int → Option Int → R D
  | .list xs, lo, hi => .ok (.list (cutD xs lo hi))
  | .tuple xs, lo, hi => if HT.sIx xs.length 0 lo = 0 ∧ HT.sIx xs.length xs.length hi = xs.length then .no else .ok (.tuple (cutD xs lo hi))
  | .str z, lo, hi => if z.length ≤ 100000 then .ok (.str (cutS z lo hi)) else .no
  | _, _, _ => .no
def fSl (f : Ev → R D) (l h : Ev → R (Option Int)) : Ev → R D := fun s => (f s).bind fun d => (l s).bind fun lo => (h s).bind fun hi => gCut d lo hi
def rSlA (K : PySem.W.Frag) : V → Option Int → Option Int → Hp → VK → Prop := fun x lo hi H Q => rSlL K x lo hi H Q ∨ rSlT K x lo hi H Q ∨ rSlS x lo hi H Q
theorem sl_all {X : Cx} : SlR X (rSlA X.K) := sl_list.or (sl_tup.or sl_str)
theorem SndO.bind {t : TO} {f : Ev → R (Option Int)} (h : SndO K mg W t f) {ga : Addr} {B0 H0 B H : Hp} {σ : L2.St} {s : Ev} {Q : VK} {Q1 : Option Int → Hp → Prop} {g : Option Int → R D} (e : ER K ga B0 H0 B H σ s)
    (p : EPost K mg W σ B H Q ((f s).bind g)) (k : ∀ o B1 H1, f s = .ok o → Ext B H B1 H1 → ER K ga B0 H0 B1 H1 σ s → EPost K mg W σ B1 H1 Q (g o) → Q1 o H1) : t σ H Q1 := by
  refine h.run ga B0 H0 B H σ s Q1 e ?_
  cases hf : f s with
  | ok d =>
    rw [hf] at p
    exact fun B1 H1 x => k d B1 H1 hf x (e.more x) (EPost.more x p)
  | ex y =>
    rw [hf] at p
    exact p
  | no =>
    rw [hf] at p
    exact p
theorem cut_nx (d : D) (lo hi : Option Int) (x : Exn) : gCut d lo hi ≠ .ex x := by
  unfold gCut
  split
  · exact fun z => nomatch z
  · split <;> exact fun z => nomatch z
  · split <;> exact fun z => nomatch z
  · exact fun z => nomatch z
theorem snd_sl {t : TE} {tl th : TO} {f : Ev → R D} {l h : Ev → R (Option Int)} (ha : SndE K mg W t f) (hl : SndO K mg W tl l) (hh : SndO K mg W th h) : SndE K mg W (tSl (rSlA K) t tl th) (fSl f l h) := by
  refine ⟨fun ga B0 H0 B H σ s Q e p => ?_⟩
  refine ha.bind e p fun d v B1 H1 _ x1 q1 e1 p1 => ?_
  refine hl.bind e1 p1 fun lo B2 H2 _ x2 e2 p2 => ?_
  refine hh.bind e2 p2 fun hi B3 H3 _ x3 e3 p3 => ?_
  have p4 := EPost.of_o p3 (cut_nx d lo hi)
  have q3 := Dp.ex (x2.b.trans x3.b) _ _ q1
  unfold gCut at p4
  split at p4
  · cases q3 with
    | lst hs hd =>
      refine .inl ⟨_, _, rfl, sql_ex e3.ext.s hs, fun a hn => ?_⟩
      have hb : B3 a = none := ex_none e3.ext.s hn
      exact p4 _ _ _ ((Ext.refl e3.ext.s).new hn) (.lst (SqL.of upd_same) (DpAll.ex (Ex.new hb) _ _ (cut_of hd)))
  · split at p4
    · exact p4.elim
    · rename_i hz
      cases q3 with
      | tup hs hd =>
        refine .inr (.inl ⟨_, _, rfl, sqt_ex e3.ext.s hs, by rw [DpAll.len hd]; exact hz, fun a hn => ?_⟩)
        have hb : B3 a = none := ex_none e3.ext.s hn
        exact p4 _ _ _ ((Ext.refl e3.ext.s).new hn) (.tup (SqT.of upd_same) (DpAll.ex (Ex.new hb) _ _ (cut_of hd)))
  · split at p4
    · rename_i hz
      cases q3
      exact .inr (.inr ⟨_, rfl, sz100 hz, p4 _ B3 H3 e3.here (.str _)⟩)
    · exact p4.elim
  · exact p4.elim
/-! ### expressions that make a list of their own -/
/-- an error, or the list's wish -/
theorem sl_lst {ta : TA} {g : Ev → R (List D)} (h : SndA K mg W ta g) : SndL K mg W (tLst ta) (fLst g) := by
  refine ⟨fun ga B0 H0 B H σ s Q e p => ?_⟩
  refine h.run ga B0 H0 B H σ s _ e ?_
  unfold fLst at p
  cases hg : g s with
  | ex y =>
    rw [hg] at p
    exact p
  | no =>
    rw [hg] at p
    exact p
  | ok ds =>
    rw [hg] at p
    intro vs B1 H1 x1 q1
    have hl := DpAll.len q1
    replace p : match (if ds.length ≤ 100000 then R.ok (PyData.list ds) else .no) with
      | .ok d => ∀ (p : Addr) (vs : List V) (ds : List D) B' H', d = .list ds → Ext B H B' H' → H p = none → B' p = none → H' p = some (.lst vs) → DpAll K B' vs ds → Q (.ref p) H'
      | .ex e => ∀ cls dd B' H', Ext B H B' H' → XRep mg K B' e cls dd → W cls dd σ H'
      | .no => False := p
    by_cases hz : ds.length ≤ 100000
    · rw [if_pos hz] at p
      refine ⟨sz100 (by omega), fun a ha => ?_⟩
      have h0 : H a = none := Evl.fresh_back x1.h ha
      have hb : B1 a = none := ex_none x1.s ha
      exact p a vs ds B1 _ rfl (x1.side h0 hb) h0 hb upd_same q1
    · rw [if_neg hz] at p
      exact p.elim
/-- list(xs) -/
def rListA (K : PySem.W.Frag) : List V → Hp → VK → Prop := fun xs H Q => ∃ p ys, xs = [.ref p] ∧ (SqL K H p ys ∨ SqT K H p ys) ∧ ∀ l, H l = none → Q (.ref l) (upd H l (.lst ys))
def gList : List D → R D
  | [.list xs] => .ok (.list xs)
  | [.tuple xs] => .ok (.list xs)
  | _ => .no
theorem sl_list1 {ta : TA} {g : Ev → R (List D)} (h : SndA K mg W ta g) : SndL K mg W (tCB (rListA K) ta) (fCall gList g) := by
  refine ⟨fun ga B0 H0 B H σ s Q e p => ?_⟩
  refine h.run ga B0 H0 B H σ s _ e ?_
  unfold fCall at p
  cases hg : g s with
  | ex y =>
    rw [hg] at p
    exact p
  | no =>
    rw [hg] at p
    exact p
  | ok ds =>
    rw [hg] at p
    intro vs B1 H1 x1 q1
    replace p : match gList ds with
      | .ok d => ∀ (p : Addr) (vs : List V) (ds : List D) B' H', d = .list ds → Ext B H B' H' → H p = none → B' p = none → H' p = some (.lst vs) → DpAll K B' vs ds → Q (.ref p) H'
      | .ex e => ∀ cls dd B' H', Ext B H B' H' → XRep mg K B' e cls dd → W cls dd σ H'
      | .no => False := p
    unfold gList at p
    split at p
    · rename_i d hd
      split at hd
      · obtain ⟨v, rfl, q⟩ := dp1 q1
        cases hd
        cases q with
        | lst hs ha => exact ⟨_, _, rfl, .inl (sql_ex x1.s hs), fun a hn => p a _ _ B1 _ rfl (x1.side (Evl.fresh_back x1.h hn) (ex_none x1.s hn)) (Evl.fresh_back x1.h hn) (ex_none x1.s hn) upd_same ha⟩
      · obtain ⟨v, rfl, q⟩ := dp1 q1
        cases hd
        cases q with
        | tup hs ha => exact ⟨_, _, rfl, .inr (sqt_ex x1.s hs), fun a hn => p a _ _ B1 _ rfl (x1.side (Evl.fresh_back x1.h hn) (ex_none x1.s hn)) (Evl.fresh_back x1.h hn) (ex_none x1.s hn) upd_same ha⟩
      · cases hd
    · rename_i d hd
      split at hd <;> cases hd
    · exact p.elim
/-! ### a def's promise -/
def runF (m : Nat) (G : Ev → Fl) : List D → R D := fun ds => match G (ds.map En.v ++ List.replicate (m - ds.length) En.un) with
  | .rt d => .ok d
  | .rl ds => .ok (.list ds)
  | .nx _ => .ok .none
  | .ex e _ => .ex e
  | _ => .no
def spD (K : PySem.W.Frag) (mg : Str → Option Value) (n : Nat) (F : List D → R D) : Sp := fun vs H Q E => vs.length = n ∧ ∃ B ds, Ex B H ∧ DpAll K B vs ds ∧ (match F ds with
  | .ok d => ∀ v B' H', Ext B H B' H' → Dp K B' v d → Q v H'
  | .ex e => ∀ cls dd B' H', Ext B H B' H' → XRep mg K B' e cls dd → E cls dd H'
  | .no => False)
theorem er_start0 {ga : Addr} {B H0 H : Hp} {vs : List V} {ds : List D} {N : List Str} (x0 : Ext B H0 B H) (h : DpAll K B vs ds) : ER K ga B H0 B H (L2.start N vs) (ds.map En.v ++ List.replicate (N.length - ds.length) En.un) := by
  have hl := DpAll.len h
  have at_ : ∀ {i : Nat} {z : En}, (ds.map En.v ++ List.replicate (N.length - ds.length) En.un)[i]? = some z → (∃ d, ds[i]? = some d ∧ z = .v d) ∨ z = .un := fun {i z} e => by
    rw [List.getElem?_append] at e
    split at e
    · rw [List.getElem?_map] at e
      cases hd : ds[i]? with
      | none =>
        rw [hd] at e
        cases e
      | some d =>
        rw [hd] at e
        cases e
        exact .inl ⟨d, rfl, rfl⟩
    · rw [List.getElem?_replicate] at e
      split at e
      · cases e
        exact .inr rfl
      · cases e
  refine ⟨x0, by unfold L2.start; simp [hl], fun i d e => ?_, fun i es e => ?_, fun i j es fs p e _ _ _ => ?_, ⟨fun i es e => ?_, fun i j es fs e _ _ => ?_, fun i j es fs e _ => ?_, fun i a e => ?_⟩⟩
  · rcases at_ e with ⟨d', h1, h2⟩ | h2
    · cases h2
      obtain ⟨v, a, b⟩ := DpAll.get h h1
      refine ⟨v, ?_, b⟩
      unfold L2.start
      rw [List.getElem?_append_left (by rw [List.length_map]; exact (List.getElem?_eq_some_iff.mp a).1), List.getElem?_map, a]
      rfl
    · cases h2
  · rcases at_ e with ⟨d', _, h2⟩ | h2 <;> cases h2
  · rcases at_ e with ⟨d', _, h2⟩ | h2 <;> cases h2
  · rcases at_ e with ⟨d', _, h2⟩ | h2 <;> cases h2
  · rcases at_ e with ⟨d', _, h2⟩ | h2 <;> cases h2
  · rcases at_ e with ⟨d', _, h2⟩ | h2 <;> cases h2
  · rcases at_ e with ⟨d', _, h2⟩ | h2 <;> cases h2
theorem er_start {ga : Addr} {B H : Hp} {vs : List V} {ds : List D} {N : List Str} (eb : Ex B H) (h : DpAll K B vs ds) : ER K ga B H B H (L2.start N vs) (ds.map En.v ++ List.replicate (N.length - ds.length) En.un) := er_start0 (Ext.refl eb) h
theorem run_ends {B H : Hp} {Q : VK} {E : XK} {N : List Str} {ds : List D} {G : Ev → Fl} (p : match runF N.length G ds with
      | .ok d => ∀ v B' H', Ext B H B' H' → Dp K B' v d → Q v H'
      | .ex e => ∀ cls dd B' H', Ext B H B' H' → XRep mg K B' e cls dd → E cls dd H'
      | .no => False) : SPost K mg (fun c d _ H => E c d H) ga B H { nx := fun _ H' => Q .non H', rt := Q } (G (ds.map En.v ++ List.replicate (N.length - ds.length) En.un)) := by
  unfold runF at p
  cases hg : G (ds.map En.v ++ List.replicate (N.length - ds.length) En.un) with
  | nx s =>
    rw [hg] at p
    exact fun B1 H1 σ e => p .non B1 H1 e.ext .non
  | rt d =>
    rw [hg] at p
    exact p
  | rl es =>
    rw [hg] at p
    intro a ws B1 H1 x h0 hb h1 q
    have eb : Ex B1 (upd B1 a (.lst ws)) := Ex.new hb
    refine p (.ref a) (upd B1 a (.lst ws)) H1 ⟨x.b.trans eb, x.h, fun c u g => ?_, fun c u g n => ?_⟩ (.lst (SqL.of upd_same) (DpAll.ex eb _ _ q))
    · by_cases z : c = a
      · subst z
        rw [upd_same] at g
        rw [← g]
        exact h1
      · rw [upd_ne z] at g
        exact x.s c u g
    · have z : c ≠ a := fun z => by
        subst z
        rw [h0] at g
        cases g
      rw [upd_ne z]
      exact x.o c u g n
  | rm d es =>
    rw [hg] at p
    exact p.elim
  | bk s =>
    rw [hg] at p
    exact (show False from p).elim
  | ct s =>
    rw [hg] at p
    exact (show False from p).elim
  | ex y s =>
    rw [hg] at p
    exact fun cls dd B1 H1 σ e q => p cls dd B1 H1 e.ext q
  | no =>
    rw [hg] at p
    exact (show False from p).elim
end
/-! ### the words of a derivation: the rule and its meaning together -/
structure JE (X : Cx) (W : WX) (e : Expr) (t : TE) (f : Ev → R D) : Prop where
  pe : PE X e t
  sd : SndE X.K X.mg W t f
structure JL (X : Cx) (W : WX) (e : Expr) (t : TE) (f : Ev → R D) : Prop where
  pe : PE X e t
  sd : SndL X.K X.mg W t f
structure JA (X : Cx) (W : WX) (es : List Expr) (t : TA) (f : Ev → R (List D)) : Prop where
  pe : PA X es t
  sd : SndA X.K X.mg W t f
structure JT (X : Cx) (W : WX) (e : Expr) (t : TT) (f : Ev → R Bool) : Prop where
  pe : PT X e t
  sd : SndT X.K X.mg W t f
structure JW (X : Cx) (W : WX) (e : Expr) (t : TT) (f : Ev → R Bool) : Prop where
  pe : PW X e t
  sd : SndT X.K X.mg W t f
structure JO (X : Cx) (W : WX) (e : Option Expr) (t : TO) (f : Ev → R (Option Int)) : Prop where
  pe : PO X e t
  sd : SndO X.K X.mg W t f
structure JI (X : Cx) (W : WX) (tg e : Expr) (t : TI) (f : Ev → R (List D)) : Prop where
  pe : PI X tg e t
  sd : SndI X.K X.mg W t f
structure JG (X : Cx) (e : Expr) (t : TG) (f : D → Ev → R Ev) : Prop where
  pe : PG X e t
  sd : SndG X.K t f
structure JGs (X : Cx) (es : List Expr) (t : TGs) (f : List D → Ev → R Ev) : Prop where
  pe : PGs X es t
  sd : SndGs X.K t f
structure JGW (X : Cx) (vs : List Nat) (e : Expr) (t : TG) (f : D → Ev → R Ev) : Prop where
  pe : PG X e t
  sd : SndGW X.K vs t f
structure JGsW (X : Cx) (vs : List Nat) (es : List Expr) (t : TGs) (f : List D → Ev → R Ev) : Prop where
  pe : PGs X es t
  sd : SndGsW X.K vs t f
structure JS (X : Cx) (W : WX) (st : Stmt) (t : TS) (f : Ev → Fl) : Prop where
  pe : PS X st t
  sd : SndS X.K X.mg W t f
structure JSs (X : Cx) (W : WX) (st : List Stmt) (t : TS) (f : Ev → Fl) : Prop where
  pe : PSs X st t
  sd : SndS X.K X.mg W t f

def rInt1 : List V → Hp → VK → Prop := fun xs H Q => (∃ i, xs = [.int i] ∧ Q (.int i) H) ∨ ∃ k, xs = [.bl k] ∧ Q (.int (if k then 1 else 0)) H
def rStrI : List V → Hp → VK → Prop := fun xs H Q => ∃ i, xs = [.int i] ∧ i.natAbs.log2 < 1920 ∧ Q (.str (toString i)) H
def rAbs1 : List V → Hp → VK → Prop := fun xs H Q => ∃ i, xs = [.int i] ∧ Q (.int (if i < 0 then -i else i)) H
def rMx2 : List V → Hp → VK → Prop := fun xs H Q => ∃ i j, xs = [.int i, .int j] ∧ Q (.int (if j > i then j else i)) H
def rMn2 : List V → Hp → VK → Prop := fun xs H Q => ∃ i j, xs = [.int i, .int j] ∧ Q (.int (if j < i then j else i)) H
section
variable {X : Cx} {W : WX} {x : Str} {p pos : Pos} {e a b : Expr} {es : List Expr} {t ta tb te : TE} {tA : TA} {f g : Ev → R D} {fA : Ev → R (List D)}
theorem j_var (i : Nat) {x : Str} {pos : Pos} (hN : X.N[i]? = some x := by rfl) (hv : Vis X.env.scope x := by first | exact Or.inl rfl | exact Or.inr (Or.inl rfl) | exact Or.inr (Or.inr rfl)) (hd : (x == ("__debug__" : Str)) = false := by decide)
    (hcd : (x == ("__classdict__" : Str)) = false := by decide) : JE X W (.Name x pos) (tVar i) (fVar i) := ⟨pe_var hN hv hd hcd, snd_var⟩
theorem j_int {i j pos} : JE X W (.Constant (.int i) j pos) (tC (.int i)) (fC (.int i)) := ⟨pe_int, snd_c fun _ => .int i⟩
theorem j_bl {b j pos} : JE X W (.Constant (.bool b) j pos) (tC (.bl b)) (fC (.bool b)) := ⟨pe_bl, snd_c fun _ => .bl b⟩
theorem j_non {j pos} : JE X W (.Constant .none j pos) (tC .non) (fC .none) := ⟨pe_non, snd_c fun _ => .non⟩
theorem j_str {x j pos} : JE X W (.Constant (.str x) j pos) (tC (.str x)) (fC (.str x)) := ⟨pe_str, snd_c fun _ => .str x⟩
theorem j_add {Kk : PySem.W.Frag} (ha : JE X W a ta f) (hb : JE X W b tb g) (hK : X.K = Kk := by rfl) : JE X W (.BinOp a .Add b pos) (tOp (rAddA Kk) ta tb) (fBin gAdd f g) := by
  subst hK
  exact ⟨pe_op op_addA ha.pe hb.pe, snd_bin sr_add add_nx ha.sd hb.sd⟩
theorem j_sub (ha : JE X W a ta f) (hb : JE X W b tb g) : JE X W (.BinOp a .Sub b pos) (tOp (rI0 fun i j => .int (i - j)) ta tb) (fBin gSubI f g) := ⟨pe_op op_sub ha.pe hb.pe, snd_bin sr_sub sub_nx ha.sd hb.sd⟩
theorem j_mul (ha : JE X W a ta f) (hb : JE X W b tb g) : JE X W (.BinOp a .Mult b pos) (tOp (rI CMulA fun i j => .int (i * j)) ta tb) (fBin gMul f g) := ⟨pe_op op_mulA ha.pe hb.pe, snd_bin (sr_int fun _ _ _ => .int _) int2_nx ha.sd hb.sd⟩
theorem j_div (ha : JE X W a ta f) (hb : JE X W b tb g) : JE X W (.BinOp a .FloorDiv b pos) (tOp (rI CDivA fun i j => .int (i.fdiv j)) ta tb) (fBin gDiv f g) := ⟨pe_op op_fdivA ha.pe hb.pe, snd_bin (sr_int fun _ _ _ => .int _) int2_nx ha.sd hb.sd⟩
theorem j_mod (ha : JE X W a ta f) (hb : JE X W b tb g) : JE X W (.BinOp a .Mod b pos) (tOp (rI CNz fun i j => .int (i.fmod j)) ta tb) (fBin gMod f g) := ⟨pe_op op_modN ha.pe hb.pe, snd_bin (sr_int fun _ _ _ => .int _) int2_nx ha.sd hb.sd⟩
theorem j_pow (ha : JE X W a ta f) (hb : JE X W b tb g) : JE X W (.BinOp a .Pow b pos) (tOp (rI CPow fun i j => .int (i ^ j.toNat)) ta tb) (fBin gPow f g) := ⟨pe_op op_pow ha.pe hb.pe, snd_bin (sr_int fun _ _ _ => .int _) int2_nx ha.sd hb.sd⟩
theorem j_neg (ha : JE X W a ta f) : JE X W (.UnaryOp .USub a pos) (tUn (rU fun i => .int (-i)) ta) (fUn gNeg f) := ⟨pe_un un_neg ha.pe, snd_un sr_neg neg_nx ha.sd⟩
/-! comparisons: as values, as tests -/
theorem j_lt (ha : JE X W a ta f) (hb : JE X W b tb g) : JE X W (.Compare a [.Lt] [b] pos) (tOp (rI0 fun i j => .bl (decide (i < j))) ta tb) (fBin (gCmp fun i j => decide (i < j)) f g) := ⟨pe_cmpR op_lt ha.pe hb.pe (nomark _), snd_bin sr_cmp cmp_nx ha.sd hb.sd⟩
theorem j_le (ha : JE X W a ta f) (hb : JE X W b tb g) : JE X W (.Compare a [.LtE] [b] pos) (tOp (rI0 fun i j => .bl (decide (i ≤ j))) ta tb) (fBin (gCmp fun i j => decide (i ≤ j)) f g) := ⟨pe_cmpR op_le ha.pe hb.pe (nomark _), snd_bin sr_cmp cmp_nx ha.sd hb.sd⟩
theorem j_gt (ha : JE X W a ta f) (hb : JE X W b tb g) : JE X W (.Compare a [.Gt] [b] pos) (tOp (rI0 fun i j => .bl (decide (j < i))) ta tb) (fBin (gCmp fun i j => decide (j < i)) f g) := ⟨pe_cmpR op_gt ha.pe hb.pe (nomark _), snd_bin sr_cmp cmp_nx ha.sd hb.sd⟩
theorem j_ge (ha : JE X W a ta f) (hb : JE X W b tb g) : JE X W (.Compare a [.GtE] [b] pos) (tOp (rI0 fun i j => .bl (decide (j ≤ i))) ta tb) (fBin (gCmp fun i j => decide (j ≤ i)) f g) := ⟨pe_cmpR op_ge ha.pe hb.pe (nomark _), snd_bin sr_cmp cmp_nx ha.sd hb.sd⟩
theorem j_eq {Kk : PySem.W.Frag} {u : Nat} (hu0 : u + 64 < cLine) (ha : JE X W a ta f) (hb : JE X W b tb g) (hA : X.A.units = u := by rfl) (hK : X.K = Kk := by rfl) : JE X W (.Compare a [.Eq] [b] pos) (tOp (rEqD Kk) ta tb) (fBin gEq f g) := by
  subst hK
  exact ⟨pe_cmpR (op_eqD (hA ▸ hu0)) ha.pe hb.pe (nomark _), snd_bin sr_eq eq_nx ha.sd hb.sd⟩
theorem j_ne {Kk : PySem.W.Frag} {u : Nat} (hu0 : u + 64 < cLine) (ha : JE X W a ta f) (hb : JE X W b tb g) (hA : X.A.units = u := by rfl) (hK : X.K = Kk := by rfl) : JE X W (.Compare a [.NotEq] [b] pos) (tOp (rNeD Kk) ta tb) (fBin gNe f g) := by
  subst hK
  exact ⟨pe_cmpR (op_neD (hA ▸ hu0)) ha.pe hb.pe (nomark _), snd_bin sr_ne ne_nx ha.sd hb.sd⟩
theorem j_in {Kk : PySem.W.Frag} (ha : JE X W a ta f) (hb : JE X W b tb g) (hm : behindInMarks .In b = false := by rfl) (hK : X.K = Kk := by rfl) : JE X W (.Compare a [.In] [b] pos) (tOp (rInA Kk false) ta tb) (fBin (gIn false) f g) := by
  subst hK
  exact ⟨pe_cmpR op_inA ha.pe hb.pe hm, snd_bin sr_in (in_nx false) ha.sd hb.sd⟩
theorem j_notIn {Kk : PySem.W.Frag} (ha : JE X W a ta f) (hb : JE X W b tb g) (hm : behindInMarks .NotIn b = false := by rfl) (hK : X.K = Kk := by rfl) : JE X W (.Compare a [.NotIn] [b] pos) (tOp (rInA Kk true) ta tb) (fBin (gIn true) f g) := by
  subst hK
  exact ⟨pe_cmpR op_notInA ha.pe hb.pe hm, snd_bin sr_in (in_nx true) ha.sd hb.sd⟩
def gIsB : D → D → R D
  | .bool i, .bool j => .ok (.bool (decide (i = j)))
  | _, _ => .no
theorem isB_nx (d e : D) (x : Exn) : gIsB d e ≠ .ex x := by unfold gIsB; split <;> exact fun z => nomatch z
theorem sr_isB {K : PySem.W.Frag} : SndR2 K rIsB gIsB := by
  refine ⟨fun B H x y d e Q eb hx hy p => ?_⟩
  unfold gIsB at p
  split at p
  · cases hx
    cases hy
    exact ⟨_, _, rfl, rfl, p _ B H (Ext.refl eb) (.bl _)⟩
  · exact p.elim
theorem j_isB (ha : JE X W a ta f) (hb : JE X W b tb g) : JE X W (.Compare a [.Is] [b] pos) (tOp rIsB ta tb) (fBin gIsB f g) := ⟨pe_cmpR op_isBl ha.pe hb.pe (nomark _), snd_bin sr_isB isB_nx ha.sd hb.sd⟩
def gIsN2 (d e : D) : R D := match e with
  | .none => gIsN d
  | _ => .no
def gNotN2 (d e : D) : R D := match e with
  | .none => gNotN d
  | _ => .no
theorem j_isN (ha : JE X W a ta f) {j pos'} : JE X W (.Compare a [.Is] [.Constant .none j pos'] pos) (tOp (fun x y H Q => y = .non ∧ Q (.bl (decide (x = .non))) H) ta (tC .non)) (fUn gIsN f) := ⟨pe_cmpR op_isN ha.pe pe_non (nomark _), by
  refine ⟨fun ga B0 H0 B H σ s Q e p => ?_⟩
  refine ha.sd.bind e p fun d v B1 H1 _ x1 q1 e1 p1 => ⟨rfl, ?_⟩
  rw [isN_of q1]
  cases d <;> exact p1 _ B1 H1 e1.here (.bl _)⟩
theorem j_notN (ha : JE X W a ta f) {j pos'} : JE X W (.Compare a [.IsNot] [.Constant .none j pos'] pos) (tOp (fun x y H Q => y = .non ∧ Q (.bl (!decide (x = .non))) H) ta (tC .non)) (fUn gNotN f) := ⟨pe_cmpR op_notN ha.pe pe_non (nomark _), by
  refine ⟨fun ga B0 H0 B H σ s Q e p => ?_⟩
  refine ha.sd.bind e p fun d v B1 H1 _ x1 q1 e1 p1 => ⟨rfl, ?_⟩
  rw [isN_of q1]
  cases d <;> exact p1 _ B1 H1 e1.here (.bl _)⟩
/-- a comparison as a test: from its rule as a value -/
theorem t_cmp {op : CmpOp} {r : R2} {f : Ev → R D} (h : JE X W (.Compare a [op] [b] pos) (tOp r ta tb) f) (ho : OpR X (compareOp op) r) (ha : PE X a ta) (hb : PE X b tb) (hm : behindInMarks op b = false) : JT X W (.Compare a [op] [b] pos) (tTest (tOp r ta tb)) (bVal f) := ⟨pt_cmpR ho ha hb hm, snd_test h.sd⟩
theorem t_lt (ha : JE X W a ta f) (hb : JE X W b tb g) : JT X W (.Compare a [.Lt] [b] pos) (tTest (tOp (rI0 fun i j => .bl (decide (i < j))) ta tb)) (bVal (fBin (gCmp fun i j => decide (i < j)) f g)) := t_cmp (j_lt ha hb) op_lt ha.pe hb.pe (nomark _)
theorem t_le (ha : JE X W a ta f) (hb : JE X W b tb g) : JT X W (.Compare a [.LtE] [b] pos) (tTest (tOp (rI0 fun i j => .bl (decide (i ≤ j))) ta tb)) (bVal (fBin (gCmp fun i j => decide (i ≤ j)) f g)) := t_cmp (j_le ha hb) op_le ha.pe hb.pe (nomark _)
theorem t_gt (ha : JE X W a ta f) (hb : JE X W b tb g) : JT X W (.Compare a [.Gt] [b] pos) (tTest (tOp (rI0 fun i j => .bl (decide (j < i))) ta tb)) (bVal (fBin (gCmp fun i j => decide (j < i)) f g)) := t_cmp (j_gt ha hb) op_gt ha.pe hb.pe (nomark _)
theorem t_ge (ha : JE X W a ta f) (hb : JE X W b tb g) : JT X W (.Compare a [.GtE] [b] pos) (tTest (tOp (rI0 fun i j => .bl (decide (j ≤ i))) ta tb)) (bVal (fBin (gCmp fun i j => decide (j ≤ i)) f g)) := t_cmp (j_ge ha hb) op_ge ha.pe hb.pe (nomark _)
theorem t_eq {Kk : PySem.W.Frag} {u : Nat} (hu0 : u + 64 < cLine) (ha : JE X W a ta f) (hb : JE X W b tb g) (hA : X.A.units = u := by rfl) (hK : X.K = Kk := by rfl) : JT X W (.Compare a [.Eq] [b] pos) (tTest (tOp (rEqD Kk) ta tb)) (bVal (fBin (gEq) f g)) := by
  subst hK
  exact t_cmp (j_eq hu0 ha hb hA) (op_eqD (hA ▸ hu0)) ha.pe hb.pe (nomark _)
theorem t_ne {Kk : PySem.W.Frag} {u : Nat} (hu0 : u + 64 < cLine) (ha : JE X W a ta f) (hb : JE X W b tb g) (hA : X.A.units = u := by rfl) (hK : X.K = Kk := by rfl) : JT X W (.Compare a [.NotEq] [b] pos) (tTest (tOp (rNeD Kk) ta tb)) (bVal (fBin (gNe) f g)) := by
  subst hK
  exact t_cmp (j_ne hu0 ha hb hA) (op_neD (hA ▸ hu0)) ha.pe hb.pe (nomark _)
theorem t_in {Kk : PySem.W.Frag} (ha : JE X W a ta f) (hb : JE X W b tb g) (hm : behindInMarks .In b = false := by rfl) (hK : X.K = Kk := by rfl) : JT X W (.Compare a [.In] [b] pos) (tTest (tOp (rInA Kk false) ta tb)) (bVal (fBin (gIn false) f g)) := by
  subst hK
  exact t_cmp (j_in ha hb hm) op_inA ha.pe hb.pe hm
theorem t_notIn {Kk : PySem.W.Frag} (ha : JE X W a ta f) (hb : JE X W b tb g) (hm : behindInMarks .NotIn b = false := by rfl) (hK : X.K = Kk := by rfl) : JT X W (.Compare a [.NotIn] [b] pos) (tTest (tOp (rInA Kk true) ta tb)) (bVal (fBin (gIn true) f g)) := by
  subst hK
  exact t_cmp (j_notIn ha hb hm) op_notInA ha.pe hb.pe hm
theorem t_isB (ha : JE X W a ta f) (hb : JE X W b tb g) : JT X W (.Compare a [.Is] [b] pos) (tTest (tOp rIsB ta tb)) (bVal (fBin (gIsB) f g)) := t_cmp (j_isB ha hb) op_isBl ha.pe hb.pe (nomark _)
theorem t_isN (ha : JE X W a ta f) {j pos'} : JT X W (.Compare a [.Is] [.Constant .none j pos'] pos) (tTest (tOp (fun x y H Q => y = .non ∧ Q (.bl (decide (x = .non))) H) ta (tC .non))) (bVal (fUn gIsN f)) := t_cmp (j_isN ha) op_isN ha.pe pe_non (nomark _)
theorem t_notN (ha : JE X W a ta f) {j pos'} : JT X W (.Compare a [.IsNot] [.Constant .none j pos'] pos) (tTest (tOp (fun x y H Q => y = .non ∧ Q (.bl (!decide (x = .non))) H) ta (tC .non))) (bVal (fUn gNotN f)) := t_cmp (j_notN ha) op_notN ha.pe pe_non (nomark _)
/-! items, slices, displays -/
theorem j_ix {Kk : PySem.W.Frag} (ha : JE X W a ta f) (hb : JE X W b tb g) (hs : PlainIx b := by exact fun _ _ => rfl) (hK : X.K = Kk := by rfl) : JE X W (.Subscript a b pos) (tOp (rIx Kk) ta tb) (fBin gIx f g) := by
  subst hK
  exact ⟨pe_ix ix_seq ha.pe hb.pe hs, snd_bin sr_ix ix_nx ha.sd hb.sd⟩
theorem j_ixO {Kk : PySem.W.Frag} (i : Nat) (hb : JE X W b tb g) {x : Str} {p : Pos} (hs : PlainIx b := by exact fun _ _ => rfl) (hN : X.N[i]? = some x := by rfl) (hv : Vis X.env.scope x := by first | exact Or.inl rfl | exact Or.inr (Or.inl rfl) | exact Or.inr (Or.inr rfl)) (hd : (x == ("__debug__" : Str)) = false := by decide)
    (hcd : (x == ("__classdict__" : Str)) = false := by decide) (hK : X.K = Kk := by rfl) : JE X W (.Subscript (.Name x p) b pos) (tOp (rIx Kk) (tVar i) tb) (fIxO i g) := by
  subst hK
  exact ⟨pe_ix ix_seq (pe_var hN hv hd hcd) hb.pe hs, snd_ixO hb.sd⟩
theorem o_none : JO X W none tNoPart oNone := ⟨po_none, so_none⟩
theorem o_some (h : JE X W e te f) : JO X W (some e) (tPart te) (oSome f) := ⟨po_some h.pe, so_some h.sd⟩
theorem j_sl {Kk : PySem.W.Frag} {lo hi : Option Expr} {tl th : TO} {l h : Ev → R (Option Int)} {p2 : Pos} (ha : JE X W e te f) (hl : JO X W lo tl l) (hh : JO X W hi th h) (hK : X.K = Kk := by rfl) : JE X W (.Subscript e (.Slice lo hi none p2) pos) (tSl (rSlA Kk) te tl th) (fSl f l h) := by
  subst hK
  exact ⟨pe_slice sl_all ha.pe hl.pe hh.pe, snd_sl ha.sd hl.sd hh.sd⟩
theorem a_nil : JA X W [] tNil fNil := ⟨pa_nil, snd_nil⟩
theorem a_cons (ha : JE X W e te f) (hr : JA X W es tA fA) (hs : starEach (e :: es) X.env = (false, eval e X.env) :: starEach es X.env := by rfl) : JA X W (e :: es) (tCons te tA) (fCons f fA) := ⟨pa_cons ha.pe hr.pe hs, snd_cons ha.sd hr.sd⟩
theorem j_tup {k} (h : JA X W es tA fA) : JE X W (.Tuple es k pos) (tTup tA) (fTup fA) := ⟨pe_tup h.pe, snd_tup h.sd⟩
theorem l_lst (h : JA X W es tA fA) : JL X W (.List es pos) (tLst tA) (fLst fA) := ⟨pe_lst h.pe, sl_lst h.sd⟩
theorem jl_e (h : JL X W e te f) : JE X W e te f := ⟨h.pe, h.sd.toE⟩
theorem j_if {c : Expr} {tc : TT} {cb : Ev → R Bool} (hc : JT X W c tc cb) (ha : JE X W a ta f) (hb : JE X W b tb g) : JE X W (.IfExp c a b pos) (tIf tc ta tb) (fIf cb f g) := ⟨pe_ifExp hc.pe ha.pe hb.pe, snd_if hc.sd ha.sd hb.sd⟩
/-! and, or, not -/
variable {rest : List Expr}
theorem j_one {op} (h : JE X W a ta f) : JE X W (.BoolOp op [a] pos) ta f := ⟨pe_one h.pe, h.sd⟩
theorem j_and (ha : JE X W a ta f) (hb : JE X W (.BoolOp .And (b :: rest) pos) tb g) : JE X W (.BoolOp .And (a :: b :: rest) pos) (tAndV ta tb) (fAnd f g) := ⟨pe_and ha.pe hb.pe, snd_andV ha.sd hb.sd⟩
theorem j_or (ha : JE X W a ta f) (hb : JE X W (.BoolOp .Or (b :: rest) pos) tb g) : JE X W (.BoolOp .Or (a :: b :: rest) pos) (tOrV ta tb) (fOr f g) := ⟨pe_or ha.pe hb.pe, snd_orV ha.sd hb.sd⟩
theorem j_not (ha : JE X W a ta f) : JE X W (.UnaryOp .Not a pos) (tNotV ta) (fNot f) := ⟨pe_not ha.pe, snd_notV ha.sd⟩
variable {tt tu : TT} {c d : Ev → R Bool}
theorem w_and1 (ha : JT X W a tt c) : JW X W (.BoolOp .And [a] pos) tt c := ⟨pw_and1 ha.pe, ha.sd⟩
theorem w_or1 (ha : JT X W a tt c) : JW X W (.BoolOp .Or [a] pos) tt c := ⟨pw_or1 ha.pe, ha.sd⟩
theorem w_and (ha : JT X W a tt c) (hb : JW X W (.BoolOp .And (b :: rest) pos) tu d) : JW X W (.BoolOp .And (a :: b :: rest) pos) (tAnd tt tu) (bAnd c d) := ⟨pw_and ha.pe hb.pe, snd_and ha.sd hb.sd⟩
theorem w_or (ha : JT X W a tt c) (hb : JW X W (.BoolOp .Or (b :: rest) pos) tu d) : JW X W (.BoolOp .Or (a :: b :: rest) pos) (tOr tt tu) (bOr c d) := ⟨pw_or ha.pe hb.pe, snd_or ha.sd hb.sd⟩
theorem t_w (h : JW X W a tt c) : JT X W a tt c := ⟨h.pe.pt, h.sd⟩
theorem t_not (ha : JT X W a tt c) : JT X W (.UnaryOp .Not a pos) (tNot tt) (bNot c) := ⟨pt_not ha.pe, snd_not ha.sd⟩
theorem t_tru {Kk : PySem.W.Frag} (ha : JE X W a ta f) (he : ∀ whole, isTrue a X.env whole = (do let v ← whole; standAt a.pos; holding [v] (truthy v)) := by exact fun _ => rfl) (hK : X.K = Kk := by rfl) : JT X W a (fun σ H Q => ta σ H fun x H' => ∃ k, TruV Kk x H' k ∧ Q k H') (bTru f) := by
  subst hK
  exact ⟨pt_truth ha.pe he, snd_tru ha.sd⟩
/-! built-ins -/
theorem j_len {Kk : PySem.W.Frag} (hm : X.mg "len" = none) (ha : JA X W (e :: es) tA fA) (hg : Gl X "len" := by rfl) (he : starEach (e :: es) X.env = (false, eval e X.env) :: starEach es X.env := by rfl) (hpl : (backTo pos (starEach es X.env)).any (·.1) = false := by rfl) (hK : X.K = Kk := by rfl) : JE X W (.Call (.Name "len" p) (e :: es) [] pos) (tCB (rLenA Kk) tA) (fCall gLen fA) := by
  subst hK
  exact ⟨pe_callB call_lenA hg hm PySem.boot_len ha.pe (by decide) (by decide) he hpl, snd_cb sr_len len_nx ha.sd⟩
theorem j_lenO {Kk : PySem.W.Frag} (i : Nat) (hm : X.mg "len" = none) {x : Str} {q : Pos} (hg : Gl X "len" := by rfl) (hN : X.N[i]? = some x := by rfl) (hv : Vis X.env.scope x := by first | exact Or.inl rfl | exact Or.inr (Or.inl rfl) | exact Or.inr (Or.inr rfl)) (hd : (x == ("__debug__" : Str)) = false := by decide)
    (hcd : (x == ("__classdict__" : Str)) = false := by decide) (hs : starEach [.Name x q] X.env = (false, eval (.Name x q) X.env) :: starEach [] X.env := by rfl) (hpl : (backTo pos (starEach [] X.env)).any (·.1) = false := by rfl) (hK : X.K = Kk := by rfl) : JE X W (.Call (.Name "len" p) [.Name x q] [] pos) (tCB (rLenA Kk) (tCons (tVar i) tNil)) (fLenO i) := by
  subst hK
  exact ⟨pe_callB call_lenA hg hm PySem.boot_len (pa_cons (pe_var hN hv hd hcd) pa_nil hs) (by decide) (by decide) hs hpl, snd_lenO⟩
theorem j_intc (hm : X.mg "int" = none) (ha : JA X W (e :: es) tA fA) (hg : Gl X "int" := by rfl) (he : starEach (e :: es) X.env = (false, eval e X.env) :: starEach es X.env := by rfl) (hpl : (backTo pos (starEach es X.env)).any (·.1) = false := by rfl) :
    JE X W (.Call (.Name "int" p) (e :: es) [] pos) (tCB rInt1 tA) (fCall gInt1 fA) := ⟨pe_callTy call_int1 hg hm (by decide +kernel) ha.pe (by decide) (by decide) he hpl, snd_cb sr_int1 int1_nx ha.sd⟩
theorem j_strc (hm : X.mg "str" = none) (ha : JA X W (e :: es) tA fA) (hg : Gl X "str" := by rfl) (he : starEach (e :: es) X.env = (false, eval e X.env) :: starEach es X.env := by rfl) (hpl : (backTo pos (starEach es X.env)).any (·.1) = false := by rfl) :
    JE X W (.Call (.Name "str" p) (e :: es) [] pos) (tCB rStrI tA) (fCall gStrI fA) := ⟨pe_callTy call_str_int hg hm (by decide +kernel) ha.pe (by decide) (by decide) he hpl, snd_cb sr_strI strI_nx ha.sd⟩
theorem l_listc {Kk : PySem.W.Frag} (hm : X.mg "list" = none) (ha : JA X W (e :: es) tA fA) (hg : Gl X "list" := by rfl) (he : starEach (e :: es) X.env = (false, eval e X.env) :: starEach es X.env := by rfl) (hpl : (backTo pos (starEach es X.env)).any (·.1) = false := by rfl) (hK : X.K = Kk := by rfl) : JL X W (.Call (.Name "list" p) (e :: es) [] pos) (tCB (rListA Kk) tA) (fCall gList fA) := by
  subst hK
  exact ⟨pe_callTy call_list_of hg hm (by decide +kernel) ha.pe (by decide) (by decide) he hpl, sl_list1 ha.sd⟩
theorem j_abs (hm : X.mg "abs" = none) (ha : JA X W (e :: es) tA fA) (hg : Gl X "abs" := by rfl) (he : starEach (e :: es) X.env = (false, eval e X.env) :: starEach es X.env := by rfl) (hpl : (backTo pos (starEach es X.env)).any (·.1) = false := by rfl) :
    JE X W (.Call (.Name "abs" p) (e :: es) [] pos) (tCB rAbs1 tA) (fCall gAbs fA) := ⟨pe_callB call_abs hg hm (by decide +kernel) ha.pe (by decide) (by decide) he hpl, snd_cb sr_abs abs_nx ha.sd⟩
theorem j_max2 (hc : X.calm = true) (hm : X.mg "max" = none) (ha : JA X W (e :: es) tA fA) (hg : Gl X "max" := by rfl) (he : starEach (e :: es) X.env = (false, eval e X.env) :: starEach es X.env := by rfl) (hpl : (backTo pos (starEach es X.env)).any (·.1) = false := by rfl) :
    JE X W (.Call (.Name "max" p) (e :: es) [] pos) (tCB rMx2 tA) (fCall gMax2 fA) := ⟨pe_callB (call_max2 hc) hg hm (by decide +kernel) ha.pe (by decide) (by decide) he hpl, snd_cb sr_max2 max2_nx ha.sd⟩
theorem j_min2 (hc : X.calm = true) (hm : X.mg "min" = none) (ha : JA X W (e :: es) tA fA) (hg : Gl X "min" := by rfl) (he : starEach (e :: es) X.env = (false, eval e X.env) :: starEach es X.env := by rfl) (hpl : (backTo pos (starEach es X.env)).any (·.1) = false := by rfl) :
    JE X W (.Call (.Name "min" p) (e :: es) [] pos) (tCB rMn2 tA) (fCall gMin2 fA) := ⟨pe_callB (call_min2 hc) hg hm (by decide +kernel) ha.pe (by decide) (by decide) he hpl, snd_cb sr_min2 min2_nx ha.sd⟩
theorem j_all {Kk : PySem.W.Frag} (hc : X.calm = true) (hm : X.mg "all" = none) (ha : JA X W (e :: es) tA fA) (hg : Gl X "all" := by rfl) (he : starEach (e :: es) X.env = (false, eval e X.env) :: starEach es X.env := by rfl) (hpl : (backTo pos (starEach es X.env)).any (·.1) = false := by rfl) (hK : X.K = Kk := by rfl) : JE X W (.Call (.Name "all" p) (e :: es) [] pos) (tCB (rAll Kk) tA) (fCall gAll fA) := by
  subst hK
  exact ⟨pe_callB (cr_all hc) hg hm (by decide +kernel) ha.pe (by decide) (by decide) he hpl, snd_cb sr_all all_nx ha.sd⟩
theorem j_any {Kk : PySem.W.Frag} (hc : X.calm = true) (hm : X.mg "any" = none) (ha : JA X W (e :: es) tA fA) (hg : Gl X "any" := by rfl) (he : starEach (e :: es) X.env = (false, eval e X.env) :: starEach es X.env := by rfl) (hpl : (backTo pos (starEach es X.env)).any (·.1) = false := by rfl) (hK : X.K = Kk := by rfl) : JE X W (.Call (.Name "any" p) (e :: es) [] pos) (tCB (rAny Kk) tA) (fCall gAny fA) := by
  subst hK
  exact ⟨pe_callB (cr_any hc) hg hm (by decide +kernel) ha.pe (by decide) (by decide) he hpl, snd_cb sr_any any_nx ha.sd⟩
theorem j_gcd (hm : X.mg "gcd" = some (.builtin "math.gcd")) (ha : JA X W (e :: es) tA fA) (hg : Gl X "gcd" := by rfl) (he : starEach (e :: es) X.env = (false, eval e X.env) :: starEach es X.env := by rfl) (hpl : (backTo pos (starEach es X.env)).any (·.1) = false := by rfl) :
    JE X W (.Call (.Name "gcd" p) (e :: es) [] pos) (tCB rGcd tA) (fCall gGcd fA) := ⟨pe_callBfun cr_gcd hg hm ha.pe (by decide) he hpl, snd_cb sr_gcd gcd_nx ha.sd⟩
theorem j_isi {Kk : PySem.W.Frag} (T : String) {y : Str} {q : Pos} (hm : X.mg "isinstance" = none) (hmT : X.mg y = none) (ha : JE X W e te f) (hvT : bootBuiltins y = some (.type T)) (hgT : Gl X y := by rfl) (hg : Gl X "isinstance" := by rfl) (hn : y ≠ "__name__" := by decide) (hd : (y == ("__debug__" : Str)) = false := by decide)
    (hs : starEach [e, .Name y q] X.env = (false, eval e X.env) :: starEach [.Name y q] X.env := by rfl) (hs2 : starEach [.Name y q] X.env = (false, eval (.Name y q) X.env) :: starEach [] X.env := by rfl) (hpl : (backTo pos (starEach [.Name y q] X.env)).any (·.1) = false := by rfl) (hK : X.K = Kk := by rfl) : JE X W (.Call (.Name "isinstance" p) [e, .Name y q] [] pos) (tCB (rIsi Kk) (tCons te (tCons (tC (.ty T)) tNil))) (fUn (gIsi T) f) := by
  subst hK
  exact ⟨pe_callB call_isi hg hm (by decide +kernel) (pa_cons ha.pe (pa_cons (pe_bltn hgT hmT hvT rfl hn hd) pa_nil hs2) hs) (by decide) (by decide) hs hpl, snd_isi ha.sd⟩
/-! calls of the program's defs -/
variable {k : Nat} {fd : FuncData} {fa : Addr} {ps : List Str} {n : Nat} {F : List D → R D}
def fCallD (F : List D → R D) (fA : Ev → R (List D)) : Ev → R D := fun s => (fA s).bind F
theorem snd_callSD {K : PySem.W.Frag} {mg : Str → Option Value} {W : WX} {tA : TA} {fA : Ev → R (List D)} {n : Nat} {F : List D → R D} (hn : ∀ s ds, fA s = .ok ds → ds.length = n) (h : SndA K mg W tA fA) : SndE K mg W (tCallSD (spD K mg n F) [] (fun σ c d H => W c d σ H) tA) (fCallD F fA) := by
  refine ⟨fun ga B0 H0 B H σ s Q e p => ?_⟩
  refine h.bind e p fun ds vs B1 H1 hf x1 q1 e1 p1 => ?_
  refine ⟨?_, B1, ds, e1.ext.s, by rw [List.append_nil]; exact q1, ?_⟩
  · rw [List.append_nil, DpAll.len q1]
    exact hn s ds hf
  · cases hF : F ds with
    | ok d =>
      rw [hF] at p1
      exact p1
    | ex y =>
      rw [hF] at p1
      exact p1
    | no =>
      rw [hF] at p1
      exact p1
theorem nil_n (s : Ev) (ds : List D) (h : fNil s = .ok ds) : ds.length = 0 := by
  unfold fNil at h
  cases h
  rfl
theorem cons_n {f : Ev → R D} {g : Ev → R (List D)} {m : Nat} (hg : ∀ s ds, g s = .ok ds → ds.length = m) (s : Ev) (ds : List D) (h : fCons f g s = .ok ds) : ds.length = m + 1 := by
  unfold fCons at h
  cases hf : f s with
  | ok d =>
    rw [hf] at h
    replace h : ((g s).bind fun xs => R.ok (d :: xs)) = .ok ds := h
    cases hg2 : g s with
    | ok es =>
      rw [hg2] at h
      cases h
      rw [List.length_cons, hg s es hg2]
    | ex _ =>
      rw [hg2] at h
      cases h
    | no =>
      rw [hg2] at h
      cases h
  | ex _ =>
    rw [hf] at h
    cases h
  | no =>
    rw [hf] at h
    cases h
/-- f(e, ..): what it raises goes where this body's errors go -/
theorem j_call (tk : L2N.Takes X W) (G : FnOk X.prog X.w X.K X.mg X.base (L2N.CX X.prog X.w) k fa fd ps (spD X.K X.mg n F)) (hr : Room k X.A) (hm : X.mg x = some (.ref fa)) (hk : PySem.W.keepIn X.K (.ref fa) = true) (hb : Binds X.K fd ps []) (ha : JA X W (e :: es) tA fA) (hn : ∀ s ds, fA s = .ok ds → ds.length = n) (hg : Gl X x := by rfl) (hdb : (x == ("__debug__" : Str)) = false := by decide)
    (he : starEach (e :: es) X.env = (false, eval e X.env) :: starEach es X.env := by rfl) (hpl : (backTo pos (starEach es X.env)).any (·.1) = false := by rfl) : JE X W (.Call (.Name x p) (e :: es) [] pos) (tCallSD (spD X.K X.mg n F) [] (fun σ c d H => W c d σ H) tA) (fCallD F fA) :=
  ⟨pe_callSD G hr hg hm hk hb .nil (fun σ => L2N.passAt tk σ) ha.pe hdb he hpl, snd_callSD hn ha.sd⟩
theorem passW {X : Cx} {σ : L2.St} : PassesAt (L2N.CX X.prog X.w) X σ (fun c d H => W0 c d σ H) := fun _ _ _ _ _ _ h => by
  obtain ⟨_, _, _, _, _, _, _, _, _, _, _, _, z⟩ := h
  exact False.elim z
/-- in a comprehension's block -/
theorem j_callB {Pr : Program} {wd : World} {Kk : PySem.W.Frag} {mk : Str → Option Value} {bs : Heap} {A : Around} (G : FnOk Pr wd Kk mk bs (L2N.CX Pr wd) k fa fd ps (spD Kk mk n F)) (hr : Room k A) (hm : mk x = some (.ref fa)) (hk : PySem.W.keepIn Kk (.ref fa) = true) (hb : Binds Kk fd ps []) (ha : JA X W0 (e :: es) tA fA) (hn : ∀ s ds, fA s = .ok ds → ds.length = n)
    (e1 : X.prog = Pr := by rfl) (e2 : X.w = wd := by rfl) (e3 : X.K = Kk := by rfl) (e4 : X.mg = mk := by rfl) (e5 : X.base = bs := by rfl) (e6 : X.A = A := by rfl) (hg : Gl X x := by rfl) (hdb : (x == ("__debug__" : Str)) = false := by decide)
    (he : starEach (e :: es) X.env = (false, eval e X.env) :: starEach es X.env := by rfl) (hpl : (backTo pos (starEach es X.env)).any (·.1) = false := by rfl) : JE X W0 (.Call (.Name x p) (e :: es) [] pos) (tCallSD (spD Kk mk n F) [] (fun σ c d H => W0 c d σ H) tA) (fCallD F fA) := by
  subst e1 e2 e3 e4 e5 e6
  exact ⟨pe_callSD G hr hg hm hk hb .nil (fun σ => passW) ha.pe hdb he hpl, snd_callSD hn ha.sd⟩
end
end Sf

namespace Sf
open PySem PySem.Spec PyProof.Rows L2
open Evl (Ex)

section
variable {X : Cx} {W : WX} {x : Str} {p pos pos' : Pos} {e a b tg : Expr} {es : List Expr} {t ta tb te : TE} {tA : TA} {f g : Ev → R D} {fA : Ev → R (List D)} {st : Stmt} {sts : List Stmt} {ts us : TS} {F G : Ev → Fl}
/-! targets -/
theorem g_name (i : Nat) {x : Str} {pos : Pos} (hN : X.N.Nodup) (hi : X.N[i]? = some x := by rfl) (hx : Loc X.env.scope x := by first | exact .inl rfl | exact .inr rfl) (hf : X.fn x = true ∨ X.env.scope.names.lookup x = some .local := by first | exact .inl rfl | exact .inr rfl) : JG X (.Name x pos) (gName i) (hName i) := ⟨pg_name hN hi hx hf, sg_name⟩
theorem g_nil : JGs X [] gNil hNil := ⟨pgs_nil, sg_nil⟩
theorem g_cons {t : TG} {ts : TGs} {h : D → Ev → R Ev} {k : List D → Ev → R Ev} (h1 : JG X e t h) (h2 : JGs X es ts k) (hs : (assignEach (e :: es) X.env).map (·.2) = assign e X.env :: (assignEach es X.env).map (·.2) := by rfl) : JGs X (e :: es) (gCons t ts) (hCons h k) := ⟨pgs_cons h1.pe h2.pe hs, sg_cons h1.sd h2.sd⟩
theorem g_tup {Kk : PySem.W.Frag} (n : Nat) {k : Nat} {ts : TGs} {h : List D → Ev → R Ev} (hc : X.calm = true) (h1 : JGs X es ts h) (hn : (assignEach es X.env).length = n := by rfl) (hst : (assignEach es X.env).findIdx? (·.1) = none := by rfl) (hK : X.K = Kk := by rfl) : JG X (.Tuple es k pos) (gTup Kk n ts) (hTup n h) := by
  subst hK
  exact ⟨pg_tup hc h1.pe hn hst, sg_tup h1.sd⟩
theorem gw_name (i : Nat) {vs : List Nat} {x : Str} {pos : Pos} (hN : X.N.Nodup) (hv : i ∈ vs := by decide) (hi : X.N[i]? = some x := by rfl) (hx : Loc X.env.scope x := by first | exact .inl rfl | exact .inr rfl) (hf : X.fn x = true ∨ X.env.scope.names.lookup x = some .local := by first | exact .inl rfl | exact .inr rfl) : JGW X vs (.Name x pos) (gName i) (hName i) := ⟨pg_name hN hi hx hf, sw_name hv⟩
theorem gw_nil {vs : List Nat} : JGsW X vs [] gNil hNil := ⟨pgs_nil, sw_nil⟩
theorem gw_cons {vs : List Nat} {t : TG} {ts : TGs} {h : D → Ev → R Ev} {k : List D → Ev → R Ev} (h1 : JGW X vs e t h) (h2 : JGsW X vs es ts k) (hs : (assignEach (e :: es) X.env).map (·.2) = assign e X.env :: (assignEach es X.env).map (·.2) := by rfl) : JGsW X vs (e :: es) (gCons t ts) (hCons h k) := ⟨pgs_cons h1.pe h2.pe hs, sw_cons h1.sd h2.sd⟩
theorem gw_tup {Kk : PySem.W.Frag} (n : Nat) {vs : List Nat} {k : Nat} {ts : TGs} {h : List D → Ev → R Ev} (hc : X.calm = true) (h1 : JGsW X vs es ts h) (hn : (assignEach es X.env).length = n := by rfl) (hst : (assignEach es X.env).findIdx? (·.1) = none := by rfl) (hK : X.K = Kk := by rfl) : JGW X vs (.Tuple es k pos) (gTup Kk n ts) (hTup n h) := by
  subst hK
  exact ⟨pg_tup hc h1.pe hn hst, sw_tup h1.sd⟩
/-! what is walked -/
theorem i_seq {Kk : PySem.W.Frag} (h : JE X W e te f) (hK : X.K = Kk := by rfl) : JI X W tg e (iSeq Kk te) (sSeq f) := by
  subst hK
  exact ⟨pi_seq h.pe, si_seq h.sd⟩
theorem i_rng1 (hm : X.mg "range" = none) (ha : JA X W [a] tA fA) (hg : Gl X "range" := by rfl) (hs : starEach [a] X.env = [(false, eval a X.env)] := by rfl) : JI X W tg (.Call (.Name "range" p) [a] [] pos) (iRng1 tA) (sRng1 fA) := ⟨pi_range1 hg hm ha.pe hs, si_rng1 ha.sd⟩
theorem i_rng2 (hm : X.mg "range" = none) (ha : JA X W [a, b] tA fA) (hg : Gl X "range" := by rfl) (hs : starEach [a, b] X.env = [(false, eval a X.env), (false, eval b X.env)] := by rfl) (hs2 : starEach [b] X.env = [(false, eval b X.env)] := by rfl) : JI X W tg (.Call (.Name "range" p) [a, b] [] pos) (iRng2 tA) (sRng2 fA) := ⟨pi_range2 hg hm ha.pe hs hs2, si_rng2 ha.sd⟩
theorem i_enum {Kk : PySem.W.Frag} {elts : List Expr} {kk : Nat} {tpos : Pos} (hm : X.mg "enumerate" = none) (ha : JA X W [e] tA fA) (hg : Gl X "enumerate" := by rfl) (hs : starEach [e] X.env = [(false, eval e X.env)] := by rfl) (hK : X.K = Kk := by rfl) : JI X W (.Tuple elts kk tpos) (.Call (.Name "enumerate" p) [e] [] pos) (iEnum Kk tA) (sEnum fA) := by
  subst hK
  exact ⟨pi_enum hg hm ha.pe hs, si_enum ha.sd⟩
theorem i_zip {Kk : PySem.W.Frag} {elts : List Expr} {kk : Nat} {tpos : Pos} (hm : X.mg "zip" = none) (ha : JA X W [a, b] tA fA) (hg : Gl X "zip" := by rfl) (hs : starEach [a, b] X.env = (false, eval a X.env) :: starEach [b] X.env := by rfl) (hpl : (backTo pos (starEach [b] X.env)).any (·.1) = false := by rfl) (hK : X.K = Kk := by rfl) : JI X W (.Tuple elts kk tpos) (.Call (.Name "zip" p) [a, b] [] pos) (iZip Kk tA) (sZip fA) := by
  subst hK
  exact ⟨pi_zip hg hm ha.pe hs hpl, si_zip ha.sd⟩
/-! comprehensions -/
structure JTs (X : Cx) (W : WX) (es : List Expr) (t : TT) (f : Ev → R Bool) : Prop where
  pe : PTs X es t
  sd : SndT X.K X.mg W t f
theorem ts_nil : JTs X W [] tYes bYes := ⟨pts_nil, snd_yes⟩
theorem ts_one {t : TT} {c : Ev → R Bool} (h : JT X W e t c) : JTs X W [e] t c := ⟨pts_one h.pe, h.sd⟩
theorem l_lc {elt iter : Expr} {ifs : List Expr} {scope : Scope} {own : List (Str × Nat)} {wi : TI} {src : Ev → R (List D)} {g : TG} {h : D → Ev → R Ev} {tt : TT} {c : Ev → R Bool} (hc : X.calm = true) (hN : X.N.Nodup) (hi : JI X W tg iter wi src) (ok : blkC X.N X.env.scope scope own = true)
    (hg : ∀ (s : Shared) (H : Hp) (C : Addr) (cl : List (Str × Addr)) (fp : List Addr), JGW (X.blk s H scope (compEnvC scope cl C X.env) fp) (own.map (·.2)) tg g h) (ht : ∀ (s : Shared) (H : Hp) (C : Addr) (cl : List (Str × Addr)) (fp : List Addr), JTs (X.blk s H scope (compEnvC scope cl C X.env) fp) W0 ifs tt c)
    (he : ∀ (s : Shared) (H : Hp) (C : Addr) (cl : List (Str × Addr)) (fp : List Addr), JE (X.blk s H scope (compEnvC scope cl C X.env) fp) W0 elt te f) (hs : ∀ x, foldedSetIterable iter X.env x = pure x := by intro _; rfl) :
    JL X W (.ListComp elt [⟨tg, iter, ifs, 0⟩] scope pos) (tLc wi g tt te (own.map (·.2))) (fLc src h c f (own.map (·.2))) :=
  ⟨pe_lc hc hN hi.pe (blkOk_by ok) (fun s H C cl fp => (hg s H C cl fp).pe) (fun s H C cl fp => (ht s H C cl fp).pe) (fun s H C cl fp => (he s H C cl fp).pe) hs,
    snd_lc hi.sd (hg X.s_0 X.H_0 0 [] []).sd (ht X.s_0 X.H_0 0 [] []).sd (he X.s_0 X.H_0 0 [] []).sd⟩
/-! statements -/
theorem ss_nil : JSs X W [] tNext gNext := ⟨pss_nil, snd_next⟩
theorem ss_one (h : JS X W st ts F) : JSs X W [st] ts F := ⟨pss_one h.pe, h.sd⟩
theorem ss_cons (h : JS X W st ts F) (k : JSs X W sts us G) : JSs X W (st :: sts) (tSeq ts us) (gSeq F G) := ⟨pss_cons h.pe k.pe, snd_seq h.sd k.sd⟩
theorem s_let (i : Nat) (h : JS X W st ts F) : JS X W st ts (gLet i F) := ⟨h.pe, snd_let h.sd⟩
theorem s_pass : JS X W (.Pass pos) tNext gNext := ⟨ps_pass, snd_next⟩
theorem s_brk : JS X W (.Break pos) tBreak gBrk := ⟨ps_break, snd_brk⟩
theorem s_cnt : JS X W (.Continue pos) tCont gCnt := ⟨ps_continue, snd_cnt⟩
theorem s_doc {x j pos pos'} : JS X W (.Expr (.Constant (.str x) j pos) pos') tNext gNext := ⟨ps_doc, snd_next⟩
theorem s_ret (h : JE X W e te f) : JS X W (.Return (some e) pos) (tRet te) (gRet f) := ⟨ps_ret h.pe, snd_ret h.sd⟩
theorem s_retN : JS X W (.Return none pos) tRetN gRetN := ⟨ps_retN, snd_retN⟩
theorem s_expr (h : JE X W e te f) (hs : swapsWith e none pos.line X.env = pure false := by rfl) : JS X W (.Expr e pos) (tDrop te) (gDrop f) := ⟨ps_expr h.pe hs, snd_drop h.sd⟩
theorem s_if {c : Expr} {as bs : List Stmt} {tc : TT} {cb : Ev → R Bool} (hc : JT X W c tc cb) (ha : JSs X W as ts F) (hb : JSs X W bs us G) : JS X W (.If c as bs pos) (tIfS tc ts us) (gIfS cb F G) := ⟨ps_if hc.pe ha.pe hb.pe, snd_ifS hc.sd ha.sd hb.sd⟩
theorem s_set (i : Nat) {x : Str} {pos' : Pos} (hN : X.N.Nodup) (h : JE X W e te f) (hi : X.N[i]? = some x := by rfl) (hx : Loc X.env.scope x := by first | exact .inl rfl | exact .inr rfl) (hs : swapsWith e (some (.Name x pos')) pos.line X.env = pure false := by rfl) (hf : X.fn x = true ∨ X.env.scope.names.lookup x = some .local := by first | exact .inl rfl | exact .inr rfl) :
    JS X W (.Assign [.Name x pos'] e pos) (tAsg te (gName i)) (gAsg f (hName i)) := ⟨ps_set hN hi hx h.pe hs hf, snd_asg h.sd sg_name⟩
theorem s_own (i : Nat) {x : Str} {pos' : Pos} (hN : X.N.Nodup) (h : JL X W e te f) (hi : X.N[i]? = some x := by rfl) (hx : Loc X.env.scope x := by first | exact .inl rfl | exact .inr rfl) (hs : swapsWith e (some (.Name x pos')) pos.line X.env = pure false := by rfl) (hf : X.fn x = true ∨ X.env.scope.names.lookup x = some .local := by first | exact .inl rfl | exact .inr rfl) :
    JS X W (.Assign [.Name x pos'] e pos) (tAsg te (gName i)) (gOwn i f) := ⟨ps_set hN hi hx h.pe hs hf, snd_own h.sd⟩
/-- name = [.. for ..], on one line -/
theorem s_lcP (i : Nat) {y : Str} {py spos : Pos} {elt iter : Expr} {ifs : List Expr} {scope : Scope} {own : List (Str × Nat)} {wi : TI} {src : Ev → R (List D)} {g : TG} {h : D → Ev → R Ev} {tt : TT} {c : Ev → R Bool} (hc : X.calm = true) (hN : X.N.Nodup) (hi : JI X W tg iter wi src) (ok : blkC X.N X.env.scope scope own = true)
    (hg : ∀ (s : Shared) (H : Hp) (C : Addr) (cl : List (Str × Addr)) (fp : List Addr), JGW (X.blk s H scope (compEnvC scope cl C X.env) fp) (own.map (·.2)) tg g h) (ht : ∀ (s : Shared) (H : Hp) (C : Addr) (cl : List (Str × Addr)) (fp : List Addr), JTs (X.blk s H scope (compEnvC scope cl C X.env) fp) W0 ifs tt c)
    (he : ∀ (s : Shared) (H : Hp) (C : Addr) (cl : List (Str × Addr)) (fp : List Addr), JE (X.blk s H scope (compEnvC scope cl C X.env) fp) W0 elt te f) (hy : X.N[i]? = some y := by rfl) (hyl : X.env.scope.names.lookup y = some .local := by rfl)
    (hsw : swapsWith (.ListComp elt [⟨tg, iter, ifs, 0⟩] scope pos) (some (.Name y py)) spos.line X.env = pure true := by exact sw_true rfl rfl rfl (by decide +kernel)) (hs : ∀ x, foldedSetIterable iter X.env x = pure x := by intro _; rfl) :
    PS X (.Assign [.Name y py] (.ListComp elt [⟨tg, iter, ifs, 0⟩] scope pos) spos) (tAsg (tLc wi g tt te (own.map (·.2))) (gName i)) ∧ SndL X.K X.mg W (tLc wi g tt te (own.map (·.2))) (fLc src h c f (own.map (·.2))) :=
  ⟨ps_setLc hc hN hy hyl hsw hi.pe (blkOk_by ok) (fun s H C cl fp => (hg s H C cl fp).pe) (fun s H C cl fp => (ht s H C cl fp).pe) (fun s H C cl fp => (he s H C cl fp).pe) hs,
    snd_lc hi.sd (hg X.s_0 X.H_0 0 [] []).sd (ht X.s_0 X.H_0 0 [] []).sd (he X.s_0 X.H_0 0 [] []).sd⟩
theorem s_lc {i : Nat} (h : PS X st (tAsg te (gName i)) ∧ SndL X.K X.mg W te f) : JS X W st (tAsg te (gName i)) (gAsg f (hName i)) := ⟨h.1, snd_asg h.2.toE sg_name⟩
theorem s_lcO {i : Nat} (h : PS X st (tAsg te (gName i)) ∧ SndL X.K X.mg W te f) : JS X W st (tAsg te (gName i)) (gOwn i f) := ⟨h.1, snd_own h.2⟩
theorem s_asg {g : TG} {h : D → Ev → R Ev} (he : JE X W e te f) (hg : JG X tg g h) (hs : swapsWithSole [tg] e pos.line X.env = pure false := by rfl) (hw : swappedStores [tg] e X.env = pure none := by rfl) (h1 : (assignEach [tg] X.env).map (·.2) = [assign tg X.env] := by rfl) : JS X W (.Assign [tg] e pos) (tAsg te g) (gAsg f h) :=
  ⟨ps_asg he.pe hg.pe hs hw h1, snd_asg he.sd hg.sd⟩
theorem s_put (i : Nat) {x : Str} {px : Pos} (he : JE X W e te f) (hb : JE X W b tb g) (hN : X.N[i]? = some x := by rfl) (hv : Vis X.env.scope x := by first | exact Or.inl rfl | exact Or.inr (Or.inl rfl) | exact Or.inr (Or.inr rfl)) (hd : (x == ("__debug__" : Str)) = false := by decide) (hcd : (x == ("__classdict__" : Str)) = false := by decide)
    (hq : ∀ v, assign (.Subscript (.Name x px) b p) X.env v = (do
      let ov ← holding [v] (eval (.Name x px) X.env)
      let iv ← holding [v, ov] (eval b X.env)
      standAt p
      holding [v, ov, iv] (setItem ov iv v)
      release [v, ov, iv] []) := by intro _; rfl)
    (hs : swapsWithSole [.Subscript (.Name x px) b p] e pos.line X.env = pure false := by rfl) (hw : swappedStores [.Subscript (.Name x px) b p] e X.env = pure none := by rfl) (h1 : (assignEach [.Subscript (.Name x px) b p] X.env).map (·.2) = [assign (.Subscript (.Name x px) b p) X.env] := by rfl) :
    JS X W (.Assign [.Subscript (.Name x px) b p] e pos) (tAsg te (gSub (tVar i) tb rSetL)) (gPut i f g) := ⟨ps_asg he.pe (pg_sub (pe_var hN hv hd hcd) hb.pe set_list hq) hs hw h1, snd_put he.sd hb.sd⟩
theorem s_app (i : Nat) {x : Str} {px p2 : Pos} (he : JE X W e te f) (hN : X.N[i]? = some x := by rfl) (hv : Vis X.env.scope x := by first | exact Or.inl rfl | exact Or.inr (Or.inl rfl) | exact Or.inr (Or.inr rfl)) (hd : (x == ("__debug__" : Str)) = false := by decide) (hcd : (x == ("__classdict__" : Str)) = false := by decide)
    (hs : starEach [e] X.env = (false, eval e X.env) :: starEach [] X.env := by rfl) (hbase : attributeBase (.Name x px) "append" X.env (eval (.Name x px) X.env) = eval (.Name x px) X.env := by rfl)
    (hfew : ((backTo p (starEach [e] X.env)).all (fun x => !x.1) && (backToKw p (keywordEach [] X.env)).all (fun x => x.1.isSome) && decide ([e].length + ([] : List Keyword).length + (if ([] : List Keyword).isEmpty then 0 else 1) < 30)) = true := by rfl)
    (hline : (p2.endLine == p.line) = true := by rfl) (hplain : (backTo p (starEach [] X.env)).any (·.1) = false := by rfl) (hsw : swapsWith (.Call (.Attribute (.Name x px) "append" p2) [e] [] p) none pos.line X.env = pure false := by rfl) :
    JS X W (.Expr (.Call (.Attribute (.Name x px) "append" p2) [e] [] p) pos) (tDrop (tBM X.K "list" rAppend (tVar i) (tCons te tNil))) (gApp i f) :=
  ⟨ps_expr (pe_bm PySem.F.plainAttrs_list PySem.F.slot_list_append PySem.F.type_list_append mt_append (pe_var hN hv hd hcd) (pa_cons he.pe pa_nil hs) hbase hfew hline hs hplain) hsw, snd_app he.sd⟩
def rAugA : R2 := fun x y H Q => rI0 (fun i j => .int (i + j)) x y H Q ∨ ∃ i j, x = .str i ∧ y = .str j ∧ i.length + j.length ≤ sizeLine ∧ Q (.str (i ++ j)) H
def gAugA : D → D → R D
  | .int i, .int j => .ok (.int (i + j))
  | .str x, .str y => if x.length + y.length ≤ 100000 then .ok (.str (x ++ y)) else .no
  | _, _ => .no
theorem aug_nx (d e : D) (x : Exn) : gAugA d e ≠ .ex x := by
  unfold gAugA
  split
  · exact fun z => nomatch z
  · split <;> exact fun z => nomatch z
  · exact fun z => nomatch z
theorem sr_aug {K : PySem.W.Frag} : SndR2 K rAugA gAugA := by
  refine ⟨fun B H x y d e Q eb hx hy p => ?_⟩
  unfold gAugA at p
  split at p
  · cases hx
    cases hy
    exact .inl ⟨_, _, rfl, rfl, p _ B H (Ext.refl eb) (.int _)⟩
  · split at p
    · rename_i hz
      cases hx
      cases hy
      exact .inr ⟨_, _, rfl, rfl, sz100 hz, p _ B H (Ext.refl eb) (.str _)⟩
    · exact p.elim
  · exact p.elim
theorem op_augA : OpR X (inplaceOp .Add) rAugA := iop_add.or iop_add_str
theorem snd_aug {K : PySem.W.Frag} {mg : Str → Option Value} {i : Nat} (h : SndE K mg W te f) : SndS K mg W (tAug i te rAugA) (gAsg (fBin gAugA (fVar i) f) (hName i)) := by
  refine ⟨fun ga B0 H0 B H σ s E e p => ?_⟩
  unfold gAsg fBin fVar at p
  cases hi : s[i]? with
  | none =>
    rw [hi] at p
    exact (show False from p).elim
  | some en =>
    rw [hi] at p
    cases en with
    | un => exact (show False from p).elim
    | o ds => exact (show False from p).elim
    | m ds => exact (show False from p).elim
    | x a => exact (show False from p).elim
    | v d =>
      obtain ⟨v, hσ, hd⟩ := e.val i d hi
      refine ⟨v, hσ, ?_⟩
      replace p : SPost K mg W ga B0 H0 E (xf s ((f s).bind fun y => gAugA d y) fun d => .nx (s.set i (.v d))) := p
      refine h.run ga B0 H0 B H σ s _ e ?_
      cases hf : f s with
      | ok y =>
        rw [hf] at p
        intro w B1 H1 x1 q1
        replace p : SPost K mg W ga B0 H0 E (xf s (gAugA d y) fun d => .nx (s.set i (.v d))) := p
        refine sr_aug.run B1 H1 v w d y _ x1.s (Dp.ex x1.b _ _ hd) q1 ?_
        cases hg : gAugA d y with
        | ok z =>
          rw [hg] at p
          exact fun u B2 H2 x2 q2 => p B2 H2 _ (((e.more x1).more x2).set q2)
        | ex z => exact absurd hg (aug_nx _ _ _)
        | no =>
          rw [hg] at p
          exact p
      | ex y =>
        rw [hf] at p
        exact fun cls dd B1 H1 x r => p cls dd B1 H1 σ (e.more x) r
      | no =>
        rw [hf] at p
        exact p
theorem s_aug (i : Nat) {x : Str} {pos' : Pos} (hN : X.N.Nodup) (h : JE X W e te f) (hi : X.N[i]? = some x := by rfl) (hx : Loc X.env.scope x := by first | exact .inl rfl | exact .inr rfl) (hf : X.fn x = true ∨ X.env.scope.names.lookup x = some .local := by first | exact .inl rfl | exact .inr rfl) :
    JS X W (.AugAssign (.Name x pos') .Add e pos) (tAug i te rAugA) (gAsg (fBin gAugA (fVar i) f) (hName i)) := ⟨ps_aug hN hi hx h.pe op_augA hf, snd_aug h.sd⟩
theorem s_for {iter : Expr} {body : List Stmt} {wi : TI} {src : Ev → R (List D)} {g : TG} {h : D → Ev → R Ev} (hp : PassesOwn (model X.prog X.w) X.A X.env X.xe) (hc : X.calm = true) (hi : JI X W tg iter wi src) (hg : JG X tg g h) (hb : JSs X W body ts F) (hs : ∀ x, foldedSetIterable iter X.env x = pure x := by intro _; rfl) :
    JS X W (.For tg iter body [] pos) (tFor wi g ts) (gFor src h F) := ⟨ps_for hp hc hi.pe hg.pe hb.pe hs, snd_for hi.sd hg.sd hb.sd⟩
theorem s_while {c : Expr} {body : List Stmt} {tc : TT} {cb : Ev → R Bool} (n : Nat) (hp : PassesOwn (model X.prog X.w) X.A X.env X.xe) (hc : JT X W c tc cb) (hb : JSs X W body ts F) : JS X W (.While c body [] pos) (tWhile tc ts) (gWhile cb F n) := ⟨ps_while hp hc.pe hb.pe, snd_while n hc.sd hb.sd⟩
end
/-! ### a def -/
section
variable {P : Program} {w : World} {K : PySem.W.Frag} {mg : Str → Option Value} {base : Heap}
/-- a constant of the module, by its name -/
def Cn (K : PySem.W.Frag) (mg : Str → Option Value) (x : Str) (d : D) : Prop := ∃ v u, mg x = some u ∧ RelV v u ∧ ∀ B, Dp K B v d
theorem cn_int {K : PySem.W.Frag} {mg : Str → Option Value} {x : Str} {i : Int} {t : Tok} (h : mg x = some (.int i t)) : Cn K mg x (.int i) := ⟨.int i, _, h, ⟨t, rfl⟩, fun _ => .int i⟩
theorem cn_str {K : PySem.W.Frag} {mg : Str → Option Value} {x y : Str} {t : Tok} (h : mg x = some (.str y t)) : Cn K mg x (.str y) := ⟨.str y, _, h, ⟨t, rfl⟩, fun _ => .str y⟩
/-- the values of a written tuple, flat ones -/
inductive FlatD : Value → V → D → Prop where
  | non : FlatD .none .non .none
  | bl (b : Bool) : FlatD (.bool b) (.bl b) (.bool b)
  | int (i : Int) (t : Tok) : FlatD (.int i t) (.int i) (.int i)
  | str (x : Str) (t : Tok) : FlatD (.str x t) (.str x) (.str x)
inductive FlatDs : List Value → List V → List D → Prop where
  | nil : FlatDs [] [] []
  | cons {u v d us vs ds} : FlatD u v d → FlatDs us vs ds → FlatDs (u :: us) (v :: vs) (d :: ds)
theorem FlatDs.vals : ∀ {us : List Value} {vs : List V} {ds : List D}, FlatDs us vs ds → Vals vs us
  | _, _, _, .nil => .nil
  | _, _, _, .cons h r => .cons (by cases h with
    | non => rfl
    | bl b => rfl
    | int i t => exact ⟨t, rfl⟩
    | str x t => exact ⟨t, rfl⟩) r.vals
theorem FlatDs.dps {K : PySem.W.Frag} {B : Hp} : ∀ {us : List Value} {vs : List V} {ds : List D}, FlatDs us vs ds → DpAll K B vs ds
  | _, _, _, .nil => .nil
  | _, _, _, .cons h r => .cons (by cases h with
    | non => exact .non
    | bl b => exact .bl b
    | int i t => exact .int i
    | str x t => exact .str x) r.dps
theorem cn_tup {K : PySem.W.Frag} {mg : Str → Option Value} {x : Str} {a : Addr} {od : Option Addr} {n : Nat} {sl : Array (Option Value)} {us : List Value} {vs : List V} {ds : List D} (h : mg x = some (.ref a)) (l : K.lookup a = some ⟨.type "tuple", od, .seq us.toArray n, sl⟩) (f : FlatDs us vs ds) (hz : us.length ≤ 100000) : Cn K mg x (.tuple ds) :=
  ⟨.ref a, _, h, rfl, fun B => .tup (.inr ⟨_, us.toArray, n, l, rfl, rfl, by rw [List.size_toArray]; exact sz100 hz, by simpa using f.vals⟩) f.dps⟩
section
theorem snd_cn {K : PySem.W.Frag} {mg : Str → Option Value} {W : WX} {v : V} {d : D} (h : ∀ B, Dp K B v d) : SndE K mg W (tC v) (fC d) := snd_c h
/-- a constant of the module -/
theorem j_glob {X : Cx} {W : WX} {x : Str} {pos : Pos} {v : V} {u : Value} {d : D} {Kk : PySem.W.Frag} {mk : Str → Option Value} (hm : mk x = some u) (r : RelV v u) (h : ∀ B, Dp Kk B v d) (hK : X.K = Kk := by rfl) (hM : X.mg = mk := by rfl) (hg : Gl X x := by rfl) (hd : (x == ("__debug__" : Str)) = false := by decide) : JE X W (.Name x pos) (tC v) (fC d) := by
  subst hK
  subst hM
  exact ⟨pe_glob hg hm r hd, snd_c h⟩
end
/-- a def of the text, by its name -/
structure Dn (K : PySem.W.Frag) (mg : Str → Option Value) (x : Str) (st : Stmt) (ps : List Str) (f : Addr) (fd : FuncData) : Prop where
  fn : Fun K x x st f fd
  gl : mg x = some (.ref f)
  bd : Binds K fd ps []
/-- a def's promise, whose errors have no context -/
theorem okN {P : Program} {w : World} {K : PySem.W.Frag} {mg : Str → Option Value} {base : Heap} {x qual : Str} {st : Stmt} {f : Addr} {fd : FuncData} {N ps : List Str} {k : Nat} {sp : Sp} (F : Fun K x qual st f fd) (S : FnScope N ps (defScope st)) (hl : ∀ vs H Q E, sp vs H Q E → vs.length = ps.length)
    (hb : ∀ (cdv : Value) (A : Around) (outer : List Env) (s : Shared) (H : Hp) (vs : List V) (Q : VK) (E : XK), Room k (A.deeper (envOfC qual (defScope st) s.heap.objs.size f cdv)) → sp vs H Q E →
      ∃ t, PSs (cxOf (L2N.CX P w) P w K mg base N qual (defScope st) f cdv A outer s H E) (defBody st) t ∧ t { nx := fun _ H' => Q .non H', rt := Q } (L2.start N vs) H) : FnOk P w K mg base (L2N.CX P w) (k + 1) f fd ps sp := by
  obtain ⟨_, _, _, _, _, _, _, _, _, rfl, there, code⟩ := F.ex
  exact fn_of there code S hl fun A outer s H vs Q E r h => hb _ A outer s H vs Q E r h
/-- a def keeps the promise of its body's meaning -/
theorem def_ok {x qual : Str} {st : Stmt} {f : Addr} {fd : FuncData} {N ps : List Str} {k : Nat} {G : Ev → Fl} {F : List D → R D} (Fn : Fun K x qual st f fd) (S : FnScope N ps (defScope st)) (hF : runF N.length G = F)
    (body : ∀ (cdv : Value) (A : Around) (outer : List Env) (s : Shared) (H : Hp) (E : XK) (X : Cx), X = cxOf (L2N.CX P w) P w K mg base N qual (defScope st) f cdv A outer s H E → Room k X.A → PassesOwn (model X.prog X.w) X.A X.env X.xe → L2N.Takes X (fun c d _ H => E c d H) →
      ∃ t, JSs (cxOf (L2N.CX P w) P w K mg base N qual (defScope st) f cdv A outer s H E) (fun c d _ H => E c d H) (defBody st) t G) : FnOk P w K mg base (L2N.CX P w) (k + 1) f fd ps (spD K mg ps.length F) := by
  refine okN Fn S (fun vs H Q E h => h.1) fun cdv A outer s H vs Q E hr h => ?_
  obtain ⟨hl, B, ds, eb, hd, p⟩ := h
  subst hF
  obtain ⟨t, J⟩ := body cdv A outer s H E _ rfl hr (passes_of rfl) (L2N.takes_of rfl rfl rfl rfl)
  exact ⟨t, J.pe, J.sd.run 0 B H B H (L2.start N vs) _ _ (er_start (N := N) eb hd) (run_ends (N := N) p)⟩
end
end Sf

namespace Sf
open PySem PySem.Spec PyProof.Rows L2

/-! ### the meanings, reckoned -/
theorem loop_inv {tg : D → Ev → R Ev} {b : Ev → Fl} (I : Nat → Ev → Prop) : ∀ (ds : List D) (k : Nat) (s : Ev), I k s →
    (∀ i d s, ds[i]? = some d → I (k + i) s → ∃ s1 s2, tg d s = .ok s1 ∧ (b s1 = .nx s2 ∨ b s1 = .ct s2) ∧ I (k + i + 1) s2) → ∃ s', gLoop tg b ds s = .nx s' ∧ I (k + ds.length) s'
  | [], k, s, h, _ => ⟨s, rfl, h⟩
  | d :: r, k, s, h, st => by
    obtain ⟨s1, s2, h1, h2, h3⟩ := st 0 d s rfl h
    obtain ⟨s', e, q⟩ := loop_inv I r (k + 1) s2 h3 fun i d' s hi hI => by
      have := st (i + 1) d' s (by simpa using hi) (by rw [show k + (i + 1) = k + 1 + i by omega]; exact hI)
      rw [show k + (i + 1) + 1 = k + 1 + i + 1 by omega] at this
      exact this
    refine ⟨s', ?_, by rw [show k + (d :: r).length = k + 1 + r.length by simp; omega]; exact q⟩
    unfold gLoop
    rw [h1]
    rcases h2 with h2 | h2 <;> (simp only [h2]; exact e)
theorem comp_map {tg : D → Ev → R Ev} {f : Ev → R D} {s : Ev} {g : D → D} : ∀ {ds : List D}, (∀ d ∈ ds, ∃ s1, tg d s = .ok s1 ∧ f s1 = .ok (g d)) → cLoop tg bYes f s ds = .ok (ds.map g)
  | [], _ => rfl
  | d :: r, h => by
    obtain ⟨s1, h1, h2⟩ := h d List.mem_cons_self
    unfold cLoop
    rw [h1]
    simp only [bYes, h2, comp_map (ds := r) fun d hd => h d (List.mem_cons_of_mem _ hd)]
    rfl
theorem bits_mul {i j : Int} (h : -1000000000000 ≤ j ∧ j ≤ 1000000000000) : CMulA i j := .inr (.inr (inM_to h))
theorem gMul_r {i j : Int} (h : -1000000000000 ≤ j ∧ j ≤ 1000000000000) : gMul (.int i) (.int j) = .ok (.int (i * j)) := if_pos (bits_mul h)
theorem gMod_ok {i j : Int} (h : 0 < j) : gMod (.int i) (.int j) = .ok (.int (i % j)) := by
  show (if CNz i j then R.ok (PyData.int (i.fmod j)) else .no) = _
  rw [if_pos (show CNz i j from (by unfold CNz; omega)), Int.fmod_eq_emod_of_nonneg i (by omega)]
theorem log9 {j : Int} (h : j.natAbs < 2 ^ 9000) : j.natAbs.log2 < 9000 := by
  by_cases z : j.natAbs = 0
  · rw [z]; decide
  · exact (Nat.log2_lt z).mpr h
theorem gDiv_ok {i j : Int} (h : 0 < j) (hb : j.natAbs < 2 ^ 9000) : gDiv (.int i) (.int j) = .ok (.int (i / j)) := by
  show (if CDivA i j then R.ok (PyData.int (i.fdiv j)) else .no) = _
  rw [if_pos (show CDivA i j from ⟨by omega, log9 hb⟩), Int.fdiv_eq_ediv_of_nonneg i (by omega)]
theorem small_lt {j : Int} (h : 0 ≤ j ∧ j < 2 ^ 64) : j.natAbs < 2 ^ 9000 := Nat.lt_of_lt_of_le (show j.natAbs < 2 ^ 64 by omega) (Nat.pow_le_pow_right (by decide) (by decide))
theorem rng_get {lo : Int} {n i : Nat} {d : D} (h : (rng lo n)[i]? = some d) : i < n ∧ d = .int (lo + i) := by
  unfold rng at h
  rw [List.getElem?_map] at h
  by_cases hi : i < n
  · rw [List.getElem?_range hi] at h
    exact ⟨hi, (Option.some.inj h).symm⟩
  · rw [List.getElem?_eq_none (by simp; omega)] at h
    cases h
theorem rng_len {lo : Int} {n : Nat} : (rng lo n).length = n := by unfold rng; simp
theorem gRng1_ok {n : Nat} (h : n ≤ 1000000) : gRng1 [.int (n : Int)] = .ok (rng 0 n) := by
  have e : inM (n : Int) = true := inM_to (by omega)
  unfold gRng1
  simp only [e, if_true, Int.toNat_natCast]
theorem gIx_list {xs : List D} {j : Nat} {d : D} (h : xs[j]? = some d) : gIx (.list xs) (.int (j : Int)) = .ok d := by
  show (match atI xs (j : Int) with | some d => R.ok d | none => .no) = _
  rw [atI_nat h]
theorem gIx_tup {xs : List D} {j : Nat} {d : D} (h : xs[j]? = some d) : gIx (.tuple xs) (.int (j : Int)) = .ok d := by
  show (match atI xs (j : Int) with | some d => R.ok d | none => .no) = _
  rw [atI_nat h]
theorem seq_nx {f g : Ev → Fl} {s s1 : Ev} (h : f s = .nx s1) : gSeq f g s = g s1 := by
  unfold gSeq
  rw [h]
theorem seq_rt {f g : Ev → Fl} {s : Ev} {d : D} (h : f s = .rt d) : gSeq f g s = .rt d := by
  unfold gSeq
  rw [h]
theorem own_nx {i : Nat} {f : Ev → R D} {s : Ev} {ds : List D} (h : f s = .ok (.list ds)) : gOwn i f s = .nx (s.set i (.o ds)) := by
  unfold gOwn xf
  rw [h]
theorem asg_nx {f : Ev → R D} {i : Nat} {s : Ev} {d : D} (h : f s = .ok d) : gAsg f (hName i) s = .nx (s.set i (.v d)) := by
  unfold gAsg xf hName
  rw [h]
theorem for_nx {src : Ev → R (List D)} {tg : D → Ev → R Ev} {b : Ev → Fl} {s : Ev} {ds : List D} (h : src s = .ok ds) : gFor src tg b s = gLoop tg b ds s := by
  unfold gFor xf
  rw [h]
theorem ret_rt {f : Ev → R D} {s : Ev} {d : D} (h : f s = .ok d) : gRet f s = .rt d := by
  unfold gRet xf
  rw [h]
theorem if_nx {c : Ev → R Bool} {f g : Ev → Fl} {s : Ev} {b : Bool} (h : c s = .ok b) : gIfS c f g s = if b = true then f s else g s := by
  unfold gIfS xf
  rw [h]
theorem lc_ok {src : Ev → R (List D)} {tg : D → Ev → R Ev} {t : Ev → R Bool} {f : Ev → R D} {vs : List Nat} {s : Ev} {ds ys : List D} (h : src s = .ok ds) (hz : ds.length ≤ 100000) (hc : cLoop tg t f (wipeE s vs) ds = .ok ys) : fLc src tg t f vs s = .ok (.list ys) := by
  unfold fLc
  rw [h]
  simp only [R.bind, if_pos hz, hc]
theorem run_rt {m : Nat} {G : Ev → Fl} {ds : List D} {s : Ev} {d : D} (hs : ds.map En.v ++ List.replicate (m - ds.length) En.un = s) (h : G s = .rt d) : runF m G ds = .ok d := by
  unfold runF
  rw [hs, h]
theorem rng1_ok {fA : Ev → R (List D)} {s : Ev} {n : Nat} (h : fA s = .ok [.int (n : Int)]) (hn : n ≤ 1000000) : sRng1 fA s = .ok (rng 0 n) := by
  unfold sRng1
  rw [h]
  simp only [R.bind]
  exact gRng1_ok hn
theorem call1_ok {o : List D → R D} {f : Ev → R D} {s : Ev} {x : D} (h : f s = .ok x) : fCall o (fCons f fNil) s = o [x] := by
  unfold fCall fCons fNil
  simp only [h, R.bind]
theorem callD1_ok {o : List D → R D} {f : Ev → R D} {s : Ev} {x : D} (h : f s = .ok x) : fCallD o (fCons f fNil) s = o [x] := by
  unfold fCallD fCons fNil
  simp only [h, R.bind]
theorem lst_nil (s : Ev) : fLst fNil s = .ok (.list []) := by
  unfold fLst fNil
  simp [R.bind]
end Sf

namespace Sf
open PySem PySem.Spec PyProof.Rows L2

/-! ### whole numbers of bounded size -/
def Bn (k : Nat) (i : Int) : Prop := i.natAbs < 2 ^ k
theorem Bn.mono {k m : Nat} {i : Int} (h : Bn k i) (l : k ≤ m) : Bn m i := Nat.lt_of_lt_of_le h (Nat.pow_le_pow_right (by decide) l)
theorem Bn.mul {k m : Nat} {i j : Int} (h : Bn k i) (g : Bn m j) : Bn (k + m) (i * j) := wide_lt h g
theorem Bn.add {k : Nat} {i j : Int} (h : Bn k i) (g : Bn k j) : Bn (k + 1) (i + j) := by
  unfold Bn at h g ⊢
  rw [Nat.pow_succ]
  omega
theorem Bn.sub {k : Nat} {i j : Int} (h : Bn k i) (g : Bn k j) : Bn (k + 1) (i - j) := by
  unfold Bn at h g ⊢
  rw [Nat.pow_succ]
  omega
theorem Bn.neg {k : Nat} {i : Int} (h : Bn k i) : Bn k (-i) := by
  unfold Bn at h ⊢
  omega
theorem Bn.le {k : Nat} {i j : Int} (h : Bn k j) (l : i.natAbs ≤ j.natAbs) : Bn k i := Nat.lt_of_le_of_lt l h
theorem Bn.of45 {i : Int} (h : -35184372088832 < i ∧ i < 35184372088832) : Bn 45 i := by
  unfold Bn
  have e : (2 : Nat) ^ 45 = 35184372088832 := by decide
  rw [e]
  omega
theorem gMul_w {k m : Nat} {i j : Int} (h : Bn k i) (g : Bn m j) (hk : 0 < k := by decide) (hm : 0 < m := by decide) (l : k + m ≤ 1000000 := by decide) : gMul (.int i) (.int j) = .ok (.int (i * j)) := by
  have c : CMulA i j := .inl (wide_mul h g hk hm l)
  unfold gMul gInt2
  simp only [c, if_true]
theorem gDiv_w {k : Nat} {i j : Int} (h : 0 < j) (g : Bn k j) (l : k ≤ 9000 := by decide) : gDiv (.int i) (.int j) = .ok (.int (i / j)) := gDiv_ok h (g.mono l)
/-- a divisor below nought that divides -/
theorem gDiv_n {k : Nat} {i j : Int} (h : 0 < j) (g : Bn k j) (dv : j ∣ i) (l : k ≤ 9000 := by decide) : gDiv (.int i) (.int (-j)) = .ok (.int (-i / j)) := by
  have c : CDivA i (-j) := ⟨by omega, log9 (g.neg.mono l)⟩
  unfold gDiv gInt2
  simp only [c, if_true]
  obtain ⟨q, rfl⟩ := dv
  have e1 : Int.fdiv (j * q) (-j) = -q := by
    have : j * q = -q * -j := by rw [Int.neg_mul_neg, Int.mul_comm]
    rw [this, Int.mul_fdiv_cancel _ (by omega)]
  have e2 : -(j * q) / j = -q := by
    have : -(j * q) = j * -q := by rw [Int.mul_neg]
    rw [this, Int.mul_ediv_cancel_left _ (by omega)]
  rw [e1, e2]
theorem gEq_i {i j : Int} : gEq (.int i) (.int j) = .ok (.bool (decide (i = j))) := by
  unfold gEq
  have h : (SeqAt.shaped (.int i) && SeqAt.shaped (.int j)) = true := by simp [SeqAt.shaped, PyData.canLay0, PyData.depth]
  rw [if_pos h]
  simp [PyData.eqv]
  rfl
theorem gNe_i {i j : Int} : gNe (.int i) (.int j) = .ok (.bool (!decide (i = j))) := by
  unfold gNe
  have h : (SeqAt.shaped (.int i) && SeqAt.shaped (.int j)) = true := by simp [SeqAt.shaped, PyData.canLay0, PyData.depth]
  rw [if_pos h]
  simp [PyData.eqv]
  rfl
theorem gEq_same {d : D} (h : SeqAt.shaped d = true) : gEq d d = .ok (.bool true) := by
  unfold gEq
  rw [if_pos (by rw [h]; rfl), SeqAt.eqv_refl d (SeqAt.canLay_of_shaped h)]
theorem gNe_same {d : D} (h : SeqAt.shaped d = true) : gNe d d = .ok (.bool false) := by
  unfold gNe
  rw [if_pos (by rw [h]; rfl), SeqAt.eqv_refl d (SeqAt.canLay_of_shaped h)]
  rfl

/-! ### numbers: pairs in lowest terms -/
def N2 (n d : Int) : D := .tuple [.int n, .int d]
def gg (n d : Int) : Int := ((Nat.gcd n.natAbs d.natAbs : Nat) : Int)
def nn (n d : Int) : Int := (if d < 0 then -n else n) / gg n d
def nd (n d : Int) : Int := (d.natAbs : Int) / gg n d
def nrm (n d : Int) : D := N2 (nn n d) (nd n d)
theorem gg_pos {n d : Int} (h : d ≠ 0) : 0 < gg n d := by
  unfold gg
  have : 0 < Nat.gcd n.natAbs d.natAbs := Nat.gcd_pos_of_pos_right _ (by omega)
  omega
theorem gg_le {n d : Int} (h : d ≠ 0) : (gg n d).natAbs ≤ d.natAbs := by
  unfold gg
  rw [Int.natAbs_natCast]
  exact Nat.le_of_dvd (by omega) (Nat.gcd_dvd_right _ _)
theorem gg_dvd_n (n d : Int) : gg n d ∣ n := by
  unfold gg
  exact Int.ofNat_dvd_left.mpr (Nat.gcd_dvd_left _ _)
theorem gg_dvd_d (n d : Int) : gg n d ∣ d := by
  unfold gg
  exact Int.ofNat_dvd_left.mpr (Nat.gcd_dvd_right _ _)
theorem nn_bn {k : Nat} {n d : Int} (h : Bn k n) : Bn k (nn n d) := by
  refine h.le ?_
  unfold nn
  refine Nat.le_trans (Int.natAbs_ediv_le_natAbs _ _) ?_
  split <;> omega
theorem nd_bn {k : Nat} {n d : Int} (h : Bn k d) : Bn k (nd n d) := by
  refine h.le ?_
  unfold nd
  refine Nat.le_trans (Int.natAbs_ediv_le_natAbs _ _) ?_
  omega
theorem nd_nat {n d : Int} : nd n d = ((d.natAbs / Nat.gcd n.natAbs d.natAbs : Nat) : Int) := by
  unfold nd gg
  rw [Int.natCast_ediv]
theorem nd_pos {n d : Int} (h : d ≠ 0) : 1 ≤ nd n d := by
  rw [nd_nat]
  have h1 : 0 < Nat.gcd n.natAbs d.natAbs := Nat.gcd_pos_of_pos_right _ (by omega)
  have h2 : Nat.gcd n.natAbs d.natAbs ≤ d.natAbs := Nat.le_of_dvd (by omega) (Nat.gcd_dvd_right _ _)
  have := Nat.div_pos h2 h1
  omega
theorem nn_abs {n d : Int} : (nn n d).natAbs = n.natAbs / Nat.gcd n.natAbs d.natAbs := by
  unfold nn gg
  have key : ∀ m : Int, m.natAbs = n.natAbs → (m / ((Nat.gcd n.natAbs d.natAbs : Nat) : Int)).natAbs = n.natAbs / Nat.gcd n.natAbs d.natAbs := by
    intro m hm
    have dv : ((Nat.gcd n.natAbs d.natAbs : Nat) : Int) ∣ m := Int.ofNat_dvd_left.mpr (by rw [hm]; exact Nat.gcd_dvd_left _ _)
    rw [Int.natAbs_ediv_of_dvd dv, Int.natAbs_natCast, hm]
  split
  · exact key _ (by omega)
  · exact key _ rfl
/-- lowest terms -/
theorem nrm_low {n d : Int} (h : d ≠ 0) : gg (nn n d) (nd n d) = 1 := by
  unfold gg
  rw [nn_abs, nd_nat, Int.natAbs_natCast]
  have h1 : 0 < Nat.gcd n.natAbs d.natAbs := Nat.gcd_pos_of_pos_right _ (by omega)
  have := Nat.gcd_div (Nat.gcd_dvd_left n.natAbs d.natAbs) (Nat.gcd_dvd_right n.natAbs d.natAbs)
  rw [this, Nat.div_self h1]
  rfl
theorem shaped_N2 (n d : Int) : SeqAt.shaped (N2 n d) = true := by simp [N2, SeqAt.shaped, PyData.canLay0, PyData.canLayAll0, PyData.depth, PyData.depthAll]
/-! evaluation of parts -/
theorem ix0 {n d : Int} : gIx (N2 n d) (.int 0) = .ok (.int n) := gIx_tup (j := 0) rfl
theorem ix1 {n d : Int} : gIx (N2 n d) (.int 1) = .ok (.int d) := gIx_tup (j := 1) rfl
/-! ### Euclid's way -/
theorem eucl_half {x y : Nat} (hy : 0 < y) (hxy : y ≤ x) : 2 * (x % y) < x + 1 := by
  have h1 := Nat.mod_lt x hy
  have h2 := Nat.div_add_mod x y
  have h3 : 1 ≤ x / y := Nat.div_pos hxy hy
  have h4 : y * 1 ≤ y * (x / y) := Nat.mul_le_mul_left y h3
  omega
end Sf

namespace Sf
open PySem PySem.Spec PyProof.Rows L2
open Evl (Ex)

/-! ### what a comprehension walks: nothing that stands is changed meanwhile -/
def WalkH (K : PySem.W.Frag) (B1 H1 : Hp) (J : It) (ds : List D) : Prop := ∀ B H, Ext B1 H1 B H →
  (∀ i, i < ds.length → J.go i H ∧ ∀ x H1, J.yld i H x H1 → ∃ B2 d, Ext B H B2 H1 ∧ ds[i]? = some d ∧ Dp K B2 x d) ∧ J.stop ds.length H
section
variable (K : PySem.W.Frag) (mg : Str → Option Value) (W : WX)
structure SndC (wi : TI) (f : Ev → R (List D)) : Prop where
  run : ∀ ga B0 H0 B H σ s (Q : It → Hp → Prop), ER K ga B0 H0 B H σ s → (match f s with
    | .ok ds => ∀ J B' H', Ext B H B' H' → WalkH K B' H' J ds → Q J H'
    | .ex e => ∀ cls dd B' H', Ext B H B' H' → XRep mg K B' e cls dd → W cls dd σ H'
    | .no => False) → wi σ H Q
end
section
variable {K : PySem.W.Frag} {mg : Str → Option Value} {W : WX}
theorem SndI.c {wi : TI} {f : Ev → R (List D)} (h : SndI K mg W wi f) : SndC K mg W wi f := by
  refine ⟨fun ga B0 H0 B H σ s Q e p => h.run ga B0 H0 B H σ s Q e ?_⟩
  cases hf : f s with
  | ok ds =>
    rw [hf] at p
    exact fun J B1 H1 x w => p J B1 H1 x fun B2 H2 x2 => w B2 H2 x2.b x2.s
  | ex y =>
    rw [hf] at p
    exact p
  | no =>
    rw [hf] at p
    exact p
/-- a slot's list, its own or data -/
def sOwn (i : Nat) : Ev → R (List D) := fun s => match s[i]? with
  | some (.o ds) => .ok ds
  | some (.v d) => items d
  | _ => .no
theorem sc_own {i : Nat} : SndC K mg W (iSeq K (tVar i)) (sOwn i) := by
  refine ⟨fun ga B0 H0 B H σ s Q e p => ?_⟩
  unfold sOwn at p
  cases hi : s[i]? with
  | none =>
    rw [hi] at p
    exact (show False from p).elim
  | some en =>
    rw [hi] at p
    cases en with
    | un => exact (show False from p).elim
    | m ds => exact (show False from p).elim
    | x a => exact (show False from p).elim
    | o ds =>
      obtain ⟨a, vs, hσ, hp, hb, h0, hd⟩ := e.own i ds hi
      refine ⟨.ref a, hσ, a, rfl, .inl ⟨⟨vs, SqL.of hp⟩, p _ B H e.here fun B2 H2 x2 => ?_⟩⟩
      have hS : SqL K H2 a vs := SqL.of (x2.h a _ hp)
      have hl := DpAll.len hd
      refine ⟨fun j hj => ?_, ⟨vs, hS, by omega⟩⟩
      have hv : j < vs.length := by omega
      refine ⟨⟨vs, vs[j], hS, by simp [hv]⟩, fun v H3 y => ?_⟩
      obtain ⟨rfl, y⟩ := y
      obtain ⟨d, g1, g2⟩ := DpAll.getV hd (y vs hS)
      exact ⟨B2, d, Ext.refl x2.s, g1, Dp.ex x2.b _ _ g2⟩
    | v d =>
      obtain ⟨v, hσ, q⟩ := e.val i d hi
      refine ⟨v, hσ, ?_⟩
      cases q with
      | lst hs ha => exact ⟨_, rfl, .inl ⟨⟨_, sql_ex e.ext.s hs⟩, p _ B H e.here fun B2 H2 x2 => walk_list hs ha B2 H2 x2.b x2.s⟩⟩
      | tup hs ha => exact ⟨_, rfl, .inr ⟨⟨_, sqt_ex e.ext.s hs⟩, p _ B H e.here fun B2 H2 x2 => walk_tup hs ha B2 H2 x2.b x2.s⟩⟩
      | _ => exact (show False from p).elim
/-- the comprehension -/
theorem snd_lcC {wi : TI} {src : Ev → R (List D)} {g : TG} {tg : D → Ev → R Ev} {tt : TT} {t : Ev → R Bool} {te : TE} {f : Ev → R D} {vs : List Nat} (hi : SndC K mg W wi src) (hg : SndGW K vs g tg) (ht : SndT K mg W0 tt t) (he : SndE K mg W0 te f) :
    SndL K mg W (tLc wi g tt te vs) (fLc src tg t f vs) := by
  refine ⟨fun ga B0 H0 B H σ s Q e p => ?_⟩
  refine hi.run ga B0 H0 B H σ s _ e ?_
  unfold fLc at p
  cases hs : src s with
  | ex y =>
    rw [hs] at p
    exact p
  | no =>
    rw [hs] at p
    exact p
  | ok ds =>
    rw [hs] at p
    replace p : match (if ds.length ≤ 100000 then (cLoop tg t f (wipeE s vs) ds).bind fun ys => R.ok (PyData.list ys) else .no) with
      | .ok d => ∀ (p : Addr) (vs : List V) (ds : List D) B' H', d = .list ds → Ext B H B' H' → H p = none → B' p = none → H' p = some (.lst vs) → DpAll K B' vs ds → Q (.ref p) H'
      | .ex e => ∀ cls dd B' H', Ext B H B' H' → XRep mg K B' e cls dd → W cls dd σ H'
      | .no => False := p
    by_cases hz : ds.length ≤ 100000
    · rw [if_pos hz] at p
      cases hc : cLoop tg t f (wipeE s vs) ds with
      | no =>
        rw [hc] at p
        exact (show False from p).elim
      | ex y =>
        -- a comprehension's turns give no error
        exfalso
        have aux : ∀ l : List D, cLoop tg t f (wipeE s vs) l ≠ .ex y := by
          intro l
          induction l with
          | nil => exact fun z => nomatch z
          | cons d r ih =>
            intro z
            unfold cLoop at z
            split at z
            · split at z
              · split at z
                · cases hr : cLoop tg t f (wipeE s vs) r with
                  | ok w =>
                    rw [hr] at z
                    cases z
                  | ex w =>
                    rw [hr] at z
                    cases z
                    exact ih hr
                  | no =>
                    rw [hr] at z
                    cases z
                · cases z
              · exact ih z
              · cases z
            · cases z
        exact aux ds hc
      | ok ys =>
        rw [hc] at p
        intro J B1 H1 x1 wk a ha
        have e1 := e.more x1
        have hb : B1 a = none := ex_none e1.ext.s ha
        refine ⟨fun i m H' => m = ds.length - i ∧ i ≤ ds.length ∧ ∃ B' acc ads zs, ER K ga B0 H0 B' H' (wipe σ vs) (wipeE s vs) ∧ Ext B1 H1 B' H' ∧ B' a = none ∧ H' a = some (.lst acc) ∧ DpAll K B' acc ads ∧ ads.length ≤ i ∧ cLoop tg t f (wipeE s vs) (ds.drop i) = .ok zs ∧ ads ++ zs = ys, ⟨ds.length, rfl, Nat.zero_le _, B1, [], [], ys, ?_, (Ext.refl e1.ext.s).side ha hb, hb, upd_same, .nil, Nat.le_refl _, hc, rfl⟩, ?_⟩
        · exact (e1.wipe vs).more ⟨Ex.refl _, Ex.new ha, fun c u g => by
            rw [upd_ne (ne_of_none g hb)]
            exact e1.ext.s c u g, fun _ _ _ n => n⟩
        rintro i m H' ⟨rfl, hi2, B', acc, ads, zs, e', x', hb', ha', hd', hl', hc', hy'⟩
        obtain ⟨go, stop⟩ := wk B' H' x'
        by_cases hlt : i < ds.length
        · obtain ⟨g1, g2⟩ := go i hlt
          refine .inr ⟨g1, fun H2 => ∃ B' acc ads zs, ER K ga B0 H0 B' H2 (wipe σ vs) (wipeE s vs) ∧ Ext B1 H1 B' H2 ∧ B' a = none ∧ H2 a = some (.lst acc) ∧ DpAll K B' acc ads ∧ ads.length ≤ i + 1 ∧ cLoop tg t f (wipeE s vs) (ds.drop (i + 1)) = .ok zs ∧ ads ++ zs = ys,
            fun H2 h => ⟨ds.length - (i + 1), by omega, rfl, hlt, h⟩, fun v H2 y => ?_⟩
          obtain ⟨B2, d, x2, hd, q2⟩ := g2 v H2 y
          have e2 := e'.more x2
          have hb2 : B2 a = none := x2.o a _ ha' hb'
          have ha2 : H2 a = some (.lst acc) := x2.h a _ ha'
          have hdr : ds.drop i = d :: ds.drop (i + 1) := by
            obtain ⟨hl, he⟩ := List.getElem?_eq_some_iff.mp hd
            rw [List.drop_eq_getElem_cons hl, he]
          rw [hdr] at hc'
          unfold cLoop at hc'
          refine hg.run ga B0 H0 B2 H2 (wipe σ vs) (wipeE s vs) v d _ e2 q2 ?_
          cases htg : tg d (wipeE s vs) with
          | ex _ =>
            rw [htg] at hc'
            cases hc'
          | no =>
            rw [htg] at hc'
            cases hc'
          | ok s1 =>
            rw [htg] at hc'
            replace hc' : (match t s1 with
              | .ok true => match f s1 with
                | .ok y => (cLoop tg t f (wipeE s vs) (ds.drop (i + 1))).bind fun ys => R.ok (y :: ys)
                | _ => .no
              | .ok false => cLoop tg t f (wipeE s vs) (ds.drop (i + 1))
              | _ => .no) = .ok zs := hc'
            intro σ3 e3 w3
            have ww : wipe (wipe σ vs) vs = wipe σ vs := by
              have aux : ∀ ws : List Nat, (∀ j ∈ ws, j ∈ vs) → wipe (wipe σ vs) ws = wipe σ vs := by
                intro ws
                induction ws with
                | nil => intro _; rfl
                | cons w ws ih =>
                  intro hw
                  show (wipe (wipe σ vs) ws).set w none = wipe σ vs
                  rw [ih fun j hj => hw j (List.mem_cons_of_mem _ hj)]
                  have aux2 : ∀ (us : List Nat) (τ : L2.St), w ∈ us → (wipe τ us).set w none = wipe τ us := by
                    intro us
                    induction us with
                    | nil => intro τ h; cases h
                    | cons u us ih2 =>
                      intro τ h
                      show ((wipe τ us).set u none).set w none = (wipe τ us).set u none
                      by_cases z : w = u
                      · subst z
                        rw [List.set_set]
                      · rw [List.set_comm _ _ (Ne.symm z)]
                        rcases List.mem_cons.mp h with h | h
                        · exact absurd h z
                        · rw [ih2 τ h]
                  exact aux2 vs σ (hw w List.mem_cons_self)
              exact aux vs fun _ h => h
            refine ⟨w3.trans ww, ?_⟩
            refine ht.run ga B0 H0 B2 H2 σ3 s1 _ e3 ?_
            cases hts : t s1 with
            | ex _ =>
              rw [hts] at hc'
              cases hc'
            | no =>
              rw [hts] at hc'
              cases hc'
            | ok b =>
              rw [hts] at hc'
              intro B4 H4 x4
              have e4 := e3.more x4
              have e4w : ER K ga B0 H0 B4 H4 (wipe σ vs) (wipeE s vs) := e2.more x4
              cases b with
              | false =>
                exact ⟨B4, acc, ads, zs, e4w, (x'.trans x2).trans x4, x4.o a _ ha2 hb2, x4.h a _ ha2, DpAll.ex (x2.b.trans x4.b) _ _ hd', by omega, hc', hy'⟩
              | true =>
                replace hc' : (match f s1 with
                  | .ok y => (cLoop tg t f (wipeE s vs) (ds.drop (i + 1))).bind fun ys => R.ok (y :: ys)
                  | _ => .no) = .ok zs := hc'
                show te σ3 H4 _
                refine he.run ga B0 H0 B4 H4 σ3 s1 _ e4 ?_
                cases hf : f s1 with
                | ex _ =>
                  rw [hf] at hc'
                  cases hc'
                | no =>
                  rw [hf] at hc'
                  cases hc'
                | ok y =>
                  rw [hf] at hc'
                  intro w5 B5 H5 x5 q5
                  cases hr : cLoop tg t f (wipeE s vs) (ds.drop (i + 1)) with
                  | ex _ =>
                    rw [hr] at hc'
                    cases hc'
                  | no =>
                    rw [hr] at hc'
                    cases hc'
                  | ok rs =>
                    rw [hr] at hc'
                    cases hc'
                    have xx := ((x'.trans x2).trans x4).trans x5
                    have hb5 : B5 a = none := x5.o a _ (x4.h a _ ha2) (x4.o a _ ha2 hb2)
                    have ha5 : H5 a = some (.lst acc) := x5.h a _ (x4.h a _ ha2)
                    refine ⟨acc, ha5, Evl.sz_lt (by rw [DpAll.len hd']; omega), B5, acc ++ [w5], ads ++ [y], rs, ?_, xx.side ha hb5, hb5, upd_same, DpAll.append (DpAll.ex ((x2.b.trans x4.b).trans x5.b) _ _ hd') (.cons q5 .nil), by simp; omega, rfl, by rw [List.append_assoc]; exact hy'⟩
                    -- the frame, with the new list at a
                    have e5 : ER K ga B0 H0 B5 H5 (wipe σ vs) (wipeE s vs) := e4w.more x5
                    have h0a : H0 a = none := Evl.fresh_back e1.ext.h ha
                    refine ⟨e5.ext.side h0a hb5, e5.len, e5.val, fun j fs h => ?_, e5.dis, e5.pin.side (own_newM (e1.wipe vs) ha)⟩
                    obtain ⟨q, us, a1, a2, a3, a4, a5⟩ := e5.own j fs h
                    have hq : q ≠ a := fun z => by
                      subst z
                      obtain ⟨q', us', b1, b2, _⟩ := (e1.wipe vs).own j fs h
                      rw [a1] at b1
                      cases b1
                      rw [ha] at b2
                      cases b2
                    exact ⟨q, us, a1, by rw [upd_ne hq]; exact a2, a3, a4, a5⟩
        · have hz2 : i = ds.length := by omega
          subst hz2
          rw [List.drop_length] at hc'
          cases hc'
          rw [List.append_nil] at hy'
          subst hy'
          exact .inl ⟨stop, p a acc ads B' H' rfl (x1.trans x') (Evl.fresh_back x1.h ha) hb' ha' hd'⟩
    · rw [if_neg hz] at p
      exact (show False from p).elim

/-! ### "".join(list) -/
def strsOf : List D → Option (List Str)
  | [] => some []
  | .str x :: r => (strsOf r).map (x :: ·)
  | _ :: _ => none
theorem strs_of {B : Hp} : ∀ {ds : List D} {vs : List V} {ys : List Str}, strsOf ds = some ys → DpAll K B vs ds → vs = ys.map V.str
  | [], _, _, e, h => by cases e; cases h; rfl
  | .str x :: r, _, _, e, h => by
    unfold strsOf at e
    cases hr : strsOf r with
    | none =>
      rw [hr] at e
      cases e
    | some zs =>
      rw [hr] at e
      cases e
      cases h with
      | cons h1 h2 =>
        cases h1
        rw [strs_of hr h2]
        rfl
  | .none :: _, _, _, e, _ => by cases e
  | .bool _ :: _, _, _, e, _ => by cases e
  | .int _ :: _, _, _, e, _ => by cases e
  | .list _ :: _, _, _, e, _ => by cases e
  | .tuple _ :: _, _, _, e, _ => by cases e
  | .dict _ :: _, _, _, e, _ => by cases e
def gJoin : D → D → R D
  | .str a, .list ds => match strsOf ds with
    | some ys => if (ys.map (·.length)).sum + ys.length * a.length ≤ 16777216 then .ok (.str (Txt.join a ys)) else .no
    | none => .no
  | _, _ => .no
theorem join_nx (d e : D) (x : Exn) : gJoin d e ≠ .ex x := by
  unfold gJoin
  split
  · split
    · split <;> exact fun z => nomatch z
    · exact fun z => nomatch z
  · exact fun z => nomatch z
def rJoin (K : PySem.W.Frag) : V → List V → Hp → VK → Prop := fun x xs H Q => ∃ a p, ∃ ys : List Str, x = .str a ∧ xs = [.ref p] ∧ (SqL K H p (ys.map V.str) ∨ SqT K H p (ys.map V.str)) ∧
      (ys.map (·.length)).sum + ys.length * a.length ≤ 16777216 ∧ Q (.str (Txt.join a ys)) H
theorem snd_join {to te : TE} {f g : Ev → R D} (ha : SndE K mg W to f) (hb : SndE K mg W te g) (hc : ∀ s d, f s = .ok d → ∃ a, d = .str a) : SndE K mg W (tM1 (rJoin K) to te) (fBin gJoin f g) := by
  refine ⟨fun ga B0 H0 B H σ s Q e p => ?_⟩
  refine ha.bind e p fun d v B1 H1 hf x1 q1 e1 p1 => ?_
  obtain ⟨a, rfl⟩ := hc s d hf
  cases q1
  refine ⟨⟨a, rfl⟩, ?_⟩
  refine hb.bind e1 p1 fun d2 v2 B2 H2 _ x2 q2 e2 p2 => ?_
  have p3 := EPost.of_o p2 (join_nx _ d2)
  cases q2 with
  | @lst _ _ ds hs hA =>
    replace p3 : OPost K B2 H2 Q (match strsOf ds with
      | some ys => if (ys.map (·.length)).sum + ys.length * a.length ≤ 16777216 then .ok (.str (Txt.join a ys)) else .no
      | none => .no) := p3
    cases hy : strsOf ds with
    | none =>
      rw [hy] at p3
      exact p3.elim
    | some ys =>
      rw [hy] at p3
      replace p3 : OPost K B2 H2 Q (if (ys.map (·.length)).sum + ys.length * a.length ≤ 16777216 then .ok (.str (Txt.join a ys)) else .no) := p3
      split at p3
      · rename_i hz
        have := strs_of hy hA
        subst this
        exact ⟨_, _, ys, rfl, rfl, .inl (sql_ex e2.ext.s hs), hz, p3 _ B2 H2 e2.here (.str _)⟩
      · exact p3.elim
  | _ => exact p3.elim
/-! ### xs[::-1] -/
def fRev (f : Ev → R D) : Ev → R D := fun s => (f s).bind fun
  | .list ds => .ok (.list ds.reverse)
  | _ => .no
theorem sl_rev {t : TE} {f : Ev → R D} (h : SndE K mg W t f) : SndL K mg W (tRevL K t) (fRev f) := by
  refine ⟨fun ga B0 H0 B H σ s Q e p => ?_⟩
  refine h.run ga B0 H0 B H σ s _ e ?_
  unfold fRev at p
  cases hf : f s with
  | ex y =>
    rw [hf] at p
    exact p
  | no =>
    rw [hf] at p
    exact p
  | ok d =>
    rw [hf] at p
    intro v B1 H1 x1 q1
    cases q1 with
    | lst hs ha => exact ⟨_, _, rfl, sql_ex x1.s hs, fun a hn => p a _ _ B1 _ rfl (x1.side (Evl.fresh_back x1.h hn) (ex_none x1.s hn)) (Evl.fresh_back x1.h hn) (ex_none x1.s hn) upd_same (DpAll.rev ha)⟩
    | _ => exact (show False from p).elim
end
/-! ### the words of a derivation -/
structure JC (X : Cx) (W : WX) (tg e : Expr) (t : TI) (f : Ev → R (List D)) : Prop where
  pe : PI X tg e t
  sd : SndC X.K X.mg W t f
section
variable {X : Cx} {W : WX} {x : Str} {p pos pos' : Pos} {e a b tg : Expr} {es : List Expr} {t ta tb te : TE} {tA : TA} {f g : Ev → R D} {fA : Ev → R (List D)} {st : Stmt}
theorem c_of {wi : TI} {src : Ev → R (List D)} (h : JI X W tg e wi src) : JC X W tg e wi src := ⟨h.pe, h.sd.c⟩
theorem c_own {Kk : PySem.W.Frag} (i : Nat) {x : Str} {pos : Pos} (hN : X.N[i]? = some x := by rfl) (hv : Vis X.env.scope x := by first | exact Or.inl rfl | exact Or.inr (Or.inl rfl) | exact Or.inr (Or.inr rfl)) (hd : (x == ("__debug__" : Str)) = false := by decide)
    (hcd : (x == ("__classdict__" : Str)) = false := by decide) (hK : X.K = Kk := by rfl) : JC X W tg (.Name x pos) (iSeq Kk (tVar i)) (sOwn i) := by
  subst hK
  exact ⟨pi_seq (pe_var hN hv hd hcd), sc_own⟩
theorem l_lcC {elt iter : Expr} {ifs : List Expr} {scope : Scope} {own : List (Str × Nat)} {wi : TI} {src : Ev → R (List D)} {g : TG} {h : D → Ev → R Ev} {tt : TT} {c : Ev → R Bool} (hc : X.calm = true) (hN : X.N.Nodup) (hi : JC X W tg iter wi src) (ok : blkC X.N X.env.scope scope own = true)
    (hg : ∀ (s : Shared) (H : Hp) (C : Addr) (cl : List (Str × Addr)) (fp : List Addr), JGW (X.blk s H scope (compEnvC scope cl C X.env) fp) (own.map (·.2)) tg g h) (ht : ∀ (s : Shared) (H : Hp) (C : Addr) (cl : List (Str × Addr)) (fp : List Addr), JTs (X.blk s H scope (compEnvC scope cl C X.env) fp) W0 ifs tt c)
    (he : ∀ (s : Shared) (H : Hp) (C : Addr) (cl : List (Str × Addr)) (fp : List Addr), JE (X.blk s H scope (compEnvC scope cl C X.env) fp) W0 elt te f) (hs : ∀ x, foldedSetIterable iter X.env x = pure x := by intro _; rfl) :
    JL X W (.ListComp elt [⟨tg, iter, ifs, 0⟩] scope pos) (tLc wi g tt te (own.map (·.2))) (fLc src h c f (own.map (·.2))) :=
  ⟨pe_lc hc hN hi.pe (blkOk_by ok) (fun s H C cl fp => (hg s H C cl fp).pe) (fun s H C cl fp => (ht s H C cl fp).pe) (fun s H C cl fp => (he s H C cl fp).pe) hs,
    snd_lcC hi.sd (hg X.s_0 X.H_0 0 [] []).sd (ht X.s_0 X.H_0 0 [] []).sd (he X.s_0 X.H_0 0 [] []).sd⟩
theorem s_lcPC (i : Nat) {y : Str} {py spos : Pos} {elt iter : Expr} {ifs : List Expr} {scope : Scope} {own : List (Str × Nat)} {wi : TI} {src : Ev → R (List D)} {g : TG} {h : D → Ev → R Ev} {tt : TT} {c : Ev → R Bool} (hc : X.calm = true) (hN : X.N.Nodup) (hi : JC X W tg iter wi src) (ok : blkC X.N X.env.scope scope own = true)
    (hg : ∀ (s : Shared) (H : Hp) (C : Addr) (cl : List (Str × Addr)) (fp : List Addr), JGW (X.blk s H scope (compEnvC scope cl C X.env) fp) (own.map (·.2)) tg g h) (ht : ∀ (s : Shared) (H : Hp) (C : Addr) (cl : List (Str × Addr)) (fp : List Addr), JTs (X.blk s H scope (compEnvC scope cl C X.env) fp) W0 ifs tt c)
    (he : ∀ (s : Shared) (H : Hp) (C : Addr) (cl : List (Str × Addr)) (fp : List Addr), JE (X.blk s H scope (compEnvC scope cl C X.env) fp) W0 elt te f) (hy : X.N[i]? = some y := by rfl) (hyl : X.env.scope.names.lookup y = some .local := by rfl)
    (hsw : swapsWith (.ListComp elt [⟨tg, iter, ifs, 0⟩] scope pos) (some (.Name y py)) spos.line X.env = pure true := by exact sw_true rfl rfl rfl (by decide +kernel)) (hs : ∀ x, foldedSetIterable iter X.env x = pure x := by intro _; rfl) :
    PS X (.Assign [.Name y py] (.ListComp elt [⟨tg, iter, ifs, 0⟩] scope pos) spos) (tAsg (tLc wi g tt te (own.map (·.2))) (gName i)) ∧ SndL X.K X.mg W (tLc wi g tt te (own.map (·.2))) (fLc src h c f (own.map (·.2))) :=
  ⟨ps_setLc hc hN hy hyl hsw hi.pe (blkOk_by ok) (fun s H C cl fp => (hg s H C cl fp).pe) (fun s H C cl fp => (ht s H C cl fp).pe) (fun s H C cl fp => (he s H C cl fp).pe) hs,
    snd_lcC hi.sd (hg X.s_0 X.H_0 0 [] []).sd (ht X.s_0 X.H_0 0 [] []).sd (he X.s_0 X.H_0 0 [] []).sd⟩
theorem j_join {Kk : PySem.W.Frag} {z : Str} {j : Nat} {p0 apos : Pos} (he : JE X W e te f) (hs : starEach [e] X.env = [(false, eval e X.env)] := by rfl) (hbase : attributeBase (.Constant (.str z) j p0) "join" X.env (eval (.Constant (.str z) j p0) X.env) = eval (.Constant (.str z) j p0) X.env := by rfl) (hline : (apos.endLine == pos.line) = true := by rfl) (hK : X.K = Kk := by rfl) :
    JE X W (.Call (.Attribute (.Constant (.str z) j p0) "join" apos) [e] [] pos) (tM1 (rJoin Kk) (tC (.str z)) te) (fBin gJoin (fC (.str z)) f) := by
  subst hK
  exact ⟨pe_join pe_str he.pe hs hbase hline, snd_join (snd_c fun _ => .str z) he.sd fun s d h => by
    cases h
    exact ⟨z, rfl⟩⟩
theorem l_rev {Kk : PySem.W.Frag} {k : Nat} {p1 p2 p3 : Pos} (he : JE X W e te f) (hK : X.K = Kk := by rfl) : JL X W (.Subscript e (.Slice none none (some (.UnaryOp .USub (.Constant (.int 1) k p1) p2)) p3) pos) (tRevL Kk te) (fRev f) := by
  subst hK
  exact ⟨pe_revL he.pe, sl_rev he.sd⟩
end
end Sf

namespace Sf
open PySem PySem.Spec PyProof.Rows L2
open Evl (Ex)

/-! ### zip of three lists -/
def Itz3 (K : PySem.W.Frag) (a b c : Addr) : It :=
  ⟨fun i H => ∃ (xs ys zs : List V) (x y z : V), SqL K H a xs ∧ SqL K H b ys ∧ SqL K H c zs ∧ xs[i]? = some x ∧ ys[i]? = some y ∧ zs[i]? = some z,
    fun i H v H' => ∃ T x y z, v = .ref T ∧ H T = none ∧ H' = upd H T (.tup [x, y, z]) ∧ (∀ xs, SqL K H a xs → xs[i]? = some x) ∧ (∀ ys, SqL K H b ys → ys[i]? = some y) ∧ ∀ zs, SqL K H c zs → zs[i]? = some z,
    fun i H => ∃ xs ys zs : List V, SqL K H a xs ∧ SqL K H b ys ∧ SqL K H c zs ∧ i = min (min xs.length ys.length) zs.length⟩
theorem turn_zip3 {P : Program} {w : World} {K : PySem.W.Frag} {elts : List Expr} {kk : Nat} {tpos : Pos} {a b c z TI TO i1 i2 i3 : Addr} (S : ZipSep3 z TI TO i1 i2 i3 [i1, a] [i2, b] [i3, c]) (n1 : a ≠ i1) (n2 : b ≠ i2) (n3 : c ≠ i3) :
    Turn P w K (.Tuple elts kk tpos) (Itz3 K a b c) [z, TI, TO, i1, i2, i3] z (fun i h => IsZip h z TI TO .none ∧ IsTupOf3 h TI (.ref i1) (.ref i2) (.ref i3) ∧ (∃ x y u, IsTupOf3 h TO x y u) ∧ h.IsListIter i1 a i ∧ h.IsListIter i2 b i ∧ h.IsListIter i3 c i) where
  mem := by simp
  obj := fun i h st q hq => by
    obtain ⟨hz, hTI, ⟨x, y, u, hTO⟩, ⟨o1, e1, _, d1⟩, ⟨o2, e2, _, d2⟩, ⟨o3, e3, _, d3⟩⟩ := st
    have e' : q = z ∨ q = TI ∨ q = TO ∨ q = i1 ∨ q = i2 ∨ q = i3 := by simpa using hq
    rcases e' with q | q | q | q | q | q
    · rw [q]; exact ⟨_, hz, fun v q => nomatch q⟩
    · rw [q]; exact ⟨_, hTI, fun v q => nomatch q⟩
    · rw [q]; exact ⟨_, hTO, fun v q => nomatch q⟩
    · rw [q]; exact ⟨o1, e1, fun v q => by rw [d1] at q; cases q⟩
    · rw [q]; exact ⟨o2, e2, fun v q => by rw [d2] at q; cases q⟩
    · rw [q]; exact ⟨o3, e3, fun v q => by rw [d3] at q; cases q⟩
  keep := fun i h h' st k => by
    obtain ⟨hz, hTI, ⟨x, y, u, hTO⟩, h1, h2, h3⟩ := st
    exact ⟨k z (by simp) _ hz, k TI (by simp) _ hTI, ⟨x, y, u, k TO (by simp) _ hTO⟩, h1.at fun o q => k i1 (by simp) o q, h2.at fun o q => k i2 (by simp) o q, h3.at fun o q => k i3 (by simp) o q⟩
  item := by
    intro X hP hw hK hc i pins s σ H E I hf st hg
    subst hP hw hK
    obtain ⟨hz, hTI, ⟨x0, y0, u0, hTO⟩, h1, h2, h3⟩ := st
    obtain ⟨xs, ys, zs, x, y, u, hqx, hqy, hqz, hx, hy, hu⟩ := hg
    obtain ⟨its, rv, p, _⟩ := I.list hqx
    obtain ⟨its2, rv2, p2, _⟩ := I.list hqy
    obtain ⟨its3, rv3, p3, _⟩ := I.list hqz
    obtain ⟨v1, hv1, rx⟩ := rv.get hx
    obtain ⟨v2, hv2, ry⟩ := rv2.get hy
    obtain ⟨v3, hv3, ru⟩ := rv3.get hu
    have hzl : z < s.heap.objs.size := Heap.lt_size hz
    have hh : X.A.in1.handled = none := I.ok.hd hc
    have lt1 : i < its.toArray.size := by simpa using (List.getElem?_eq_some_iff.mp hv1).1
    have lt2 : i < its2.toArray.size := by simpa using (List.getElem?_eq_some_iff.mp hv2).1
    have lt3 : i < its3.toArray.size := by simpa using (List.getElem?_eq_some_iff.mp hv3).1
    refine wpAny_pyNext_zipD3_item S (Draws.list hh i1 a n1 its.toArray) (Draws.list hh i2 b n2 its2.toArray) (Draws.list hh i3 c n3 its3.toArray) hz hTI hTO ⟨h1, p.isList⟩ ⟨h2, p2.isList⟩ ⟨h3, p3.isList⟩ lt1 lt2 lt3
      fun w1 w2 w3 h' tk y1 y2 y3 z' TO' h1' h2' h3' hT hsz hk => ?_
    have q1 : w1 = v1 := by
      have y1' : its.toArray[i]? = some w1 := y1
      rw [List.getElem?_toArray, hv1] at y1'
      exact (Option.some.inj y1').symm
    have q2 : w2 = v2 := by
      have y1' : its2.toArray[i]? = some w2 := y2
      rw [List.getElem?_toArray, hv2] at y1'
      exact (Option.some.inj y1').symm
    have q3 : w3 = v3 := by
      have y1' : its3.toArray[i]? = some w3 := y3
      rw [List.getElem?_toArray, hv3] at y1'
      exact (Option.some.inj y1').symm
    subst q1 q2 q3
    refine ⟨_, rfl, wpAny_letOwnedTupleGo_zip (s := { s with heap := h', toks := tk }) z' fun h'' z'' sb => ?_⟩
    have hT2 : h''.get? s.heap.objs.size = some { cls := .type "tuple", data := .seq #[w1, w2, w3] } := (sb.2 _ (Nat.ne_of_gt hzl)).trans hT
    have new : ObjOk X.prog X.w (upd H s.heap.objs.size (.tup [x, y, u])) h'' s.heap.objs.size (.tup [x, y, u]) :=
      ⟨by show 3 ≤ sizeLine; decide, [w1, w2, w3], .cons rx (.cons ry (.cons ru .nil)), ⟨_, hT2, rfl, _, rfl⟩⟩
    have I1 : Inv X pins σ (upd H s.heap.objs.size (.tup [x, y, u])) { s with heap := h'', toks := tk } :=
      I.turnedNew (t' := tk) (ch := [z, TI, TO, i1, i2, i3]) (fun c o hb q => (sb.2 c (fun q' => hb (by simp [q']))).trans (hk c o (fun q' => hb (by simp [q'])) (fun q' => hb (by simp [q'])) (fun q' => hb (by simp [q'])) (fun q' => hb (by simp [q'])) (fun q' => hb (by simp [q'])) q)) hf (Nat.le_refl _) new
    refine ⟨.ref s.heap.objs.size, _, I1, rfl, ⟨_, x, y, u, rfl, I.hok.fresh (Nat.le_refl _), rfl, fun l hl => by rw [I.list_inj hl hqx]; exact hx, fun l hl => by rw [I.list_inj hl hqy]; exact hy, fun l hl => by rw [I.list_inj hl hqz]; exact hu⟩, ⟨z'', ?_, ⟨w1, w2, w3, ?_⟩, ?_, ?_, ?_⟩, fun c hcm => ?_⟩
    · exact (sb.2 _ S.TIz).trans (hk _ _ S.TIz S.TITO S.TIi1 S.TIi2 S.TIi3 hTI)
    · exact (sb.2 _ S.TOz).trans TO'
    · exact h1'.1.at fun o q => (sb.2 _ (Ne.symm S.zi1)).trans q
    · exact h2'.1.at fun o q => (sb.2 _ (Ne.symm S.zi2)).trans q
    · exact h3'.1.at fun o q => (sb.2 _ (Ne.symm S.zi3)).trans q
    · have hlt : c < s.heap.objs.size := by
        have e' : c = z ∨ c = TI ∨ c = TO ∨ c = i1 ∨ c = i2 ∨ c = i3 := by simpa using hcm
        rcases e' with q | q | q | q | q | q
        · rw [q]; exact hzl
        · rw [q]; exact Heap.lt_size hTI
        · rw [q]; exact Heap.lt_size hTO
        · rw [q]; obtain ⟨_, e1, _⟩ := h1; exact Heap.lt_size e1
        · rw [q]; obtain ⟨_, e2, _⟩ := h2; exact Heap.lt_size e2
        · rw [q]; obtain ⟨_, e3, _⟩ := h3; exact Heap.lt_size e3
      rw [upd_ne (Nat.ne_of_lt hlt)]
      exact (hf c hcm).1
  done := by
    intro X hP hw hK hc i pins s σ H E I hf st hg
    subst hP hw hK
    obtain ⟨hz, hTI, ⟨x0, y0, u0, hTO⟩, h1, h2, h3⟩ := st
    obtain ⟨xs, ys, zs, hqx, hqy, hqz, hend⟩ := hg
    obtain ⟨its, rv, p, _⟩ := I.list hqx
    obtain ⟨its2, rv2, p2, _⟩ := I.list hqy
    obtain ⟨its3, rv3, p3, _⟩ := I.list hqz
    have l1 := rv.length
    have l2 := rv2.length
    have l3 := rv3.length
    have hh : X.A.in1.handled = none := I.ok.hd hc
    have s1 : its.toArray.size = its.length := by simp
    have s2 : its2.toArray.size = its2.length := by simp
    have s3 : its3.toArray.size = its3.length := by simp
    refine wpAny_pyNext_zipD3_end S (Draws.list hh i1 a n1 its.toArray) (Draws.list hh i2 b n2 its2.toArray) (Draws.list hh i3 c n3 its3.toArray) hz hTI hTO ⟨h1, p.isList⟩ ⟨h2, p2.isList⟩ ⟨h3, p3.isList⟩ (by omega) (by omega) (by omega) (by omega) fun h' tk hk => ⟨rfl, ?_⟩
    exact I.turnedL (t' := tk) (ch := [z, TI, TO, i1, i2, i3]) (fun c o hb q =>
      hk c o (fun q' => hb (by simp [q'])) (fun q' => hb (by simp [q'])) (fun q' => hb (by simp [q'])) (fun q' => hb (by simp [q'])) (fun q' => hb (by simp [q'])) q) hf
  self := fun A i s Q E st h => wpAny_pyIter_zip st.1 h
def iZip3 (K : PySem.W.Frag) (ta : TA) : TI := fun σ H R => ta σ H fun vs H1 => ∃ a b c xs ys zs, vs = [.ref a, .ref b, .ref c] ∧ SqL K H1 a xs ∧ SqL K H1 b ys ∧ SqL K H1 c zs ∧ R (Itz3 K a b c) H1
theorem pi_zip3 {X : Cx} {e e2 e3 : Expr} {ta : TA} {p pos tpos : Pos} {elts : List Expr} {kk : Nat} (hg : Gl X "zip") (hm : X.mg "zip" = none) (ha : PA X [e, e2, e3] ta)
    (hs : starEach [e, e2, e3] X.env = (false, eval e X.env) :: starEach [e2, e3] X.env := by rfl) (hpl : (backTo pos (starEach [e2, e3] X.env)).any (·.1) = false := by rfl) :
    PI X (.Tuple elts kk tpos) (.Call (.Name "zip" p) [e, e2, e3] [] pos) (iZip3 X.K ta) := by
  refine ⟨fun pins s σ H R I h => ?_⟩
  refine Call_ (ld_blt I hg hm PyProof.Rows.boot_zip (PyProof.Rows.callWith_type1 (thn (ha.run pos pins s σ H _ I h) fun us s1 ⟨vs, H1, I1, r1, q1⟩ => ?_) hs hpl))
  obtain ⟨a, b, c, xs, ys, zs, ex, hqx, hqy, hqz, q⟩ := q1
  subst ex
  cases r1 with
  | cons r rr =>
    cases rr with
    | cons r' rr =>
      cases rr with
      | cons r'' rr =>
      cases rr
      cases r
      cases r'
      cases r''
      obtain ⟨its, rv, p1, _⟩ := I1.list hqx
      obtain ⟨its2, rv2, p2, _⟩ := I1.list hqy
      obtain ⟨its3, rv3, p3, _⟩ := I1.list hqz
      have la : a < s1.heap.objs.size := p1.lt
      have lb : b < s1.heap.objs.size := p2.lt
      have lc : c < s1.heap.objs.size := p3.lt
      refine zip_begins3 (begins_list a its.toArray) (begins_list b its2.toArray) (begins_list c its3.toArray) p1.isList p2.isList p3.isList fun h' hz hTI hTO h1 h2 h3 hsz hk => wpAny_pyIter_zip hz ?_
      have I2 : Inv X pins σ H1 { s1 with heap := h' } := I1.kept (t' := s1.toks) hk
      have S := zip_sep3 (N := s1.heap.objs.size) (fp1 := [a]) (fp2 := [b]) (fp3 := [c]) (by simpa using la) (by simpa using lb) (by simpa using lc)
      refine ⟨s1.heap.objs.size + 5, [s1.heap.objs.size + 5, s1.heap.objs.size + 3, s1.heap.objs.size + 4, s1.heap.objs.size, s1.heap.objs.size + 1, s1.heap.objs.size + 2], _, _, H1, rfl, I2, turn_zip3 S (Nat.ne_of_lt la) (Nat.ne_of_lt (Nat.lt_succ_of_lt lb)) (Nat.ne_of_lt (Nat.lt_succ_of_lt (Nat.lt_succ_of_lt lc))),
        ⟨hz, hTI, ⟨_, _, _, hTO⟩, ⟨_, h1, rfl, rfl⟩, ⟨_, h2, rfl, rfl⟩, ⟨_, h3, rfl, rfl⟩⟩, fun c hcm => ?_, q⟩
      have e' : c = s1.heap.objs.size + 5 ∨ c = s1.heap.objs.size + 3 ∨ c = s1.heap.objs.size + 4 ∨ c = s1.heap.objs.size ∨ c = s1.heap.objs.size + 1 ∨ c = s1.heap.objs.size + 2 := by simpa using hcm
      have hle : s1.heap.objs.size ≤ c := by
        rcases e' with z | z | z | z | z | z
        · rw [z]; exact Nat.le_add_right _ _
        · rw [z]; exact Nat.le_add_right _ _
        · rw [z]; exact Nat.le_add_right _ _
        · rw [z]; exact Nat.le_refl _
        · rw [z]; exact Nat.le_add_right _ _
        · rw [z]; exact Nat.le_add_right _ _
      exact I1.fpOk hle (I1.hok.fresh hle)
def gZip3 : List D → R (List D)
  | [.list ds, .list es, .list fs] => .ok (((ds.zip es).zip fs).map fun p => .tuple [p.1.1, p.1.2, p.2])
  | _ => .no
def sZip3 (f : Ev → R (List D)) : Ev → R (List D) := fun s => (f s).bind gZip3
theorem zip3_nx (d : List D) (x : Exn) : gZip3 d ≠ .ex x := by unfold gZip3; split <;> exact fun z => nomatch z
section
variable {K : PySem.W.Frag} {mg : Str → Option Value} {W : WX}
theorem dp3 {B : Hp} {xs : List V} {d e f : D} (h : DpAll K B xs [d, e, f]) : ∃ v w u, xs = [v, w, u] ∧ Dp K B v d ∧ Dp K B w e ∧ Dp K B u f := by
  cases h with
  | cons h1 h2 =>
    obtain ⟨w, u, rfl, h3, h4⟩ := dp2 h2
    exact ⟨_, w, u, rfl, h1, h3, h4⟩
theorem walk_zip3 {B1 : Hp} {a b c : Addr} {vs ws us : List V} {ds es fs : List D} (hs : SqL K B1 a vs) (ha : DpAll K B1 vs ds) (hs2 : SqL K B1 b ws) (hb2 : DpAll K B1 ws es) (hs3 : SqL K B1 c us) (hc3 : DpAll K B1 us fs) :
    Walk K B1 (Itz3 K a b c) (((ds.zip es).zip fs).map fun p => .tuple [p.1.1, p.1.2, p.2]) := by
  intro B H x1 x2
  have hS : SqL K H a vs := sql_ex x2 (sql_ex x1 hs)
  have hS2 : SqL K H b ws := sql_ex x2 (sql_ex x1 hs2)
  have hS3 : SqL K H c us := sql_ex x2 (sql_ex x1 hs3)
  have hl := DpAll.len ha
  have hl2 := DpAll.len hb2
  have hl3 := DpAll.len hc3
  have hlen : (((ds.zip es).zip fs).map fun p => (PyData.tuple [p.1.1, p.1.2, p.2])).length = min (min ds.length es.length) fs.length := by simp
  refine ⟨fun i hi => ?_, ⟨vs, ws, us, hS, hS2, hS3, by rw [hlen, hl, hl2, hl3]⟩⟩
  rw [hlen] at hi
  have hv : i < vs.length := by omega
  have hw : i < ws.length := by omega
  have hu : i < us.length := by omega
  refine ⟨⟨vs, ws, us, vs[i], ws[i], us[i], hS, hS2, hS3, by simp [hv], by simp [hw], by simp [hu]⟩, fun v H1 y => ?_⟩
  obtain ⟨T, x, x', x'', rfl, hT, rfl, f, f', f''⟩ := y
  obtain ⟨d, g1, g2⟩ := DpAll.getV ha (f vs hS)
  obtain ⟨e, g3, g4⟩ := DpAll.getV hb2 (f' ws hS2)
  obtain ⟨k, g5, g6⟩ := DpAll.getV hc3 (f'' us hS3)
  have hb : B T = none := ex_none x2 hT
  refine ⟨_, .tuple [d, e, k], (Ext.refl x2).new hT, ?_, .tup (SqT.of upd_same) (.cons (Dp.ex (Ex.new hb) _ _ (Dp.ex x1 _ _ g2)) (.cons (Dp.ex (Ex.new hb) _ _ (Dp.ex x1 _ _ g4)) (.cons (Dp.ex (Ex.new hb) _ _ (Dp.ex x1 _ _ g6)) .nil)))⟩
  rw [List.getElem?_map, (List.getElem?_zip_eq_some (z := ((d, e), k))).mpr ⟨(List.getElem?_zip_eq_some (z := (d, e))).mpr ⟨g1, g3⟩, g5⟩] <;> rfl
theorem si_zip3 {t : TA} {f : Ev → R (List D)} (h : SndA K mg W t f) : SndI K mg W (iZip3 K t) (sZip3 f) := by
  refine ⟨fun ga B0 H0 B H σ s Q e p => ?_⟩
  refine h.walk e p (fun d v B1 H1 x q eb zs hd k => ?_) zip3_nx
  unfold gZip3 at hd
  split at hd
  · obtain ⟨w, w2, w3, rfl, q1, q2, q3⟩ := dp3 q
    cases hd
    cases q1 with
    | lst hs ha =>
      cases q2 with
      | lst hs2 ha2 =>
        cases q3 with
        | lst hs3 ha3 => exact ⟨_, _, _, _, _, _, rfl, sql_ex eb hs, sql_ex eb hs2, sql_ex eb hs3, k _ B1 H1 (Ext.refl eb) (walk_zip3 hs ha hs2 ha2 hs3 ha3)⟩
  · cases hd
end
theorem i_zip3 {X : Cx} {W : WX} {e a b : Expr} {p pos : Pos} {tA : TA} {fA : Ev → R (List D)} {Kk : PySem.W.Frag} {elts : List Expr} {kk : Nat} {tpos : Pos} (hm : X.mg "zip" = none) (ha : JA X W [e, a, b] tA fA) (hg : Gl X "zip" := by rfl) (hs : starEach [e, a, b] X.env = (false, eval e X.env) :: starEach [a, b] X.env := by rfl) (hpl : (backTo pos (starEach [a, b] X.env)).any (·.1) = false := by rfl) (hK : X.K = Kk := by rfl) : JI X W (.Tuple elts kk tpos) (.Call (.Name "zip" p) [e, a, b] [] pos) (iZip3 Kk tA) (sZip3 fA) := by
  subst hK
  exact ⟨pi_zip3 hg hm ha.pe hs hpl, si_zip3 ha.sd⟩
end Sf

namespace Sf
open PySem PySem.Spec PyProof.Rows L2
open Evl (Ex)

/-! ### the law's own def, where it is called: nothing is shown meanwhile -/
section
variable {P : Program} {w : World} {K : PySem.W.Frag} {mg : Str → Option Value} {base : Heap}
/-- the promise of a def of one parameter, at the call from outside alone -/
structure TopOk (P : Program) (w : World) (K : PySem.W.Frag) (mg : Str → Option Value) (base : Heap) (f : Addr) (fd : FuncData) (p : Str) (sp : Sp) : Prop where
  run : ∀ (s : Shared) (H : Hp) (u : Value) (v : V) (Q : VK) (E : XK), Env0 P w K mg base callerA [] s H → RelV v u → BindsTo s fd ⟨[u], []⟩ [(p, u)] → sp [v] H Q E →
    codeAny (model P w) callerA (.call (.ref f) ⟨[u], []⟩) (CR (L2N.CX P w) [] P w H s Q E) s
theorem TopOk.imp {f : Addr} {fd : FuncData} {p : Str} {sp sp' : Sp} (T : TopOk P w K mg base f fd p sp) (h : ∀ vs H Q E, sp' vs H Q E → sp vs H Q E) : TopOk P w K mg base f fd p sp' :=
  ⟨fun s H u v Q E e r b q => T.run s H u v Q E e r b (h _ _ _ _ q)⟩
theorem def_top {x qual p : Str} {st : Stmt} {f : Addr} {fd : FuncData} {N : List Str} {k : Nat} {G : Ev → Fl} {F : List D → R D} (Fn : Fun K x qual st f fd) (S : FnScope N [p] (defScope st)) (hr : Room (k + 1) callerA) (hF : runF N.length G = F)
    (body : ∀ (cdv : Value) (s : Shared) (H : Hp) (E : XK) (X : Cx), X = cxOf (L2N.CX P w) P w K mg base N qual (defScope st) f cdv callerA [] s H E → X.A.guards = some [] → Room k X.A → PassesOwn (model X.prog X.w) X.A X.env X.xe → L2N.Takes X (fun c d _ H => E c d H) →
      ∃ t, JSs (cxOf (L2N.CX P w) P w K mg base N qual (defScope st) f cdv callerA [] s H E) (fun c d _ H => E c d H) (defBody st) t G) : TopOk P w K mg base f fd p (spD K mg 1 F) := by
  obtain ⟨_, _, _, _, _, _, cdv, _, _, hfd, at_f, at_c⟩ := Fn.ex
  subst hfd
  refine ⟨fun s H u v Q E env rv binds wish => ?_⟩
  have keep := fun b o e => (env.bs b o e).1
  have inK : K.In s.heap := env.mod.kin.keeps keep
  have free : s.heap.NoLimit := env.mod.nolimit.keeps keep
  have kinds : ∀ y ∈ [(p, u)], (defScope st).names.lookup y.1 = some .local ∨ ((defScope st).names.lookup y.1 = some .cell ∧ ((cellsFrom (s.heap.objs.size + 1) (defScope st).names []).lookup y.1).isSome = true) := by
    intro y hy
    have e : y = (p, u) := List.mem_singleton.mp hy
    subst e
    exact (S.par p (List.mem_singleton.mpr rfl)).imp id fun c => ⟨c, PySem.W.cellsFrom_some _ _ _ (.inl c)⟩
  have start : codeAny (model P w) callerA (.call (.ref f) ⟨[u], []⟩) (CR (L2N.CX P w) [] P w H s Q E) s := by
    apply codeAny_call_function hr.depth (inK _ _ at_f) rfl S.co S.gen rfl
      (PySem.W.codeRec_of inK at_c)
    apply binds
    apply wpAny_newFunctionEnv_cells S.kind kinds
    rintro _ rfl s1 made
    refine ⟨free.keeps made.toInCall.keep, codeAny_func ?_⟩
    have I : Inv (cxOf (L2N.CX P w) P w K mg base N qual (defScope st) f cdv callerA [] s H E) [] (L2.start N [v]) H s1 :=
      inv_start S hr.hd env rfl (.cons rv .nil) made
    obtain ⟨hl, B, ds, eb, hd, post⟩ := wish
    subst hF
    obtain ⟨t, J⟩ := body cdv s H E _ rfl rfl (hr.deeper (envOfC qual (defScope st) s.heap.objs.size f cdv)) (passes_of rfl) (L2N.takes_of rfl rfl rfl rfl)
    have told := J.sd.run 0 B H B H (L2.start N [v]) _ _ (er_start (N := N) eb hd) (run_ends (N := N) post)
    have ran := J.pe.run [] s1 (L2.start N [v]) H _ I told
    apply wpAny_mono ran
    · intro end_ s2 got
      cases end_
      case ret r =>
        obtain ⟨v2, σ2, H2, I2, r2, q2⟩ := got
        exact ⟨v2, H2, I2.os, I2.bare, I2.base, I2.hok, r2, q2⟩
      case next =>
        obtain ⟨σ2, H2, I2, q2⟩ := got
        exact ⟨V.non, H2, I2.os, I2.bare, I2.base, I2.hok, rfl, q2⟩
      case brk =>
        obtain ⟨_, _, _, no⟩ := got
        exact no.elim
      case cont =>
        obtain ⟨_, _, _, no⟩ := got
        exact no.elim
    · exact fun _ _ z => z
  exact start
end
/-- from outside: the script alone is known, a list that nothing changes -/
theorem law_top {P : Program} {w : World} {K : PySem.W.Frag} {mg mb : Str → Option Value} {fa a : Addr} {fd : FuncData} {p : Str} {sp : Sp} {s : Shared} {vs : List Value} {ns : List Int} (inK : K.In s.heap) (names : s.heap.Ns mainGlobals mg) (boot : s.heap.Ns builtinsNs mb)
    (same : ∀ x : Str, x ≠ "__name__" → mb x = bootBuiltins x) (free : s.heap.NoLimit) (noGens : s.gens = #[]) (list_ : s.heap.get? a = some { cls := .type "list", data := .seq vs.toArray }) (whole : IntsAre vs ns) (few : ns.length ≤ sizeLine)
    (T : ∀ base : Heap, K.In base → base.Ns mainGlobals mg → TopOk P w K mg base fa fd p sp) (binds : ∀ (s : Shared) (u : Value), BindsTo s fd ⟨[u], []⟩ [(p, u)])
    (wish : ∀ H : Hp, SqL K H a (ns.map V.int) → sp [.ref a] H (fun v _ => v = .bl true) fun _ _ _ => False) :
    codeAny (model P w) callerA (.call (.ref fa) ⟨[.ref a], []⟩) (fun r s' => r = .ok (.ret (.bool true)) ∧ OldK s.heap s'.heap ∧ s'.os = s.os ∧ AllBare s'.gens) s := by
  obtain ⟨obj, hobj⟩ : ∃ o : Obj, o = { cls := .type "list", data := .seq vs.toArray } := ⟨_, rfl⟩
  rw [← hobj] at list_
  have vals := vals_ints whole
  have long : vs.length ≤ sizeLine := by
    rw [whole.length]
    exact few
  -- what is tracked: the script, unless it is the module's own
  obtain ⟨tr, htr⟩ : ∃ tr : Hp, ∀ b, tr b = if b = a ∧ K.lookup a = none then some (HO.frz obj (.lst (ns.map V.int))) else none := ⟨_, fun _ => rfl⟩
  have one : ∀ {b : Addr} {z : HO}, tr b = some z → (b = a ∧ K.lookup a = none) ∧ z = .frz obj (.lst (ns.map V.int)) := by
    intro b z e
    rw [htr] at e
    by_cases c : b = a ∧ K.lookup a = none
    · rw [if_pos c] at e
      exact ⟨c, (Option.some.inj e).symm⟩
    · rw [if_neg c] at e
      cases e
  have off : ∀ {b : Addr} {o : Obj}, s.heap.get? b = some o → (∀ c : b = a ∧ K.lookup a = none, False) → (hidT s.heap tr).get? b = some o := by
    intro b o e no
    refine hidT_get e ?_
    rw [htr, if_neg fun c => no c]
  have inHid : K.In (hidT s.heap tr) := by
    intro b o e
    refine off (inK b o e) ?_
    rintro ⟨rfl, none_⟩
    rw [none_] at e
    cases e
  have space : ∀ {b : Addr} {m : Str → Option Value}, s.heap.Ns b m → (hidT s.heap tr).Ns b m := by
    rintro b m ⟨o, es, ep, e, d, rest⟩
    refine ⟨o, es, ep, off e ?_, d, rest⟩
    rintro ⟨rfl, _⟩
    have q := Option.some.inj (e.symm.trans list_)
    rw [q, hobj] at d
    cases d
  have heapOk : HOk P w tr s.heap := by
    intro b z e
    obtain ⟨⟨rfl, _⟩, rfl⟩ := one e
    refine ⟨list_, ?_, vs, obj.dict.elim 0 fun _ => 0, vals, ?_⟩
    · rw [List.length_map]
      exact few
    · rw [list_, hobj]
      rfl
  have seq : SqL K tr a (ns.map V.int) := by
    cases lk : K.lookup a with
    | none =>
      refine .inl (.inr ⟨obj, ?_⟩)
      rw [htr, if_pos ⟨rfl, lk⟩]
    | some o =>
      have e := Option.some.inj ((inK a o lk).symm.trans list_)
      subst e
      rw [hobj] at lk
      exact .inr ⟨_, vs.toArray, _, lk, rfl, rfl, rfl, (by rw [List.size_toArray]; exact long), (by simpa using vals)⟩
  have env : Env0 P w K mg (hidT s.heap tr) callerA [] s tr :=
    { frames := rfl
      mod := ⟨inHid, space names, ⟨mb, space boot, same⟩, by
        obtain ⟨m, h1, h2⟩ := free
        exact ⟨m, space h1, h2⟩⟩
      bs := fun b o e => of_hidT e
      bsz := Nat.le_of_eq (hidT_size _ _)
      funs := trivial
      frf := fun b hb => nomatch hb
      hok := heapOk
      bare := .of_eq noGens }
  have ran := (T _ inHid (space names)).run s tr (.ref a) (.ref a) (fun v _ => v = .bl true) (fun _ _ _ => False) env rfl (binds s _) (wish tr seq)
  apply codeAny_mono ran
  intro r s2 got
  match r, got with
  | .error e, got =>
    obtain ⟨_, _, _, _, _, _, _, _, _, _, _, _, z⟩ := got
    exact z.elim
  | .ok .next, got => exact False.elim got
  | .ok .brk, got => exact False.elim got
  | .ok .cont, got => exact False.elim got
  | .ok (.ret u), got =>
    obtain ⟨v, H2, os, bare, un, ok2, rv, q⟩ := got
    have e : v = .bl true := q
    subst e
    have eu : u = Value.bool true := rv
    refine ⟨by rw [eu], OldK.of_keep fun b o e => ?_, os, bare⟩
    cases hb : tr b with
    | none => exact un.keep b o e hb (fun z => nomatch z) (by simp)
    | some z =>
      obtain ⟨⟨rfl, _⟩, rfl⟩ := one hb
      have still := (ok2 _ _ (un.frzs _ _ _ hb)).1
      rw [still, ← list_, e]
/-- the end of a proof, from the law's own promise at the call from outside -/
theorem walk_top {l : PySem.W.OpenLaw} {n : Nat} {q : Program} {loose : List Str} {XP : (Str → Option Value) → Heap → Prop} {YP : World → Heap → Prop} {d : DefRec} {K : Params → PySem.W.Frag} {sp : World → Sp} {x : Str} (most : l.most = some n) (few : n ≤ sizeLine) (plain : d.params.defaults = [])
    (parts : ∀ (w : World) (h : Heap), YP w h → (K w.params).In h)
    (F : ∀ (w : World) (mg : Str → Option Value) (fa : Addr) (h : Heap), (K w.params).In h → h.Ns mainGlobals mg → mg d.name = some (.ref fa) → ∃ fd : FuncData, (∀ (s : Shared) (u : Value), BindsTo s fd ⟨[u], []⟩ [(x, u)]) ∧
      ∀ base : Heap, (K w.params).In base → base.Ns mainGlobals mg → TopOk l.prog w (K w.params) mg base fa fd x (sp w))
    (wish : ∀ (w : World) (H : Hp) (a : Addr) (ns : List Int), ns.length ≤ n → SqL (K w.params) H a (ns.map V.int) → sp w [.ref a] H (fun v _ => v = .bl true) fun _ _ _ => False) : PySem.W.WalkO q loose XP YP l.row.toRowW d [] (fun f vs => PySem.call f vs) := by
  apply Att.attach_call most plain
  intro w _ s mg mb fa o _ _ _ a vs ns ground Y _ _ _ named script whole len noGens
  have inK := parts w _ Y
  obtain ⟨fd, binds, T⟩ := F w mg fa _ inK ground.T.g named
  exact law_top inK ground.T.g ground.T.b ground.T.builtins ground.T.nolimit noGens script whole (Nat.le_trans len few) T binds fun H hS => wish w H a ns len hS
/-! ### repr of a list or a tuple -/
def boxD : D → Bool
  | .list _ => true
  | .tuple _ => true
  | _ => false
def reprOk (d : D) : Bool := boxD d && (d.canLay0 && (d.showable && (decide (d.depth ≤ 60) && decide (d.shown.length ≤ 100000))))
def gRepr : List D → R D
  | [d] => if reprOk d = true then .ok (.str d.shown) else .no
  | _ => .no
theorem repr_nx (d : List D) (x : Exn) : gRepr d ≠ .ex x := by
  unfold gRepr
  split
  · split <;> exact fun z => nomatch z
  · exact fun z => nomatch z
def rRepr (K : PySem.W.Frag) : List V → Hp → VK → Prop := fun xs H Q => ∃ v d, xs = [v] ∧ Dp K H v d ∧ reprOk d = true ∧ Q (.str d.shown) H
theorem call_repr {X : Cx} (quiet : X.A.guards = some []) (room : X.A.units + 64 < cLine) : CallR X (.builtin "repr") (rRepr X.K) := by
  intro pins s σ H xs us Q I r h
  obtain ⟨v, d, rfl, hd, ok, q⟩ := h
  unfold reprOk at ok
  simp only [Bool.and_eq_true, decide_eq_true_eq] at ok
  obtain ⟨box, lay, show_, deep, long⟩ := ok
  cases r with
  | cons r1 r2 =>
    cases r2
    obtain ⟨as, reads⟩ := Dp.reads I d v _ hd r1
    have isRef : ∃ a : Addr, v = .ref a := by
      cases hd with
      | lst _ _ => exact ⟨_, rfl⟩
      | tup _ _ => exact ⟨_, rfl⟩
      | _ => cases box
    obtain ⟨a, rfl⟩ := isRef
    cases r1
    have sz : d.shown.length ≤ sizeLine := sz100 long
    exact repr_of_reads' reads show_ (PyData.noDict_hsm (PyData.hasDict_of_canLay d lay)) quiet (by omega) (fun _ _ e => e) (fun h' u tk keep => ⟨.str d.shown, H, I.kept (t' := tk) keep, ⟨u, rfl⟩, q⟩) sz
theorem sr_repr {K : PySem.W.Frag} : SndRL K (rRepr K) gRepr := by
  refine ⟨fun B H xs ds Q eb h p => ?_⟩
  unfold gRepr at p
  split at p
  · obtain ⟨v, rfl, q⟩ := dp1 h
    split at p
    · rename_i ok
      exact ⟨v, _, rfl, Dp.ex eb _ _ q, ok, p _ B H (Ext.refl eb) (.str _)⟩
    · exact p.elim
  · exact p.elim
/-! ### two texts, alike or not -/
def gEqS : D → D → R D
  | .str x, .str y => .ok (.bool (x.cps.toList == y.cps.toList))
  | _, _ => .no
def rEqS : R2 := fun x y H Q => ∃ i j : Str, x = .str i ∧ y = .str j ∧ Q (.bl (i.cps.toList == j.cps.toList)) H
theorem op_eqS {X : Cx} : OpR X (compareOp .Eq) rEqS := by
  intro pins s σ H x y v u Q I rx ry h
  obtain ⟨i, j, rfl, rfl, q⟩ := h
  obtain ⟨t, rfl⟩ := rx
  obtain ⟨t', rfl⟩ := ry
  exact PySem.P.eq_str (fin_bl I q rfl)
theorem eqS_nx (d e : D) (x : Exn) : gEqS d e ≠ .ex x := by unfold gEqS; split <;> exact fun z => nomatch z
theorem sr_eqS {K : PySem.W.Frag} : SndR2 K rEqS gEqS := by
  refine ⟨fun B H x y d e Q eb hx hy p => ?_⟩
  unfold gEqS at p
  split at p
  · cases hx
    cases hy
    exact ⟨_, _, rfl, rfl, p _ B H (Ext.refl eb) (.bl _)⟩
  · exact p.elim
section
variable {X : Cx} {W : WX} {p pos : Pos} {e a b : Expr} {es : List Expr} {ta tb : TE} {tA : TA} {f g : Ev → R D} {fA : Ev → R (List D)}
theorem j_repr {Kk : PySem.W.Frag} {u : Nat} (quiet : X.A.guards = some []) (hu0 : u + 64 < cLine) (hm : X.mg "repr" = none) (ha : JA X W (e :: es) tA fA) (hg : Gl X "repr" := by rfl) (he : starEach (e :: es) X.env = (false, eval e X.env) :: starEach es X.env := by rfl) (hpl : (backTo pos (starEach es X.env)).any (·.1) = false := by rfl) (hA : X.A.units = u := by rfl) (hK : X.K = Kk := by rfl) :
    JE X W (.Call (.Name "repr" p) (e :: es) [] pos) (tCB (rRepr Kk) tA) (fCall gRepr fA) := by
  subst hK
  exact ⟨pe_callB (call_repr quiet (hA ▸ hu0)) hg hm (by decide +kernel) ha.pe (by decide) (by decide) he hpl, snd_cb sr_repr repr_nx ha.sd⟩
theorem j_eqS (ha : JE X W a ta f) (hb : JE X W b tb g) : JE X W (.Compare a [.Eq] [b] pos) (tOp rEqS ta tb) (fBin gEqS f g) := ⟨pe_cmpR op_eqS ha.pe hb.pe (nomark _), snd_bin sr_eqS eqS_nx ha.sd hb.sd⟩
theorem t_eqS (ha : JE X W a ta f) (hb : JE X W b tb g) : JT X W (.Compare a [.Eq] [b] pos) (tTest (tOp rEqS ta tb)) (bVal (fBin gEqS f g)) := t_cmp (j_eqS ha hb) op_eqS ha.pe hb.pe (nomark _)
end
/-! ### how long a text of data is -/
mutual
def lenD : D → Nat
  | .none => 4
  | .bool _ => 5
  | .int i => i.natAbs.log2 + 3
  | .str x => 10 * x.length + 2
  | .list xs => lenDs xs + 3
  | .tuple xs => lenDs xs + 3
  | .dict _ => 0
def lenDs : List D → Nat
  | [] => 0
  | x :: r => lenD x + 2 + lenDs r
end
mutual
theorem shown_len : ∀ d : D, d.canLay0 = true → d.shown.length ≤ lenD d
  | .none, _ => by show ("None" : Str).length ≤ 4; decide +kernel
  | .bool b, _ => by
    cases b
    · show ("False" : Str).length ≤ 5; decide +kernel
    · show ("True" : Str).length ≤ 5; decide +kernel
  | .int i, _ => by
    have h := int_text_length_le (a := i) (k := i.natAbs.log2 + 1) (by omega) (by omega)
    refine Nat.le_trans ?_ (show i.natAbs.log2 + 1 + 1 ≤ i.natAbs.log2 + 3 by omega)
    show (Str.ofString (toString i)).length ≤ _
    rw [PySem.ofString_length]
    exact h
  | .str x, h => by
    refine StrLaws.reprText_len x fun c hc => ?_
    have h1 : PyData.strOk x = true := h
    unfold PyData.strOk at h1
    have h2 := (Array.all_eq_true_iff_forall_mem.mp h1) c (Array.mem_toList_iff.mp hc)
    have : c < 0x110000 := by simpa using h2
    omega
  | .list xs, h => by
    refine Nat.le_trans (listText_len_le _) ?_
    have := shownAll_len xs h
    show _ ≤ lenDs xs + 3
    omega
  | .tuple xs, h => by
    refine Nat.le_trans (tupleText_len_le _) ?_
    have := shownAll_len xs h
    show _ ≤ lenDs xs + 3
    omega
  | .dict _, h => by cases h
theorem shownAll_len : ∀ xs : List D, PyData.canLayAll0 xs = true → ((PyData.shownAll xs).map (·.length)).sum + 2 * (PyData.shownAll xs).length ≤ lenDs xs
  | [], _ => Nat.le_refl _
  | x :: r, h => by
    have h' : (PyData.canLay0 x && PyData.canLayAll0 r) = true := h
    rw [Bool.and_eq_true] at h'
    have h1 := shown_len x h'.1
    have h2 := shownAll_len r h'.2
    show ((PyData.shown x :: PyData.shownAll r).map (·.length)).sum + 2 * (PyData.shown x :: PyData.shownAll r).length ≤ lenD x + 2 + lenDs r
    rw [List.map_cons, List.sum_cons, List.length_cons]
    omega
end
end Sf

namespace Sf
open PySem PySem.Spec PyProof.Rows L2
open Evl (Ex)

/-! ### a < b < c -/
def fChain (o o' : D → D → R D) (f g h : Ev → R D) : Ev → R D := fun s => (f s).bind fun x => (g s).bind fun y => match o x y with
  | .ok (.bool true) => (h s).bind fun z => o' y z
  | .ok (.bool false) => .ok (.bool false)
  | _ => .no
section
variable {K : PySem.W.Frag} {mg : Str → Option Value} {W : WX}
theorem snd_chain {r r' : R2} {o o' : D → D → R D} {ta tb tc : TE} {f g h : Ev → R D} (sr : SndR2 K r o) (sr' : SndR2 K r' o') (no' : ∀ d e x, o' d e ≠ .ex x) (ha : SndE K mg W ta f) (hb : SndE K mg W tb g) (hc : SndE K mg W tc h) : SndE K mg W (tChain r r' ta tb tc) (fChain o o' f g h) := by
  refine ⟨fun ga B0 H0 B H σ s Q e p => ?_⟩
  refine ha.bind e p fun d v B1 H1 _ x1 q1 e1 p1 => ?_
  refine hb.bind e1 p1 fun d2 v2 B2 H2 _ x2 q2 e2 p2 => ?_
  refine sr.run B2 H2 v v2 d d2 _ e2.ext.s (Dp.ex x2.b _ _ q1) q2 ?_
  cases ho : o d d2 with
  | ex _ =>
    rw [ho] at p2
    exact (show False from p2).elim
  | no =>
    rw [ho] at p2
    exact (show False from p2).elim
  | ok b =>
    rw [ho] at p2
    intro w B3 H3 x3 q3
    cases q3 with
    | bl k =>
      refine ⟨k, rfl, ?_⟩
      cases k with
      | true =>
        replace p2 : EPost K mg W σ B2 H2 Q ((h s).bind fun z => o' d2 z) := p2
        rw [if_pos rfl]
        refine hc.bind (e2.more x3) (EPost.more x3 p2) fun d4 v4 B4 H4 _ x4 q4 e4 p4 => ?_
        exact sr'.run B4 H4 v2 v4 d2 d4 Q e4.ext.s (Dp.ex (x3.b.trans x4.b) _ _ q2) q4 (EPost.of_o p4 (no' d2 d4))
      | false =>
        rw [if_neg (by decide)]
        exact p2 _ B3 H3 x3 (.bl false)
    | _ => exact (show False from p2).elim
/-! ### sum of a list of whole numbers -/
def intsOf : List D → Option (List Int)
  | [] => some []
  | .int i :: r => (intsOf r).map (i :: ·)
  | _ :: _ => none
theorem ints_of : ∀ {B : Hp} {ds : List D} {vs : List V} {ns : List Int}, intsOf ds = some ns → DpAll K B vs ds → vs = ns.map V.int
  | _, [], _, _, e, h => by
    cases e
    cases h
    rfl
  | _, .int i :: r, _, _, e, h => by
    unfold intsOf at e
    cases hr : intsOf r with
    | none =>
      rw [hr] at e
      cases e
    | some zs =>
      rw [hr] at e
      cases e
      cases h with
      | cons h1 h2 =>
        cases h1
        rw [ints_of hr h2]
        rfl
  | _, .none :: _, _, _, e, _ => by cases e
  | _, .bool _ :: _, _, _, e, _ => by cases e
  | _, .str _ :: _, _, _, e, _ => by cases e
  | _, .list _ :: _, _, _, e, _ => by cases e
  | _, .tuple _ :: _, _, _, e, _ => by cases e
  | _, .dict _ :: _, _, _, e, _ => by cases e
def gSum : List D → R D
  | [.list ds] => match intsOf ds with
    | some ns => .ok (.int ns.sum)
    | none => .no
  | _ => .no
theorem sum_nx (d : List D) (x : Exn) : gSum d ≠ .ex x := by
  unfold gSum
  split
  · split <;> exact fun z => nomatch z
  · exact fun z => nomatch z
theorem sr_sum : SndRL K (rSum K) gSum := by
  refine ⟨fun B H xs ds Q eb h p => ?_⟩
  unfold gSum at p
  split at p
  · obtain ⟨v, rfl, q⟩ := dp1 h
    split at p
    · rename_i hy
      cases q with
      | lst hs hA =>
        have := ints_of hy hA
        subst this
        exact ⟨_, _, rfl, sql_ex eb hs, p _ B H (Ext.refl eb) (.int _)⟩
    · exact p.elim
  · exact p.elim
/-! ### is not True -/
def gNotB : D → D → R D
  | .bool i, .bool j => .ok (.bool (!decide (i = j)))
  | _, _ => .no
theorem notB_nx (d e : D) (x : Exn) : gNotB d e ≠ .ex x := by unfold gNotB; split <;> exact fun z => nomatch z
theorem sr_notB : SndR2 K rNotB gNotB := by
  refine ⟨fun B H x y d e Q eb hx hy p => ?_⟩
  unfold gNotB at p
  split at p
  · cases hx
    cases hy
    exact ⟨_, _, rfl, rfl, p _ B H (Ext.refl eb) (.bl _)⟩
  · exact p.elim
/-! ### new lists: xs + ys, xs[a:b] -/
def gAddL : D → D → R D
  | .list xs, .list ys => if xs.length + ys.length ≤ 100000 then .ok (.list (xs ++ ys)) else .no
  | _, _ => .no
def LPost (K : PySem.W.Frag) (mg : Str → Option Value) (W : WX) (σ : L2.St) (B H : Hp) (Q : VK) : R D → Prop
  | .ok d => ∀ (p : Addr) (vs : List V) (ds : List D) B' H', d = .list ds → Ext B H B' H' → H p = none → B' p = none → H' p = some (.lst vs) → DpAll K B' vs ds → Q (.ref p) H'
  | .ex e => ∀ cls dd B' H', Ext B H B' H' → XRep mg K B' e cls dd → W cls dd σ H'
  | .no => False
theorem LPost.more {σ : L2.St} {B H B1 H1 : Hp} {Q : VK} (x : Ext B H B1 H1) : ∀ {r : R D}, LPost K mg W σ B H Q r → LPost K mg W σ B1 H1 Q r
  | .ok _, h => fun p vs ds B2 H2 e x2 h0 hb h1 q => h p vs ds B2 H2 e (x.trans x2) (Evl.fresh_back x.h h0) hb h1 q
  | .ex _, h => fun cls dd B2 H2 x2 q => h cls dd B2 H2 (x.trans x2) q
  | .no, h => h
theorem SndE.bindL {t : TE} {f : Ev → R D} (h : SndE K mg W t f) {ga : Addr} {B0 H0 B H : Hp} {σ : L2.St} {s : Ev} {Q Q1 : VK} {g : D → R D} (e : ER K ga B0 H0 B H σ s) (p : LPost K mg W σ B H Q ((f s).bind g))
    (k : ∀ d v B1 H1, Ext B H B1 H1 → Dp K B1 v d → ER K ga B0 H0 B1 H1 σ s → LPost K mg W σ B1 H1 Q (g d) → Q1 v H1) : t σ H Q1 := by
  refine h.run ga B0 H0 B H σ s Q1 e ?_
  cases hf : f s with
  | ok d =>
    rw [hf] at p
    exact fun v B1 H1 x q => k d v B1 H1 x q (e.more x) (LPost.more x p)
  | ex y =>
    rw [hf] at p
    exact p
  | no =>
    rw [hf] at p
    exact (show False from p).elim
/-- a list that is laid as a new one -/
theorem LPost.new {σ : L2.St} {B H : Hp} {Q : VK} {ds : List D} {vs : List V} (eb : Ex B H) (p : LPost K mg W σ B H Q (.ok (.list ds))) (q : DpAll K B vs ds) : ∀ a, H a = none → Q (.ref a) (upd H a (.lst vs)) := fun a hn =>
  p a vs ds B _ rfl ((Ext.refl eb).side hn (ex_none eb hn)) hn (ex_none eb hn) upd_same q
theorem sl_add {ta tb : TE} {f g : Ev → R D} (ha : SndE K mg W ta f) (hb : SndE K mg W tb g) : SndL K mg W (tOp (rAddA K) ta tb) (fBin gAddL f g) := by
  refine ⟨fun ga B0 H0 B H σ s Q e p => ?_⟩
  refine ha.bindL e (show LPost K mg W σ B H Q _ from p) fun d v B1 H1 x1 q1 e1 p1 => ?_
  refine hb.bindL e1 p1 fun d2 v2 B2 H2 x2 q2 e2 p2 => ?_
  have q1' := Dp.ex x2.b _ _ q1
  cases q1' with
  | lst hs hA =>
    cases q2 with
    | lst hs2 hA2 =>
      rename_i _ _ xs _ _ ys
      replace p2 : LPost K mg W σ B2 H2 Q (if xs.length + ys.length ≤ 100000 then .ok (.list (xs ++ ys)) else .no) := p2
      split at p2
      · rename_i hz
        have l1 := DpAll.len hA
        have l2 := DpAll.len hA2
        exact .inr (.inr ⟨_, _, _, _, rfl, rfl, sql_ex e2.ext.s hs, sql_ex e2.ext.s hs2, sz100 (by omega), LPost.new e2.ext.s p2 (DpAll.append hA hA2)⟩)
      · exact (show False from p2).elim
    | _ => exact (show False from p2).elim
  | _ => exact (show False from p2).elim
def gCutL : D → Option Int → Option Int → R D
  | .list xs, lo, hi => .ok (.list (cutD xs lo hi))
  | _, _, _ => .no
def fSlL (f : Ev → R D) (l h : Ev → R (Option Int)) : Ev → R D := fun s => (f s).bind fun d => (l s).bind fun lo => (h s).bind fun hi => gCutL d lo hi
theorem SndO.bindL {t : TO} {f : Ev → R (Option Int)} (h : SndO K mg W t f) {ga : Addr} {B0 H0 B H : Hp} {σ : L2.St} {s : Ev} {Q : VK} {Q1 : Option Int → Hp → Prop} {g : Option Int → R D} (e : ER K ga B0 H0 B H σ s)
    (p : LPost K mg W σ B H Q ((f s).bind g)) (k : ∀ o B1 H1, Ext B H B1 H1 → ER K ga B0 H0 B1 H1 σ s → LPost K mg W σ B1 H1 Q (g o) → Q1 o H1) : t σ H Q1 := by
  refine h.run ga B0 H0 B H σ s Q1 e ?_
  cases hf : f s with
  | ok d =>
    rw [hf] at p
    exact fun B1 H1 x => k d B1 H1 x (e.more x) (LPost.more x p)
  | ex y =>
    rw [hf] at p
    exact p
  | no =>
    rw [hf] at p
    exact (show False from p).elim
theorem sl_cut {t : TE} {tl th : TO} {f : Ev → R D} {l h : Ev → R (Option Int)} (ha : SndE K mg W t f) (hl : SndO K mg W tl l) (hh : SndO K mg W th h) : SndL K mg W (tSl (rSlA K) t tl th) (fSlL f l h) := by
  refine ⟨fun ga B0 H0 B H σ s Q e p => ?_⟩
  refine ha.bindL e (show LPost K mg W σ B H Q _ from p) fun d v B1 H1 x1 q1 e1 p1 => ?_
  refine hl.bindL e1 p1 fun lo B2 H2 x2 e2 p2 => ?_
  refine hh.bindL e2 p2 fun hi B3 H3 x3 e3 p3 => ?_
  have q3 := Dp.ex (x2.b.trans x3.b) _ _ q1
  cases q3 with
  | lst hs hA => exact .inl ⟨_, _, rfl, sql_ex e3.ext.s hs, LPost.new e3.ext.s p3 (cut_of hA)⟩
  | _ => exact (show False from p3).elim
/-- an own list lent to a test: behind it the baseline is the old one again -/
def bLend (i : Nat) (f : Ev → R Bool) : Ev → R Bool := fun s => match s[i]? with
  | some (.o ds) => match f (s.set i (.v (.list ds))) with
    | .ok b => .ok b
    | _ => .no
  | _ => f s
theorem snd_lend {i : Nat} {t : TT} {f : Ev → R Bool} (h : SndT K mg W t f) : SndT K mg W t (bLend i f) := by
  refine ⟨fun ga B0 H0 B H σ s Q e p => ?_⟩
  unfold bLend at p
  cases hi : s[i]? with
  | none =>
    rw [hi] at p
    exact h.run ga B0 H0 B H σ s Q e p
  | some en =>
    rw [hi] at p
    cases en with
    | un => exact h.run ga B0 H0 B H σ s Q e p
    | m ds => exact h.run ga B0 H0 B H σ s Q e p
    | x a => exact h.run ga B0 H0 B H σ s Q e p
    | v d => exact h.run ga B0 H0 B H σ s Q e p
    | o ds =>
      obtain ⟨B1, e1, x1⟩ := e.drop hi
      refine h.run ga B0 H0 B1 H σ _ Q e1 ?_
      cases hf : f (s.set i (.v (.list ds))) with
      | ok b =>
        replace p : match (match f (s.set i (.v (.list ds))) with | .ok b => R.ok b | _ => .no) with
          | .ok b => ∀ B' H', Ext B H B' H' → Q b H'
          | .ex e => ∀ cls dd B' H', Ext B H B' H' → XRep mg K B' e cls dd → W cls dd σ H'
          | .no => False := p
        rw [hf] at p
        exact fun B2 H2 x2 => p B H2 ⟨Ex.refl B, x2.h, e.ext.s.trans x2.h, fun _ _ _ n => n⟩
      | ex _ =>
        replace p : match (match f (s.set i (.v (.list ds))) with | .ok b => R.ok b | _ => .no) with
          | .ok b => ∀ B' H', Ext B H B' H' → Q b H'
          | .ex e => ∀ cls dd B' H', Ext B H B' H' → XRep mg K B' e cls dd → W cls dd σ H'
          | .no => False := p
        rw [hf] at p
        exact (show False from p).elim
      | no =>
        replace p : match (match f (s.set i (.v (.list ds))) with | .ok b => R.ok b | _ => .no) with
          | .ok b => ∀ B' H', Ext B H B' H' → Q b H'
          | .ex e => ∀ cls dd B' H', Ext B H B' H' → XRep mg K B' e cls dd → W cls dd σ H'
          | .no => False := p
        rw [hf] at p
        exact (show False from p).elim
end
section
variable {X : Cx} {W : WX} {p pos : Pos} {e a b c : Expr} {es : List Expr} {ta tb tc : TE} {tA : TA} {f g h : Ev → R D} {fA : Ev → R (List D)} {op op' : CmpOp} {r r' : R2} {o o' : D → D → R D}
theorem j_chain (ho : OpR X (compareOp op) r) (ho' : OpR X (compareOp op') r') (sr : SndR2 X.K r o) (sr' : SndR2 X.K r' o') (no' : ∀ d e x, o' d e ≠ .ex x) (ha : JE X W a ta f) (hb : JE X W b tb g) (hc : JE X W c tc h) (hm : lastMarks [op, op'] [b, c] = false := by with_unfolding_all rfl) :
    JE X W (.Compare a [op, op'] [b, c] pos) (tChain r r' ta tb tc) (fChain o o' f g h) := ⟨pe_chain ho ho' ha.pe hb.pe hc.pe hm, snd_chain sr sr' no' ha.sd hb.sd hc.sd⟩
theorem t_chain (ho : OpR X (compareOp op) r) (ho' : OpR X (compareOp op') r') (sr : SndR2 X.K r o) (sr' : SndR2 X.K r' o') (no' : ∀ d e x, o' d e ≠ .ex x) (ha : JE X W a ta f) (hb : JE X W b tb g) (hc : JE X W c tc h) (hm : lastMarks [op, op'] [b, c] = false := by with_unfolding_all rfl) :
    JT X W (.Compare a [op, op'] [b, c] pos) (tTest (tChain r r' ta tb tc)) (bVal (fChain o o' f g h)) := ⟨pt_chain ho ho' ha.pe hb.pe hc.pe hm, snd_test (snd_chain sr sr' no' ha.sd hb.sd hc.sd)⟩
theorem j_sum {Kk : PySem.W.Frag} (hc : X.calm = true) (hm : X.mg "sum" = none) (ha : JA X W (e :: es) tA fA) (hg : Gl X "sum" := by rfl) (he : starEach (e :: es) X.env = (false, eval e X.env) :: starEach es X.env := by rfl) (hpl : (backTo pos (starEach es X.env)).any (·.1) = false := by rfl) (hK : X.K = Kk := by rfl) :
    JE X W (.Call (.Name "sum" p) (e :: es) [] pos) (tCB (rSum Kk) tA) (fCall gSum fA) := by
  subst hK
  exact ⟨pe_callB (cr_sum hc) hg hm (by decide +kernel) ha.pe (by decide) (by decide) he hpl, snd_cb sr_sum sum_nx ha.sd⟩
theorem j_notB (ha : JE X W a ta f) (hb : JE X W b tb g) : JE X W (.Compare a [.IsNot] [b] pos) (tOp rNotB ta tb) (fBin gNotB f g) := ⟨pe_cmpR op_notBl ha.pe hb.pe (nomark _), snd_bin sr_notB notB_nx ha.sd hb.sd⟩
theorem t_notB (ha : JE X W a ta f) (hb : JE X W b tb g) : JT X W (.Compare a [.IsNot] [b] pos) (tTest (tOp rNotB ta tb)) (bVal (fBin gNotB f g)) := t_cmp (j_notB ha hb) op_notBl ha.pe hb.pe (nomark _)
theorem l_add {Kk : PySem.W.Frag} (ha : JE X W a ta f) (hb : JE X W b tb g) (hK : X.K = Kk := by rfl) : JL X W (.BinOp a .Add b pos) (tOp (rAddA Kk) ta tb) (fBin gAddL f g) := by
  subst hK
  exact ⟨pe_op op_addA ha.pe hb.pe, sl_add ha.sd hb.sd⟩
theorem l_sl {Kk : PySem.W.Frag} {lo hi : Option Expr} {tl th : TO} {l h : Ev → R (Option Int)} {p2 : Pos} (ha : JE X W e ta f) (hl : JO X W lo tl l) (hh : JO X W hi th h) (hK : X.K = Kk := by rfl) : JL X W (.Subscript e (.Slice lo hi none p2) pos) (tSl (rSlA Kk) ta tl th) (fSlL f l h) := by
  subst hK
  exact ⟨pe_slice sl_all ha.pe hl.pe hh.pe, sl_cut ha.sd hl.sd hh.sd⟩
theorem t_lend (i : Nat) {t : TT} {b : Ev → R Bool} (hb : JT X W e t b) : JT X W e t (bLend i b) := ⟨hb.pe, snd_lend hb.sd⟩
end
end Sf

namespace Sf
open PySem PySem.Spec PyProof.Rows L2
open Evl (Ex)

/-! ### a def that hands out a new list -/
def runL (m : Nat) (G : Ev → Fl) : List D → R (List D) := fun ds => match G (ds.map En.v ++ List.replicate (m - ds.length) En.un) with
  | .rl es => .ok es
  | .ex e _ => .ex e
  | _ => .no
def spL (K : PySem.W.Frag) (mg : Str → Option Value) (n : Nat) (F : List D → R (List D)) : Sp := fun vs H Q E => vs.length = n ∧ ∃ B ds, Ex B H ∧ DpAll K B vs ds ∧ (match F ds with
  | .ok es => ∀ (p : Addr) (ws : List V) B' H', Ext B H B' H' → H p = none → B' p = none → H' p = some (.lst ws) → DpAll K B' ws es → Q (.ref p) H'
  | .ex e => ∀ cls dd B' H', Ext B H B' H' → XRep mg K B' e cls dd → E cls dd H'
  | .no => False)
section
variable {K : PySem.W.Frag} {mg : Str → Option Value}
theorem runL_ends {B H : Hp} {Q : VK} {E : XK} {N : List Str} {ds : List D} {G : Ev → Fl} (p : match runL N.length G ds with
      | .ok es => ∀ (p : Addr) (ws : List V) B' H', Ext B H B' H' → H p = none → B' p = none → H' p = some (.lst ws) → DpAll K B' ws es → Q (.ref p) H'
      | .ex e => ∀ cls dd B' H', Ext B H B' H' → XRep mg K B' e cls dd → E cls dd H'
      | .no => False) : SPost K mg (fun c d _ H => E c d H) ga B H { nx := fun _ H' => Q .non H', rt := Q } (G (ds.map En.v ++ List.replicate (N.length - ds.length) En.un)) := by
  unfold runL at p
  cases hg : G (ds.map En.v ++ List.replicate (N.length - ds.length) En.un) with
  | rl es =>
    rw [hg] at p
    exact p
  | ex y s =>
    rw [hg] at p
    exact fun cls dd B1 H1 σ e q => p cls dd B1 H1 e.ext q
  | nx s =>
    rw [hg] at p
    exact (show False from p).elim
  | rt d =>
    rw [hg] at p
    exact (show False from p).elim
  | bk s =>
    rw [hg] at p
    exact (show False from p).elim
  | rm d es =>
    rw [hg] at p
    exact (show False from p).elim
  | ct s =>
    rw [hg] at p
    exact (show False from p).elim
  | no =>
    rw [hg] at p
    exact (show False from p).elim
def fCallL (F : List D → R (List D)) (fA : Ev → R (List D)) : Ev → R D := fun s => (fA s).bind fun ds => (F ds).bind fun es => .ok (.list es)
theorem snd_callL {W : WX} {tA : TA} {fA : Ev → R (List D)} {n : Nat} {F : List D → R (List D)} (hn : ∀ s ds, fA s = .ok ds → ds.length = n) (h : SndA K mg W tA fA) : SndL K mg W (tCallSD (spL K mg n F) [] (fun σ c d H => W c d σ H) tA) (fCallL F fA) := by
  refine ⟨fun ga B0 H0 B H σ s Q e p => h.run ga B0 H0 B H σ s _ e ?_⟩
  unfold fCallL at p
  cases hf : fA s with
  | ex y =>
    rw [hf] at p
    exact p
  | no =>
    rw [hf] at p
    exact p
  | ok ds =>
    rw [hf] at p
    intro vs B1 H1 x1 q1
    refine ⟨?_, B1, ds, (e.more x1).ext.s, by rw [List.append_nil]; exact q1, ?_⟩
    · rw [List.append_nil, DpAll.len q1]
      exact hn s ds hf
    · replace p : LPost K mg W σ B H Q ((F ds).bind fun es => .ok (.list es)) := p
      cases hF : F ds with
      | ok es =>
        rw [hF] at p
        exact fun a ws B2 H2 x2 h0 hb h1 q2 => p a ws es B2 H2 rfl (x1.trans x2) (Evl.fresh_back x1.h h0) hb h1 q2
      | ex y =>
        rw [hF] at p
        exact fun cls dd B2 H2 x2 r => p cls dd B2 H2 (x1.trans x2) r
      | no =>
        rw [hF] at p
        exact p
end
section
variable {P : Program} {w : World} {K : PySem.W.Frag} {mg : Str → Option Value} {base : Heap}
theorem def_okL {x qual : Str} {st : Stmt} {f : Addr} {fd : FuncData} {N ps : List Str} {k : Nat} {G : Ev → Fl} {F : List D → R (List D)} (Fn : Fun K x qual st f fd) (S : FnScope N ps (defScope st)) (hF : runL N.length G = F)
    (body : ∀ (cdv : Value) (A : Around) (outer : List Env) (s : Shared) (H : Hp) (E : XK) (X : Cx), X = cxOf (L2N.CX P w) P w K mg base N qual (defScope st) f cdv A outer s H E → Room k X.A → PassesOwn (model X.prog X.w) X.A X.env X.xe → L2N.Takes X (fun c d _ H => E c d H) →
      ∃ t, JSs (cxOf (L2N.CX P w) P w K mg base N qual (defScope st) f cdv A outer s H E) (fun c d _ H => E c d H) (defBody st) t G) : FnOk P w K mg base (L2N.CX P w) (k + 1) f fd ps (spL K mg ps.length F) := by
  refine okN Fn S (fun vs H Q E h => h.1) fun cdv A outer s H vs Q E hr h => ?_
  obtain ⟨hl, B, ds, eb, hd, p⟩ := h
  subst hF
  obtain ⟨t, J⟩ := body cdv A outer s H E _ rfl hr (passes_of rfl) (L2N.takes_of rfl rfl rfl rfl)
  exact ⟨t, J.pe, J.sd.run 0 B H B H (L2.start N vs) _ _ (er_start (N := N) eb hd) (runL_ends (N := N) p)⟩
end
section
variable {X : Cx} {W : WX} {x : Str} {p pos : Pos} {e : Expr} {es : List Expr} {te : TE} {tA : TA} {f : Ev → R D} {fA : Ev → R (List D)} {k n : Nat} {fa : Addr} {fd : FuncData} {ps : List Str} {F : List D → R (List D)}
theorem s_retL (h : JL X W e te f) : JS X W (.Return (some e) pos) (tRet te) (gRetL f) := ⟨ps_ret h.pe, snd_retL h.sd⟩
theorem s_retO (i : Nat) {x : Str} {px : Pos} (hN : X.N[i]? = some x := by rfl) (hv : Vis X.env.scope x := by first | exact Or.inl rfl | exact Or.inr (Or.inl rfl) | exact Or.inr (Or.inr rfl)) (hd : (x == ("__debug__" : Str)) = false := by decide) (hcd : (x == ("__classdict__" : Str)) = false := by decide) :
    JS X W (.Return (some (.Name x px)) pos) (tRet (tVar i)) (gRetO i) := ⟨ps_ret (pe_var hN hv hd hcd), snd_retO⟩
theorem l_call (tk : L2N.Takes X W) (G : FnOk X.prog X.w X.K X.mg X.base (L2N.CX X.prog X.w) k fa fd ps (spL X.K X.mg n F)) (hr : Room k X.A) (hm : X.mg x = some (.ref fa)) (hk : PySem.W.keepIn X.K (.ref fa) = true) (hb : Binds X.K fd ps []) (ha : JA X W (e :: es) tA fA) (hn : ∀ s ds, fA s = .ok ds → ds.length = n) (hg : Gl X x := by rfl) (hdb : (x == ("__debug__" : Str)) = false := by decide)
    (he : starEach (e :: es) X.env = (false, eval e X.env) :: starEach es X.env := by rfl) (hpl : (backTo pos (starEach es X.env)).any (·.1) = false := by rfl) : JL X W (.Call (.Name x p) (e :: es) [] pos) (tCallSD (spL X.K X.mg n F) [] (fun σ c d H => W c d σ H) tA) (fCallL F fA) :=
  ⟨pe_callSD G hr hg hm hk hb .nil (fun σ => L2N.passAt tk σ) ha.pe hdb he hpl, snd_callL hn ha.sd⟩
end
end Sf

namespace Sf
open PySem PySem.Spec PyProof.Rows L2
open Evl (Ex)

/-! ### two or three names at once -/
def gPar (i j : Nat) (fA : Ev → R (List D)) : Ev → Fl := fun s => xf s (fA s) fun
  | [d, e] => .nx ((s.set i (.v d)).set j (.v e))
  | _ => .no
def gPar3 (i j l : Nat) (fA : Ev → R (List D)) : Ev → Fl := fun s => xf s (fA s) fun
  | [c, d, e] => .nx (((s.set i (.v c)).set j (.v d)).set l (.v e))
  | _ => .no
section
variable {K : PySem.W.Frag} {mg : Str → Option Value} {W : WX}
theorem SndA.stm {t : TA} {f : Ev → R (List D)} (h : SndA K mg W t f) {ga : Addr} {B0 H0 B H : Hp} {σ : L2.St} {s : Ev} {E : Ends} {Q1 : List V → Hp → Prop} {k : List D → Fl} (e : ER K ga B0 H0 B H σ s)
    (p : SPost K mg W ga B0 H0 E (xf s (f s) k)) (q : ∀ ds vs B1 H1, f s = .ok ds → Ext B H B1 H1 → DpAll K B1 vs ds → ER K ga B0 H0 B1 H1 σ s → SPost K mg W ga B0 H0 E (k ds) → Q1 vs H1) : t σ H Q1 := by
  refine h.run ga B0 H0 B H σ s Q1 e ?_
  cases hf : f s with
  | ok d =>
    rw [hf] at p
    exact fun v B1 H1 x r => q d v B1 H1 hf x r (e.more x) p
  | ex y =>
    rw [hf] at p
    exact fun cls dd B1 H1 x r => p cls dd B1 H1 σ (e.more x) r
  | no =>
    rw [hf] at p
    exact p.elim
theorem snd_par {i j : Nat} {tA : TA} {fA : Ev → R (List D)} (h : SndA K mg W tA fA) : SndS K mg W (tPar i j tA) (gPar i j fA) := by
  refine ⟨fun ga B0 H0 B H σ s E e p => ?_⟩
  refine h.stm e p fun ds vs B1 H1 _ x q e1 p1 => ?_
  split at p1
  · cases q with
    | cons q1 q' =>
      cases q' with
      | cons q2 q'' =>
        cases q''
        exact ⟨_, _, rfl, p1 B1 H1 _ ((e1.set q1).set q2)⟩
  · exact p1.elim
theorem snd_par3 {i j l : Nat} {tA : TA} {fA : Ev → R (List D)} (h : SndA K mg W tA fA) : SndS K mg W (tPar3 i j l tA) (gPar3 i j l fA) := by
  refine ⟨fun ga B0 H0 B H σ s E e p => ?_⟩
  refine h.stm e p fun ds vs B1 H1 _ x q e1 p1 => ?_
  split at p1
  · cases q with
    | cons q1 q' =>
      cases q' with
      | cons q2 q'' =>
        cases q'' with
        | cons q3 q4 =>
          cases q4
          exact ⟨_, _, _, rfl, p1 B1 H1 _ (((e1.set q1).set q2).set q3)⟩
  · exact p1.elim
end
section
variable {X : Cx} {W : WX}
theorem s_par (i j : Nat) {x y : Str} {a b : Expr} {tA : TA} {fA : Ev → R (List D)} {px py pt pos : Pos} {kt k2 : Nat} {pt2 : Pos} (hc : X.calm = true) (hN : X.N.Nodup) (ha : JA X W [a, b] tA fA) (hi : X.N[i]? = some x := by rfl) (hj : X.N[j]? = some y := by rfl) (hij : i ≠ j := by decide)
    (hx : X.env.scope.names.lookup x = some .local := by rfl) (hy : X.env.scope.names.lookup y = some .local := by rfl)
    (hw : swappedStores [.Tuple [.Name x px, .Name y py] kt pt] (.Tuple [a, b] k2 pt2) X.env = pure (some [x, y]) := by rfl)
    (hs : swapsWithSole [.Tuple [.Name x px, .Name y py] kt pt] (.Tuple [a, b] k2 pt2) pos.line X.env = pure false := by rfl) :
    JS X W (.Assign [.Tuple [.Name x px, .Name y py] kt pt] (.Tuple [a, b] k2 pt2) pos) (tPar i j tA) (gPar i j fA) := ⟨ps_par hc hN hi hj hij hx hy ha.pe hw hs, snd_par ha.sd⟩
theorem s_par3 (i j l : Nat) {x y z : Str} {a b c : Expr} {tA : TA} {fA : Ev → R (List D)} {px py pz pt pos : Pos} {kt k2 : Nat} {pt2 : Pos} (hc : X.calm = true) (hN : X.N.Nodup) (ha : JA X W [a, b, c] tA fA) (hi : X.N[i]? = some x := by rfl) (hj : X.N[j]? = some y := by rfl) (hl : X.N[l]? = some z := by rfl)
    (hij : i ≠ j := by decide) (hil : i ≠ l := by decide) (hjl : j ≠ l := by decide)
    (hx : X.env.scope.names.lookup x = some .local := by rfl) (hy : X.env.scope.names.lookup y = some .local := by rfl) (hz : X.env.scope.names.lookup z = some .local := by rfl)
    (hw : swappedStores [.Tuple [.Name x px, .Name y py, .Name z pz] kt pt] (.Tuple [a, b, c] k2 pt2) X.env = pure (some [x, y, z]) := by rfl)
    (hs : swapsWithSole [.Tuple [.Name x px, .Name y py, .Name z pz] kt pt] (.Tuple [a, b, c] k2 pt2) pos.line X.env = pure false := by rfl) :
    JS X W (.Assign [.Tuple [.Name x px, .Name y py, .Name z pz] kt pt] (.Tuple [a, b, c] k2 pt2) pos) (tPar3 i j l tA) (gPar3 i j l fA) := ⟨ps_par3 hc hN hi hj hl hij hil hjl hx hy hz ha.pe hw hs, snd_par3 ha.sd⟩
end
end Sf

namespace Sf
open PySem PySem.Spec PyProof.Rows L2
open Evl (Ex)

/-! ### expressions that change a list that is handed about -/
abbrev RX (α : Type) := R (α × Ev)
section
variable (K : PySem.W.Frag)
/-- what the expression gives, and the slots behind it -/
def XPost (ga : Addr) (B0 H0 B : Hp) (σ : L2.St) (Q : VK) : RX D → Prop
  | .ok (d, s') => ∀ v B' H', Ex B B' → ER K ga B0 H0 B' H' σ s' → Dp K B' v d → Q v H'
  | _ => False
def XAPost (ga : Addr) (B0 H0 B : Hp) (σ : L2.St) (Q : List V → Hp → Prop) : RX (List D) → Prop
  | .ok (ds, s') => ∀ vs B' H', Ex B B' → ER K ga B0 H0 B' H' σ s' → DpAll K B' vs ds → Q vs H'
  | _ => False
def XTPost (ga : Addr) (B0 H0 B : Hp) (σ : L2.St) (Q : Bool → Hp → Prop) : RX Bool → Prop
  | .ok (b, s') => ∀ B' H', Ex B B' → ER K ga B0 H0 B' H' σ s' → Q b H'
  | _ => False
structure SndX (t : TE) (f : Ev → RX D) : Prop where
  run : ∀ ga B0 H0 B H σ s Q, ER K ga B0 H0 B H σ s → XPost K ga B0 H0 B σ Q (f s) → t σ H Q
structure SndXA (t : TA) (f : Ev → RX (List D)) : Prop where
  run : ∀ ga B0 H0 B H σ s Q, ER K ga B0 H0 B H σ s → XAPost K ga B0 H0 B σ Q (f s) → t σ H Q
structure SndXT (t : TT) (f : Ev → RX Bool) : Prop where
  run : ∀ ga B0 H0 B H σ s Q, ER K ga B0 H0 B H σ s → XTPost K ga B0 H0 B σ Q (f s) → t σ H Q
end
def xE {α : Type} (f : Ev → R α) : Ev → RX α := fun s => match f s with
  | .ok d => .ok (d, s)
  | _ => .no
def xBin (o : D → D → R D) (f g : Ev → RX D) : Ev → RX D := fun s => match f s with
  | .ok (x, s1) => match g s1 with
    | .ok (y, s2) => match o x y with
      | .ok z => .ok (z, s2)
      | _ => .no
    | _ => .no
  | _ => .no
def xUn (o : D → R D) (f : Ev → RX D) : Ev → RX D := fun s => match f s with
  | .ok (x, s1) => match o x with
    | .ok z => .ok (z, s1)
    | _ => .no
  | _ => .no
def xNil : Ev → RX (List D) := fun s => .ok ([], s)
def xCons (f : Ev → RX D) (g : Ev → RX (List D)) : Ev → RX (List D) := fun s => match f s with
  | .ok (x, s1) => match g s1 with
    | .ok (xs, s2) => .ok (x :: xs, s2)
    | _ => .no
  | _ => .no
def xCall (o : List D → R D) (g : Ev → RX (List D)) : Ev → RX D := fun s => match g s with
  | .ok (xs, s1) => match o xs with
    | .ok z => .ok (z, s1)
    | _ => .no
  | _ => .no
def xTup (g : Ev → RX (List D)) : Ev → RX D := fun s => match g s with
  | .ok (xs, s1) => if xs.length ≤ 100000 then .ok (.tuple xs, s1) else .no
  | _ => .no
def xVal (f : Ev → RX D) : Ev → RX Bool := fun s => match f s with
  | .ok (.bool b, s1) => .ok (b, s1)
  | _ => .no
section
variable {K : PySem.W.Frag} {mg : Str → Option Value} {W : WX}
theorem XPost.more {ga : Addr} {B0 H0 B B1 : Hp} {σ : L2.St} {Q : VK} (x : Ex B B1) : ∀ {r : RX D}, XPost K ga B0 H0 B σ Q r → XPost K ga B0 H0 B1 σ Q r
  | .ok (_, _), h => fun v B' H' y e q => h v B' H' (x.trans y) e q
  | .ex _, h => h
  | .no, h => h
theorem XAPost.more {ga : Addr} {B0 H0 B B1 : Hp} {σ : L2.St} {Q : List V → Hp → Prop} (x : Ex B B1) : ∀ {r : RX (List D)}, XAPost K ga B0 H0 B σ Q r → XAPost K ga B0 H0 B1 σ Q r
  | .ok (_, _), h => fun v B' H' y e q => h v B' H' (x.trans y) e q
  | .ex _, h => h
  | .no, h => h
theorem SndE.x {t : TE} {f : Ev → R D} (h : SndE K mg W t f) : SndX K t (xE f) := by
  refine ⟨fun ga B0 H0 B H σ s Q e p => h.run ga B0 H0 B H σ s Q e ?_⟩
  unfold xE at p
  cases hf : f s with
  | ok d =>
    rw [hf] at p
    exact fun v B1 H1 x q => p v B1 H1 x.b (e.more x) q
  | ex _ =>
    rw [hf] at p
    exact p.elim
  | no =>
    rw [hf] at p
    exact p.elim
theorem SndA.x {t : TA} {f : Ev → R (List D)} (h : SndA K mg W t f) : SndXA K t (xE f) := by
  refine ⟨fun ga B0 H0 B H σ s Q e p => h.run ga B0 H0 B H σ s Q e ?_⟩
  unfold xE at p
  cases hf : f s with
  | ok d =>
    rw [hf] at p
    exact fun v B1 H1 x q => p v B1 H1 x.b (e.more x) q
  | ex _ =>
    rw [hf] at p
    exact p.elim
  | no =>
    rw [hf] at p
    exact p.elim
theorem SndT.x {t : TT} {f : Ev → R Bool} (h : SndT K mg W t f) : SndXT K t (xE f) := by
  refine ⟨fun ga B0 H0 B H σ s Q e p => h.run ga B0 H0 B H σ s Q e ?_⟩
  unfold xE at p
  cases hf : f s with
  | ok d =>
    rw [hf] at p
    exact fun B1 H1 x => p B1 H1 x.b (e.more x)
  | ex _ =>
    rw [hf] at p
    exact p.elim
  | no =>
    rw [hf] at p
    exact p.elim
/-- an operation's answer, behind effects -/
theorem OPost.x {ga : Addr} {B0 H0 B B1 H1 : Hp} {σ : L2.St} {s1 : Ev} {Q : VK} {r : R D} (x : Ex B B1) (e : ER K ga B0 H0 B1 H1 σ s1)
    (p : XPost K ga B0 H0 B σ Q (match r with | .ok z => .ok (z, s1) | _ => .no)) : OPost K B1 H1 Q r := by
  cases r with
  | ok z => exact fun v B2 H2 y q => p v B2 H2 (x.trans y.b) (e.more y) q
  | ex _ => exact p.elim
  | no => exact p.elim
theorem sx_bin {r : R2} {o : D → D → R D} {ta tb : TE} {f g : Ev → RX D} (hr : SndR2 K r o) (ha : SndX K ta f) (hb : SndX K tb g) : SndX K (tOp r ta tb) (xBin o f g) := by
  refine ⟨fun ga B0 H0 B H σ s Q e p => ha.run ga B0 H0 B H σ s _ e ?_⟩
  unfold xBin at p
  cases hf : f s with
  | ok z =>
    obtain ⟨x, s1⟩ := z
    rw [hf] at p
    intro v B1 H1 x1 e1 q1
    refine hb.run ga B0 H0 B1 H1 σ s1 _ e1 ?_
    replace p : XPost K ga B0 H0 B σ Q (match g s1 with | .ok (y, s2) => (match o x y with | .ok z => .ok (z, s2) | _ => .no) | _ => .no) := p
    cases hg : g s1 with
    | ok z =>
      obtain ⟨y, s2⟩ := z
      rw [hg] at p
      intro w B2 H2 x2 e2 q2
      exact hr.run B2 H2 v w x y Q e2.ext.s (Dp.ex x2 _ _ q1) q2 (OPost.x (x1.trans x2) e2 p)
    | ex _ =>
      rw [hg] at p
      exact p.elim
    | no =>
      rw [hg] at p
      exact p.elim
  | ex _ =>
    rw [hf] at p
    exact p.elim
  | no =>
    rw [hf] at p
    exact p.elim
theorem sx_un {r : V → Hp → VK → Prop} {o : D → R D} {ta : TE} {f : Ev → RX D} (hr : SndR1 K r o) (ha : SndX K ta f) : SndX K (tUn r ta) (xUn o f) := by
  refine ⟨fun ga B0 H0 B H σ s Q e p => ha.run ga B0 H0 B H σ s _ e ?_⟩
  unfold xUn at p
  cases hf : f s with
  | ok z =>
    obtain ⟨x, s1⟩ := z
    rw [hf] at p
    exact fun v B1 H1 x1 e1 q1 => hr.run B1 H1 v x Q e1.ext.s q1 (OPost.x x1 e1 p)
  | ex _ =>
    rw [hf] at p
    exact p.elim
  | no =>
    rw [hf] at p
    exact p.elim
theorem sx_nil : SndXA K tNil xNil := ⟨fun ga B0 H0 B H σ s Q e p => p [] B H (Ex.refl B) e .nil⟩
theorem sx_cons {ta : TE} {tr : TA} {f : Ev → RX D} {g : Ev → RX (List D)} (ha : SndX K ta f) (hr : SndXA K tr g) : SndXA K (tCons ta tr) (xCons f g) := by
  refine ⟨fun ga B0 H0 B H σ s Q e p => ha.run ga B0 H0 B H σ s _ e ?_⟩
  unfold xCons at p
  cases hf : f s with
  | ok z =>
    obtain ⟨x, s1⟩ := z
    rw [hf] at p
    intro v B1 H1 x1 e1 q1
    refine hr.run ga B0 H0 B1 H1 σ s1 _ e1 ?_
    replace p : XAPost K ga B0 H0 B σ Q (match g s1 with | .ok (xs, s2) => .ok (x :: xs, s2) | _ => .no) := p
    cases hg : g s1 with
    | ok z =>
      obtain ⟨xs, s2⟩ := z
      rw [hg] at p
      exact fun ws B2 H2 x2 e2 q2 => p (v :: ws) B2 H2 (x1.trans x2) e2 (.cons (Dp.ex x2 _ _ q1) q2)
    | ex _ =>
      rw [hg] at p
      exact p.elim
    | no =>
      rw [hg] at p
      exact p.elim
  | ex _ =>
    rw [hf] at p
    exact p.elim
  | no =>
    rw [hf] at p
    exact p.elim
theorem sx_cb {r : List V → Hp → VK → Prop} {o : List D → R D} {ta : TA} {g : Ev → RX (List D)} (hr : SndRL K r o) (h : SndXA K ta g) : SndX K (tCB r ta) (xCall o g) := by
  refine ⟨fun ga B0 H0 B H σ s Q e p => h.run ga B0 H0 B H σ s _ e ?_⟩
  unfold xCall at p
  cases hf : g s with
  | ok z =>
    obtain ⟨xs, s1⟩ := z
    rw [hf] at p
    exact fun vs B1 H1 x1 e1 q1 => hr.run B1 H1 vs xs Q e1.ext.s q1 (OPost.x x1 e1 p)
  | ex _ =>
    rw [hf] at p
    exact p.elim
  | no =>
    rw [hf] at p
    exact p.elim
theorem sx_tup {ta : TA} {g : Ev → RX (List D)} (h : SndXA K ta g) : SndX K (tTup ta) (xTup g) := by
  refine ⟨fun ga B0 H0 B H σ s Q e p => h.run ga B0 H0 B H σ s _ e ?_⟩
  unfold xTup at p
  cases hf : g s with
  | ok z =>
    obtain ⟨xs, s1⟩ := z
    rw [hf] at p
    intro vs B1 H1 x1 e1 q1
    replace p : XPost K ga B0 H0 B σ Q (if xs.length ≤ 100000 then .ok (.tuple xs, s1) else .no) := p
    split at p
    · rename_i hz
      refine ⟨sz100 (by rw [DpAll.len q1]; exact hz), fun a hn => ?_⟩
      have hb : B1 a = none := ex_none e1.ext.s hn
      have nw : Ext B1 H1 (upd B1 a (.tup vs)) (upd H1 a (.tup vs)) := (Ext.refl e1.ext.s).new hn
      exact p (.ref a) _ _ (x1.trans nw.b) (e1.more nw) (.tup (SqT.of upd_same) (DpAll.ex nw.b _ _ q1))
    · exact p.elim
  | ex _ =>
    rw [hf] at p
    exact p.elim
  | no =>
    rw [hf] at p
    exact p.elim
theorem sx_callD {tA : TA} {fA : Ev → RX (List D)} {n : Nat} {F : List D → R D} (hn : ∀ s ds s', fA s = .ok (ds, s') → ds.length = n) (h : SndXA K tA fA) : SndX K (tCallSD (spD K mg n F) [] (fun σ c d H => W c d σ H) tA) (xCall F fA) := by
  refine ⟨fun ga B0 H0 B H σ s Q e p => h.run ga B0 H0 B H σ s _ e ?_⟩
  unfold xCall at p
  cases hf : fA s with
  | ok z =>
    obtain ⟨xs, s1⟩ := z
    rw [hf] at p
    intro vs B1 H1 x1 e1 q1
    refine ⟨?_, B1, xs, e1.ext.s, by rw [List.append_nil]; exact q1, ?_⟩
    · rw [List.append_nil, DpAll.len q1]
      exact hn s xs s1 hf
    · replace p := OPost.x (r := F xs) x1 e1 p
      cases hF : F xs with
      | ok d =>
        rw [hF] at p
        exact p
      | ex _ =>
        rw [hF] at p
        exact p.elim
      | no =>
        rw [hF] at p
        exact p.elim
  | ex _ =>
    rw [hf] at p
    exact p.elim
  | no =>
    rw [hf] at p
    exact p.elim
theorem sx_test {ta : TE} {f : Ev → RX D} (h : SndX K ta f) : SndXT K (tTest ta) (xVal f) := by
  refine ⟨fun ga B0 H0 B H σ s Q e p => h.run ga B0 H0 B H σ s _ e ?_⟩
  unfold xVal at p
  cases hf : f s with
  | ok z =>
    obtain ⟨d, s1⟩ := z
    rw [hf] at p
    intro v B1 H1 x1 e1 q1
    cases q1 with
    | bl b => exact ⟨b, rfl, p B1 H1 x1 e1⟩
    | _ => exact p.elim
  | ex _ =>
    rw [hf] at p
    exact p.elim
  | no =>
    rw [hf] at p
    exact p.elim
/-! ### statements with such expressions -/
def gAsgX (f : Ev → RX D) (tg : D → Ev → R Ev) : Ev → Fl := fun s => match f s with
  | .ok (d, s1) => match tg d s1 with
    | .ok s2 => .nx s2
    | _ => .no
  | _ => .no
def gRetX (f : Ev → RX D) : Ev → Fl := fun s => match f s with
  | .ok (d, _) => .rt d
  | _ => .no
/-- a return of a def that changes what it was handed, in slot j -/
def gRetM (j : Nat) (f : Ev → RX D) : Ev → Fl := fun s => match f s with
  | .ok (d, s1) => match s1[j]? with
    | some (.m ds) => .rm d ds
    | _ => .no
  | _ => .no
def gIfX (c : Ev → RX Bool) (f g : Ev → Fl) : Ev → Fl := fun s => match c s with
  | .ok (b, s1) => if b = true then f s1 else g s1
  | _ => .no
def isOwn : Ev → Nat → Bool := fun s i => match s[i]? with
  | some (.o _) => true
  | _ => false
def gAppX (i : Nat) (f : Ev → RX D) : Ev → Fl := fun s => if isOwn s i = true then match f s with
  | .ok (d, s1) => match s1[i]? with
    | some (.o ds) => if ds.length < 100000 then .nx (s1.set i (.o (ds ++ [d]))) else .no
    | _ => .no
  | _ => .no
  else .no
def gDropX (f : Ev → RX D) : Ev → Fl := fun s => match f s with
  | .ok (_, s1) => .nx s1
  | _ => .no
theorem sx_asg {t : TE} {f : Ev → RX D} {g : TG} {tg : D → Ev → R Ev} (h : SndX K t f) (hg : SndG K g tg) : SndS K mg W (tAsg t g) (gAsgX f tg) := by
  refine ⟨fun ga B0 H0 B H σ s E e p => h.run ga B0 H0 B H σ s _ e ?_⟩
  unfold gAsgX at p
  cases hf : f s with
  | ok z =>
    obtain ⟨d, s1⟩ := z
    rw [hf] at p
    intro v B1 H1 x1 e1 q1
    refine hg.run ga B0 H0 B1 H1 σ s1 v d _ e1 q1 ?_
    replace p : SPost K mg W ga B0 H0 E (match tg d s1 with | .ok s2 => .nx s2 | _ => .no) := p
    cases ht : tg d s1 with
    | ok s2 =>
      rw [ht] at p
      exact p
    | ex _ =>
      rw [ht] at p
      exact p.elim
    | no =>
      rw [ht] at p
      exact p.elim
  | ex _ =>
    rw [hf] at p
    exact p.elim
  | no =>
    rw [hf] at p
    exact p.elim
theorem sx_ret {t : TE} {f : Ev → RX D} (h : SndX K t f) : SndS K mg W (tRet t) (gRetX f) := by
  refine ⟨fun ga B0 H0 B H σ s E e p => h.run ga B0 H0 B H σ s _ e ?_⟩
  unfold gRetX at p
  cases hf : f s with
  | ok z =>
    obtain ⟨d, s1⟩ := z
    rw [hf] at p
    exact fun v B1 H1 x1 e1 q1 => p v B1 H1 e1.ext q1
  | ex _ =>
    rw [hf] at p
    exact p.elim
  | no =>
    rw [hf] at p
    exact p.elim
theorem sx_retM {j : Nat} {t : TE} {f : Ev → RX D} (h : SndX K t f) : SndS K mg W (tRet t) (gRetM j f) := by
  refine ⟨fun ga B0 H0 B H σ s E e p => h.run ga B0 H0 B H σ s _ e ?_⟩
  unfold gRetM at p
  cases hf : f s with
  | ok z =>
    obtain ⟨d, s1⟩ := z
    rw [hf] at p
    intro v B1 H1 x1 e1 q1
    replace p : SPost K mg W ga B0 H0 E (match s1[j]? with | some (.m ds) => .rm d ds | _ => .no) := p
    split at p
    · rename_i ds hj
      obtain ⟨vs, _, hp, hb, _, hd⟩ := e1.pin.lent j ds hj
      exact p v vs B1 H1 e1.ext q1 hp hb hd
    · exact p.elim
  | ex _ =>
    rw [hf] at p
    exact p.elim
  | no =>
    rw [hf] at p
    exact p.elim
theorem sx_if {c : TT} {t u : TS} {b : Ev → RX Bool} {f g : Ev → Fl} (hc : SndXT K c b) (ht : SndS K mg W t f) (hu : SndS K mg W u g) : SndS K mg W (tIfS c t u) (gIfX b f g) := by
  refine ⟨fun ga B0 H0 B H σ s E e p => hc.run ga B0 H0 B H σ s _ e ?_⟩
  unfold gIfX at p
  cases hf : b s with
  | ok z =>
    obtain ⟨x, s1⟩ := z
    rw [hf] at p
    intro B1 H1 _ e1
    cases x with
    | true => exact ht.run ga B0 H0 B1 H1 σ s1 E e1 p
    | false => exact hu.run ga B0 H0 B1 H1 σ s1 E e1 p
  | ex _ =>
    rw [hf] at p
    exact p.elim
  | no =>
    rw [hf] at p
    exact p.elim
theorem sx_drop {t : TE} {f : Ev → RX D} (h : SndX K t f) : SndS K mg W (tDrop t) (gDropX f) := by
  refine ⟨fun ga B0 H0 B H σ s E e p => h.run ga B0 H0 B H σ s _ e ?_⟩
  unfold gDropX at p
  cases hf : f s with
  | ok z =>
    obtain ⟨d, s1⟩ := z
    rw [hf] at p
    exact fun v B1 H1 _ e1 _ => p B1 H1 σ e1
  | ex _ =>
    rw [hf] at p
    exact p.elim
  | no =>
    rw [hf] at p
    exact p.elim
/-! ### a def that changes what it was handed -/
/-- the arguments of such a call: those ahead of the list, the list of slot i, those behind it -/
abbrev XH := Ev → R ((List D × List D) × Ev)
def xHere (g : Ev → RX (List D)) : XH := fun s => match g s with
  | .ok (ds, s1) => .ok (([], ds), s1)
  | _ => .no
def xAhead (f : Ev → RX D) (h : XH) : XH := fun s => match f s with
  | .ok (d, s1) => match h s1 with
    | .ok ((as, bs), s2) => .ok ((d :: as, bs), s2)
    | _ => .no
  | _ => .no
def XHPost (K : PySem.W.Frag) (ga : Addr) (B0 H0 B : Hp) (σ : L2.St) (i : Nat) (Q : List V → Hp → Prop) : R ((List D × List D) × Ev) → Prop
  | .ok ((as, bs), s') => ∀ us ws v B' H', Ex B B' → ER K ga B0 H0 B' H' σ s' → DpAll K B' us as → DpAll K B' ws bs → σ[i]? = some (some v) → Q (us ++ v :: ws) H'
  | _ => False
structure SndXH (K : PySem.W.Frag) (i : Nat) (t : TA) (f : XH) : Prop where
  run : ∀ ga B0 H0 B H σ s Q, ER K ga B0 H0 B H σ s → (∃ v, σ[i]? = some (some v)) → XHPost K ga B0 H0 B σ i Q (f s) → t σ H Q
theorem sx_here {i : Nat} {tA : TA} {g : Ev → RX (List D)} (h : SndXA K tA g) : SndXH K i (tCons (tVar i) tA) (xHere g) := by
  refine ⟨fun ga B0 H0 B H σ s Q e ⟨v, hv⟩ p => ⟨v, hv, h.run ga B0 H0 B H σ s _ e ?_⟩⟩
  unfold xHere at p
  cases hf : g s with
  | ok z =>
    obtain ⟨ds, s1⟩ := z
    rw [hf] at p
    exact fun ws B1 H1 x1 e1 q1 => p [] ws v B1 H1 x1 e1 .nil q1 hv
  | ex _ =>
    rw [hf] at p
    exact p.elim
  | no =>
    rw [hf] at p
    exact p.elim
theorem sx_ahead {i : Nat} {t : TE} {tA : TA} {f : Ev → RX D} {h : XH} (hf : SndX K t f) (hh : SndXH K i tA h) : SndXH K i (tCons t tA) (xAhead f h) := by
  refine ⟨fun ga B0 H0 B H σ s Q e hv p => hf.run ga B0 H0 B H σ s _ e ?_⟩
  unfold xAhead at p
  cases hz : f s with
  | ok z =>
    obtain ⟨d, s1⟩ := z
    rw [hz] at p
    intro v B1 H1 x1 e1 q1
    refine hh.run ga B0 H0 B1 H1 σ s1 _ e1 hv ?_
    replace p : XHPost K ga B0 H0 B σ i Q (match h s1 with | .ok ((as, bs), s2) => .ok ((d :: as, bs), s2) | _ => .no) := p
    cases hg : h s1 with
    | ok z =>
      obtain ⟨⟨as, bs⟩, s2⟩ := z
      rw [hg] at p
      exact fun us ws w B2 H2 x2 e2 q2 q3 q4 => p (v :: us) ws w B2 H2 (x1.trans x2) e2 (.cons (Dp.ex x2 _ _ q1) q2) q3 q4
    | ex _ =>
      rw [hg] at p
      exact p.elim
    | no =>
      rw [hg] at p
      exact p.elim
  | ex _ =>
    rw [hz] at p
    exact p.elim
  | no =>
    rw [hz] at p
    exact p.elim
/-- the list at place j of the arguments -/
def spM (K : PySem.W.Frag) (j n : Nat) (F : List D → List D → List D → R (D × List D)) : Sp := fun vs H Q _ => vs.length = n ∧ ∃ us p ws B as bs ys ds, vs = us ++ V.ref p :: ws ∧ us.length = j ∧ Ex B H ∧ H p = some (.lst ys) ∧ B p = none ∧ DpAll K B us as ∧ DpAll K B ys ds ∧ DpAll K B ws bs ∧
  (match F as ds bs with
  | .ok (d, es) => ∀ v zs B' H', Ext B (hole p H) B' H' → Dp K B' v d → H' p = some (.lst zs) → B' p = none → DpAll K B' zs es → Q v H'
  | _ => False)
def isList : Ev → Nat → Bool := fun s i => match s[i]? with
  | some (.o _) => true
  | some (.m _) => true
  | _ => false
def xCallM (i : Nat) (F : List D → List D → List D → R (D × List D)) (h : XH) : Ev → RX D := fun s => if isList s i = true then match h s with
  | .ok ((as, bs), s1) => match s1[i]? with
    | some (.o ds) => match F as ds bs with
      | .ok (d, es) => .ok (d, s1.set i (.o es))
      | _ => .no
    | some (.m ds) => match F as ds bs with
      | .ok (d, es) => .ok (d, s1.set i (.m es))
      | _ => .no
    | _ => .no
  | _ => .no
  else .no
theorem sx_callM {i j n : Nat} {tH : TA} {h : XH} {F : List D → List D → List D → R (D × List D)} (hn : ∀ s as bs s', h s = .ok ((as, bs), s') → as.length = j ∧ as.length + 1 + bs.length = n) (hh : SndXH K i tH h) :
    SndX K (tCallSD (spM K j n F) [] (fun σ c d H => W c d σ H) tH) (xCallM i F h) := by
  refine ⟨fun ga B0 H0 B H σ s Q e p => ?_⟩
  unfold xCallM at p
  by_cases n3 : isList s i = true
  case neg =>
    rw [if_neg n3] at p
    exact p.elim
  rw [if_pos n3] at p
  cases hf : h s with
  | ex _ =>
    rw [hf] at p
    exact p.elim
  | no =>
    rw [hf] at p
    exact p.elim
  | ok z =>
    obtain ⟨⟨as, bs⟩, s1⟩ := z
    obtain ⟨n1, n2⟩ := hn s as bs s1 hf
    have hv : ∃ v, σ[i]? = some (some v) := by
      unfold isList at n3
      split at n3
      · rename_i ds hi
        obtain ⟨a, _, hσ, _⟩ := e.own i ds hi
        exact ⟨_, hσ⟩
      · rename_i ds hi
        obtain ⟨_, hσ, _⟩ := e.pin.lent i ds hi
        exact ⟨_, hσ⟩
      · cases n3
    refine hh.run ga B0 H0 B H σ s _ e hv ?_
    rw [hf] at p ⊢
    intro us ws v B1 H1 x1 e1 q1 q2 q3
    have len : (us ++ v :: ws).length = n := by
      rw [List.length_append, List.length_cons, DpAll.len q1, DpAll.len q2]
      omega
    replace p : XPost K ga B0 H0 B σ Q (match s1[i]? with
      | some (.o ds) => (match F as ds bs with
        | .ok (d, es) => .ok (d, s1.set i (.o es))
        | _ => .no)
      | some (.m ds) => (match F as ds bs with
        | .ok (d, es) => .ok (d, s1.set i (.m es))
        | _ => .no)
      | _ => .no) := p
    split at p
    · rename_i ds hi
      obtain ⟨a, vs, hσ, hp, hb, h0, hd⟩ := e1.own i ds hi
      rw [q3] at hσ
      cases hσ
      refine ⟨by rw [List.append_nil]; exact len, us, a, ws, B1, as, bs, vs, ds, by rw [List.append_nil], by rw [DpAll.len q1]; exact n1, e1.ext.s, hp, hb, q1, hd, q2, ?_⟩
      cases hF : F as ds bs with
      | ok z =>
        obtain ⟨d, es⟩ := z
        rw [hF] at p
        exact fun v zs B2 H2 x2 qd h2 b2 qe => p v B2 H2 (x1.trans x2.b) (e1.callee hi q3 hp hb h0 x2 h2 b2 qe) qd
      | ex _ =>
        rw [hF] at p
        exact p.elim
      | no =>
        rw [hF] at p
        exact p.elim
    · rename_i ds hi
      obtain ⟨vs, hσ, hp, hb, h0, hd⟩ := e1.pin.lent i ds hi
      rw [q3] at hσ
      cases hσ
      refine ⟨by rw [List.append_nil]; exact len, us, ga, ws, B1, as, bs, vs, ds, by rw [List.append_nil], by rw [DpAll.len q1]; exact n1, e1.ext.s, hp, hb, q1, hd, q2, ?_⟩
      cases hF : F as ds bs with
      | ok z =>
        obtain ⟨d, es⟩ := z
        rw [hF] at p
        exact fun v zs B2 H2 x2 qd h2 b2 qe => p v B2 H2 (x1.trans x2.b) (e1.calleeM hi x2 h2 b2 qe) qd
      | ex _ =>
        rw [hF] at p
        exact p.elim
      | no =>
        rw [hF] at p
        exact p.elim
    · exact p.elim
end
end Sf

namespace Sf
open PySem PySem.Spec PyProof.Rows L2
open Evl (Ex)

/-! ### loops whose source has an effect -/
def xRng1 (f : Ev → RX (List D)) : Ev → RX (List D) := fun s => match f s with
  | .ok (d, s1) => match gRng1 d with
    | .ok ds => .ok (ds, s1)
    | _ => .no
  | _ => .no
def gForX (src : Ev → RX (List D)) (tg : D → Ev → R Ev) (b : Ev → Fl) : Ev → Fl := fun s => match src s with
  | .ok (ds, s1) => gLoop tg b ds s1
  | _ => .no
structure SndXI (K : PySem.W.Frag) (wi : TI) (f : Ev → RX (List D)) : Prop where
  run : ∀ ga B0 H0 B H σ s (Q : It → Hp → Prop), ER K ga B0 H0 B H σ s → (match f s with
    | .ok (ds, s') => ∀ J B' H', ER K ga B0 H0 B' H' σ s' → Walk K B' J ds → Q J H'
    | _ => False) → wi σ H Q
def xAnd (t u : Ev → RX Bool) : Ev → RX Bool := fun s => match t s with
  | .ok (b, s1) => if b = true then u s1 else .ok (false, s1)
  | _ => .no
def xOr (t u : Ev → RX Bool) : Ev → RX Bool := fun s => match t s with
  | .ok (b, s1) => if b = true then .ok (true, s1) else u s1
  | _ => .no
def xNot (t : Ev → RX Bool) : Ev → RX Bool := fun s => match t s with
  | .ok (b, s1) => .ok (!b, s1)
  | _ => .no
def gParX (i j : Nat) (fA : Ev → RX (List D)) : Ev → Fl := fun s => match fA s with
  | .ok ([d, e], s1) => .nx ((s1.set i (.v d)).set j (.v e))
  | _ => .no
def gPar3X (i j l : Nat) (fA : Ev → RX (List D)) : Ev → Fl := fun s => match fA s with
  | .ok ([c, d, e], s1) => .nx (((s1.set i (.v c)).set j (.v d)).set l (.v e))
  | _ => .no
section
variable {K : PySem.W.Frag} {mg : Str → Option Value} {W : WX}
theorem XTPost.more {ga : Addr} {B0 H0 B B1 : Hp} {σ : L2.St} {Q : Bool → Hp → Prop} (x : Ex B B1) : ∀ {r : RX Bool}, XTPost K ga B0 H0 B σ Q r → XTPost K ga B0 H0 B1 σ Q r
  | .ok (_, _), h => fun B' H' y e => h B' H' (x.trans y) e
  | .ex _, h => h
  | .no, h => h
theorem sx_and {t u : TT} {f g : Ev → RX Bool} (ht : SndXT K t f) (hu : SndXT K u g) : SndXT K (tAnd t u) (xAnd f g) := by
  refine ⟨fun ga B0 H0 B H σ s Q e p => ht.run ga B0 H0 B H σ s _ e ?_⟩
  unfold xAnd at p
  cases hf : f s with
  | ok z =>
    obtain ⟨b, s1⟩ := z
    rw [hf] at p
    intro B1 H1 x1 e1
    cases b with
    | true => exact hu.run ga B0 H0 B1 H1 σ s1 _ e1 (XTPost.more x1 p)
    | false => exact p B1 H1 x1 e1
  | ex _ =>
    rw [hf] at p
    exact p.elim
  | no =>
    rw [hf] at p
    exact p.elim
theorem sx_or {t u : TT} {f g : Ev → RX Bool} (ht : SndXT K t f) (hu : SndXT K u g) : SndXT K (tOr t u) (xOr f g) := by
  refine ⟨fun ga B0 H0 B H σ s Q e p => ht.run ga B0 H0 B H σ s _ e ?_⟩
  unfold xOr at p
  cases hf : f s with
  | ok z =>
    obtain ⟨b, s1⟩ := z
    rw [hf] at p
    intro B1 H1 x1 e1
    cases b with
    | true => exact p B1 H1 x1 e1
    | false => exact hu.run ga B0 H0 B1 H1 σ s1 _ e1 (XTPost.more x1 p)
  | ex _ =>
    rw [hf] at p
    exact p.elim
  | no =>
    rw [hf] at p
    exact p.elim
theorem sx_not {t : TT} {f : Ev → RX Bool} (ht : SndXT K t f) : SndXT K (tNot t) (xNot f) := by
  refine ⟨fun ga B0 H0 B H σ s Q e p => ht.run ga B0 H0 B H σ s _ e ?_⟩
  unfold xNot at p
  cases hf : f s with
  | ok z =>
    obtain ⟨b, s1⟩ := z
    rw [hf] at p
    exact fun B1 H1 x1 e1 => p B1 H1 x1 e1
  | ex _ =>
    rw [hf] at p
    exact p.elim
  | no =>
    rw [hf] at p
    exact p.elim
theorem sx_rng1 {t : TA} {f : Ev → RX (List D)} (h : SndXA K t f) : SndXI K (iRng1 t) (xRng1 f) := by
  refine ⟨fun ga B0 H0 B H σ s Q e p => h.run ga B0 H0 B H σ s _ e ?_⟩
  unfold xRng1 at p
  cases hf : f s with
  | ok z =>
    obtain ⟨d, s1⟩ := z
    rw [hf] at p
    intro vs B1 H1 x1 e1 q1
    cases hd : gRng1 d with
    | ok ds =>
      replace p : match (match gRng1 d with | .ok ds => (.ok (ds, s1) : RX (List D)) | _ => .no) with
        | .ok (ds, s') => ∀ J B' H', ER K ga B0 H0 B' H' σ s' → Walk K B' J ds → Q J H'
        | _ => False := p
      rw [hd] at p
      unfold gRng1 at hd
      split at hd
      · obtain ⟨w, rfl, q2⟩ := dp1 q1
        cases q2
        split at hd
        · rename_i hz
          cases hd
          have hj := inM_of hz
          exact ⟨_, rfl, by omega, by omega, p _ B1 H1 e1 walk_rng⟩
        · cases hd
      · cases hd
    | ex y => exact absurd hd (rng1_nx d y)
    | no =>
      replace p : match (match gRng1 d with | .ok ds => (.ok (ds, s1) : RX (List D)) | _ => .no) with
        | .ok (ds, s') => ∀ J B' H', ER K ga B0 H0 B' H' σ s' → Walk K B' J ds → Q J H'
        | _ => False := p
      rw [hd] at p
      exact p.elim
  | ex _ =>
    rw [hf] at p
    exact p.elim
  | no =>
    rw [hf] at p
    exact p.elim
theorem sx_for {wi : TI} {src : Ev → RX (List D)} {g : TG} {tg : D → Ev → R Ev} {tb : TS} {b : Ev → Fl} (hi : SndXI K wi src) (hg : SndG K g tg) (hb : SndS K mg W tb b) : SndS K mg W (tFor wi g tb) (gForX src tg b) := by
  refine ⟨fun ga B0 H0 B H σ s E e p => hi.run ga B0 H0 B H σ s _ e ?_⟩
  unfold gForX at p
  cases hf : src s with
  | ok z =>
    obtain ⟨ds, s1⟩ := z
    rw [hf] at p
    exact fun J B1 H1 e1 wk => for_walk hg hb wk e1 p
  | ex _ =>
    rw [hf] at p
    exact p.elim
  | no =>
    rw [hf] at p
    exact p.elim
theorem sx_par {i j : Nat} {tA : TA} {fA : Ev → RX (List D)} (h : SndXA K tA fA) : SndS K mg W (tPar i j tA) (gParX i j fA) := by
  refine ⟨fun ga B0 H0 B H σ s E e p => h.run ga B0 H0 B H σ s _ e ?_⟩
  unfold gParX at p
  cases hf : fA s with
  | ok z =>
    obtain ⟨ds, s1⟩ := z
    rw [hf] at p
    intro vs B1 H1 _ e1 q
    replace p : SPost K mg W ga B0 H0 E (match (.ok (ds, s1) : RX (List D)) with | .ok ([d, e], s1) => .nx ((s1.set i (.v d)).set j (.v e)) | _ => .no) := p
    split at p
    · rename_i d e' s2 hz
      cases hz
      cases q with
      | cons q1 q' =>
        cases q' with
        | cons q2 q'' =>
          cases q''
          exact ⟨_, _, rfl, p B1 H1 _ ((e1.set q1).set q2)⟩
    · exact p.elim
  | ex _ =>
    rw [hf] at p
    exact p.elim
  | no =>
    rw [hf] at p
    exact p.elim
theorem sx_par3 {i j l : Nat} {tA : TA} {fA : Ev → RX (List D)} (h : SndXA K tA fA) : SndS K mg W (tPar3 i j l tA) (gPar3X i j l fA) := by
  refine ⟨fun ga B0 H0 B H σ s E e p => h.run ga B0 H0 B H σ s _ e ?_⟩
  unfold gPar3X at p
  cases hf : fA s with
  | ok z =>
    obtain ⟨ds, s1⟩ := z
    rw [hf] at p
    intro vs B1 H1 _ e1 q
    replace p : SPost K mg W ga B0 H0 E (match (.ok (ds, s1) : RX (List D)) with | .ok ([c, d, e], s1) => .nx (((s1.set i (.v c)).set j (.v d)).set l (.v e)) | _ => .no) := p
    split at p
    · rename_i c d e' s2 hz
      cases hz
      cases q with
      | cons q1 q' =>
        cases q' with
        | cons q2 q'' =>
          cases q'' with
          | cons q3 q4 =>
            cases q4
            exact ⟨_, _, _, rfl, p B1 H1 _ (((e1.set q1).set q2).set q3)⟩
    · exact p.elim
  | ex _ =>
    rw [hf] at p
    exact p.elim
  | no =>
    rw [hf] at p
    exact p.elim
theorem sx_app {i : Nat} {t : TE} {f : Ev → RX D} (h : SndX K t f) : SndS K mg W (tDrop (tBM K "list" rAppend (tVar i) (tCons t tNil))) (gAppX i f) := by
  refine ⟨fun ga B0 H0 B H σ s E e p => ?_⟩
  unfold gAppX at p
  by_cases hO : isOwn s i = true
  case neg =>
    rw [if_neg hO] at p
    exact p.elim
  rw [if_pos hO] at p
  obtain ⟨d0, hi0⟩ : ∃ ds, s[i]? = some (.o ds) := by
    unfold isOwn at hO
    split at hO
    · rename_i ds hi
      exact ⟨ds, hi⟩
    · cases hO
  obtain ⟨a, vs, hσ, hp, hb, h0, hd⟩ := e.own i d0 hi0
  refine ⟨.ref a, hσ, .inl ⟨rfl, vs, SqL.of hp⟩, ?_⟩
  refine h.run ga B0 H0 B H σ s _ e ?_
  cases hf : f s with
  | ok z =>
    obtain ⟨d, s1⟩ := z
    rw [hf] at p
    intro v B1 H1 _ e1 q
    replace p : SPost K mg W ga B0 H0 E (match s1[i]? with | some (.o ds) => (if ds.length < 100000 then .nx (s1.set i (.o (ds ++ [d]))) else .no) | _ => .no) := p
    split at p
    · rename_i d1 hi1
      obtain ⟨a', ws, hσ', hp1, hb1, h01, hd1⟩ := e1.own i d1 hi1
      rw [hσ] at hσ'
      cases hσ'
      split at p
      · rename_i hz
        refine ⟨a, ws, v, rfl, rfl, hp1, Evl.sz_lt (by rw [DpAll.len hd1]; exact hz), ?_⟩
        exact p B1 _ σ (e1.write hi1 hσ hp1 hb1 h01 (DpAll.append hd1 (.cons q .nil)))
      · exact p.elim
    · exact p.elim
  | ex _ =>
    rw [hf] at p
    exact p.elim
  | no =>
    rw [hf] at p
    exact p.elim
/-! ### the def rule -/
def runM (m j : Nat) (G : Ev → Fl) : List D → List D → List D → R (D × List D) := fun as ds bs => match G (as.map En.v ++ En.m ds :: (bs.map En.v ++ List.replicate (m - (as.length + 1 + bs.length)) En.un)) with
  | .rm d es => .ok (d, es)
  | _ => .no
theorem set_mid {α : Type} : ∀ (us : List α) (a b : α) (ws : List α), (us ++ a :: ws).set us.length b = us ++ b :: ws
  | [], _, _, _ => rfl
  | u :: us, a, b, ws => by
    rw [List.cons_append, List.length_cons, List.set_cons_succ, set_mid us a b ws]
    rfl
theorem DpAll.mid {B : Hp} {v : V} {d : D} (h : Dp K B v d) {ws : List V} {bs : List D} (hw : DpAll K B ws bs) : ∀ {us : List V} {as : List D}, DpAll K B us as → DpAll K B (us ++ v :: ws) (as ++ d :: bs)
  | [], _, hu => by
    cases hu
    exact .cons h hw
  | _ :: _, _, hu => by
    cases hu with
    | cons h1 h2 => exact .cons h1 (DpAll.mid h hw h2)
theorem er_startM {B H : Hp} {p : Addr} {us ws ys : List V} {as bs ds : List D} {N : List Str} (eb : Ex B H) (hp : H p = some (.lst ys)) (hb : B p = none) (ha : DpAll K B us as) (hy : DpAll K B ys ds) (hw : DpAll K B ws bs) :
    ER K p B (hole p H) B H (L2.start N (us ++ V.ref p :: ws)) (as.map En.v ++ En.m ds :: (bs.map En.v ++ List.replicate (N.length - (as.length + 1 + bs.length)) En.un)) := by
  have x0 : Ext B (hole p H) B H := ⟨Ex.refl B, fun a u h => (hole_some h).2, eb, fun _ _ _ n => n⟩
  have e0 := er_start0 (ga := p) (N := N) x0 (DpAll.mid (v := .non) (d := .none) .non hw ha)
  have hu := DpAll.len ha
  have hv := DpAll.len hw
  have l1 : (us ++ V.non :: ws).length = as.length + 1 + bs.length := by rw [List.length_append, List.length_cons, hu, hv]; omega
  have l2 : (as ++ PyData.none :: bs).length = as.length + 1 + bs.length := by rw [List.length_append, List.length_cons]; omega
  have s1 : (as ++ PyData.none :: bs).map En.v ++ List.replicate (N.length - (as ++ PyData.none :: bs).length) En.un = as.map En.v ++ En.v PyData.none :: (bs.map En.v ++ List.replicate (N.length - (as.length + 1 + bs.length)) En.un) := by
    rw [l2, List.map_append, List.map_cons, List.append_assoc]
    rfl
  have s2 : L2.start N (us ++ V.non :: ws) = us.map some ++ some V.non :: (ws.map some ++ List.replicate (N.length - (as.length + 1 + bs.length)) none) := by
    unfold L2.start
    rw [l1, List.map_append, List.map_cons, List.append_assoc]
    rfl
  have s3 : L2.start N (us ++ V.ref p :: ws) = us.map some ++ some (V.ref p) :: (ws.map some ++ List.replicate (N.length - (as.length + 1 + bs.length)) none) := by
    unfold L2.start
    rw [show (us ++ V.ref p :: ws).length = as.length + 1 + bs.length by rw [List.length_append, List.length_cons, hu, hv]; omega, List.map_append, List.map_cons, List.append_assoc]
    rfl
  rw [s1, s2] at e0
  have e1 := e0.setM (j := as.length) hp hb (show hole p H p = none from if_pos rfl) hy (by simp) (fun i es => by
    have all : ∀ z ∈ as.map En.v ++ En.v PyData.none :: (bs.map En.v ++ List.replicate (N.length - (as.length + 1 + bs.length)) En.un), (∃ d, z = .v d) ∨ z = .un := by
      intro z hz
      rcases List.mem_append.mp hz with h | h
      · obtain ⟨d, _, rfl⟩ := List.mem_map.mp h
        exact .inl ⟨d, rfl⟩
      · rcases List.mem_cons.mp h with h | h
        · exact .inl ⟨_, h⟩
        · rcases List.mem_append.mp h with h | h
          · obtain ⟨d, _, rfl⟩ := List.mem_map.mp h
            exact .inl ⟨d, rfl⟩
          · exact .inr (List.eq_of_mem_replicate h)
    constructor <;> intro h <;> rcases all _ (List.mem_of_getElem? h) with ⟨d, e⟩ | e <;> cases e)
  have t1 := set_mid (as.map En.v) (En.v PyData.none) (En.m ds) (bs.map En.v ++ List.replicate (N.length - (as.length + 1 + bs.length)) En.un)
  have t2 := set_mid (us.map (some : V → Option V)) (some V.non) (some (V.ref p)) (ws.map some ++ List.replicate (N.length - (as.length + 1 + bs.length)) none)
  rw [List.length_map] at t1 t2
  rw [hu] at t2
  rw [t1, t2] at e1
  rw [s3]
  exact e1
theorem runM_ends {B H : Hp} {p : Addr} {Q : VK} {E : XK} {N : List Str} {as ds bs : List D} {G : Ev → Fl} (h : match runM N.length as.length G as ds bs with
      | .ok (d, es) => ∀ v zs B' H', Ext B (hole p H) B' H' → Dp K B' v d → H' p = some (.lst zs) → B' p = none → DpAll K B' zs es → Q v H'
      | _ => False) : SPost K mg (fun c d _ H => E c d H) p B (hole p H) { nx := fun _ H' => Q .non H', rt := Q } (G (as.map En.v ++ En.m ds :: (bs.map En.v ++ List.replicate (N.length - (as.length + 1 + bs.length)) En.un))) := by
  unfold runM at h
  cases hg : G (as.map En.v ++ En.m ds :: (bs.map En.v ++ List.replicate (N.length - (as.length + 1 + bs.length)) En.un)) with
  | rm d es =>
    rw [hg] at h
    exact fun v ws B' H' x q hp hb hd => h v ws B' H' x q hp hb hd
  | nx _ =>
    rw [hg] at h
    exact h.elim
  | rt _ =>
    rw [hg] at h
    exact h.elim
  | rl _ =>
    rw [hg] at h
    exact h.elim
  | bk _ =>
    rw [hg] at h
    exact h.elim
  | ct _ =>
    rw [hg] at h
    exact h.elim
  | ex _ _ =>
    rw [hg] at h
    exact h.elim
  | no =>
    rw [hg] at h
    exact h.elim
end
section
variable {P : Program} {w : World} {K : PySem.W.Frag} {mg : Str → Option Value} {base : Heap}
theorem def_okM {x qual : Str} {st : Stmt} {f : Addr} {fd : FuncData} {N ps : List Str} {k j : Nat} {G : Ev → Fl} {F : List D → List D → List D → R (D × List D)} (Fn : Fun K x qual st f fd) (S : FnScope N ps (defScope st)) (hF : runM N.length j G = F)
    (body : ∀ (cdv : Value) (A : Around) (outer : List Env) (s : Shared) (H : Hp) (E : XK) (X : Cx), X = cxOf (L2N.CX P w) P w K mg base N qual (defScope st) f cdv A outer s H E → Room k X.A → PassesOwn (model X.prog X.w) X.A X.env X.xe → L2N.Takes X (fun c d _ H => E c d H) →
      ∃ t, JSs (cxOf (L2N.CX P w) P w K mg base N qual (defScope st) f cdv A outer s H E) (fun c d _ H => E c d H) (defBody st) t G) : FnOk P w K mg base (L2N.CX P w) (k + 1) f fd ps (spM K j ps.length F) := by
  refine okN Fn S (fun vs H Q E h => h.1) fun cdv A outer s H vs Q E hr h => ?_
  obtain ⟨hl, us, p, ws, B, as, bs, ys, ds, rfl, hj, eb, hp, hb, ha, hy, hw, q⟩ := h
  subst hF
  have hj2 : as.length = j := by rw [← DpAll.len ha]; exact hj
  subst hj2
  obtain ⟨t, J⟩ := body cdv A outer s H E _ rfl hr (passes_of rfl) (L2N.takes_of rfl rfl rfl rfl)
  exact ⟨t, J.pe, J.sd.run p B (hole p H) B H (L2.start N (us ++ V.ref p :: ws)) _ _ (er_startM (N := N) eb hp hb ha hy hw) (runM_ends (N := N) q)⟩
end
end Sf

namespace Sf
open PySem PySem.Spec PyProof.Rows L2
open Evl (Ex)

/-! ### texts whose parts have effects -/
structure JX (X : Cx) (W : WX) (e : Expr) (t : TE) (f : Ev → RX D) : Prop where
  pe : PE X e t
  sd : SndX X.K t f
structure JXA (X : Cx) (W : WX) (es : List Expr) (t : TA) (f : Ev → RX (List D)) : Prop where
  pe : PA X es t
  sd : SndXA X.K t f
structure JXH (X : Cx) (W : WX) (i : Nat) (es : List Expr) (t : TA) (f : XH) : Prop where
  pe : PA X es t
  sd : SndXH X.K i t f
structure JXT (X : Cx) (W : WX) (e : Expr) (t : TT) (f : Ev → RX Bool) : Prop where
  pe : PT X e t
  sd : SndXT X.K t f
structure JXW (X : Cx) (W : WX) (e : Expr) (t : TT) (f : Ev → RX Bool) : Prop where
  pe : PW X e t
  sd : SndXT X.K t f
structure JXI (X : Cx) (W : WX) (tg e : Expr) (t : TI) (f : Ev → RX (List D)) : Prop where
  pe : PI X tg e t
  sd : SndXI X.K t f
section
variable {X : Cx} {W : WX} {e a b : Expr} {es : List Expr} {te ta tb : TE} {tA tH : TA} {f g : Ev → RX D} {fA : Ev → RX (List D)} {h : XH} {i : Nat} {pos : Pos}
theorem x_of {f : Ev → R D} (q : JE X W e te f) : JX X W e te (xE f) := ⟨q.pe, q.sd.x⟩
theorem xa_of {f : Ev → R (List D)} (q : JA X W es tA f) : JXA X W es tA (xE f) := ⟨q.pe, q.sd.x⟩
theorem xt_of {t : TT} {f : Ev → R Bool} (q : JT X W e t f) : JXT X W e t (xE f) := ⟨q.pe, q.sd.x⟩
theorem x_add {Kk : PySem.W.Frag} (ha : JX X W a ta f) (hb : JX X W b tb g) (hK : X.K = Kk := by rfl) : JX X W (.BinOp a .Add b pos) (tOp (rAddA Kk) ta tb) (xBin gAdd f g) := by
  subst hK
  exact ⟨pe_op op_addA ha.pe hb.pe, sx_bin sr_add ha.sd hb.sd⟩
theorem x_sub (ha : JX X W a ta f) (hb : JX X W b tb g) : JX X W (.BinOp a .Sub b pos) (tOp (rI0 fun i j => .int (i - j)) ta tb) (xBin gSubI f g) := ⟨pe_op op_sub ha.pe hb.pe, sx_bin sr_sub ha.sd hb.sd⟩
theorem x_mul (ha : JX X W a ta f) (hb : JX X W b tb g) : JX X W (.BinOp a .Mult b pos) (tOp (rI CMulA fun i j => .int (i * j)) ta tb) (xBin gMul f g) := ⟨pe_op op_mulA ha.pe hb.pe, sx_bin (sr_int fun _ _ _ => .int _) ha.sd hb.sd⟩
theorem x_div (ha : JX X W a ta f) (hb : JX X W b tb g) : JX X W (.BinOp a .FloorDiv b pos) (tOp (rI CDivA fun i j => .int (i.fdiv j)) ta tb) (xBin gDiv f g) := ⟨pe_op op_fdivA ha.pe hb.pe, sx_bin (sr_int fun _ _ _ => .int _) ha.sd hb.sd⟩
theorem x_mod (ha : JX X W a ta f) (hb : JX X W b tb g) : JX X W (.BinOp a .Mod b pos) (tOp (rI CNz fun i j => .int (i.fmod j)) ta tb) (xBin gMod f g) := ⟨pe_op op_modN ha.pe hb.pe, sx_bin (sr_int fun _ _ _ => .int _) ha.sd hb.sd⟩
theorem x_pow (ha : JX X W a ta f) (hb : JX X W b tb g) : JX X W (.BinOp a .Pow b pos) (tOp (rI CPow fun i j => .int (i ^ j.toNat)) ta tb) (xBin gPow f g) := ⟨pe_op op_pow ha.pe hb.pe, sx_bin (sr_int fun _ _ _ => .int _) ha.sd hb.sd⟩
theorem x_neg (ha : JX X W a ta f) : JX X W (.UnaryOp .USub a pos) (tUn (rU fun i => .int (-i)) ta) (xUn gNeg f) := ⟨pe_un un_neg ha.pe, sx_un sr_neg ha.sd⟩
theorem x_lt (ha : JX X W a ta f) (hb : JX X W b tb g) : JX X W (.Compare a [.Lt] [b] pos) (tOp (rI0 fun i j => .bl (decide (i < j))) ta tb) (xBin (gCmp fun i j => decide (i < j)) f g) := ⟨pe_cmpR op_lt ha.pe hb.pe (nomark _), sx_bin sr_cmp ha.sd hb.sd⟩
theorem x_le (ha : JX X W a ta f) (hb : JX X W b tb g) : JX X W (.Compare a [.LtE] [b] pos) (tOp (rI0 fun i j => .bl (decide (i ≤ j))) ta tb) (xBin (gCmp fun i j => decide (i ≤ j)) f g) := ⟨pe_cmpR op_le ha.pe hb.pe (nomark _), sx_bin sr_cmp ha.sd hb.sd⟩
theorem x_gt (ha : JX X W a ta f) (hb : JX X W b tb g) : JX X W (.Compare a [.Gt] [b] pos) (tOp (rI0 fun i j => .bl (decide (j < i))) ta tb) (xBin (gCmp fun i j => decide (j < i)) f g) := ⟨pe_cmpR op_gt ha.pe hb.pe (nomark _), sx_bin sr_cmp ha.sd hb.sd⟩
theorem x_ge (ha : JX X W a ta f) (hb : JX X W b tb g) : JX X W (.Compare a [.GtE] [b] pos) (tOp (rI0 fun i j => .bl (decide (j ≤ i))) ta tb) (xBin (gCmp fun i j => decide (j ≤ i)) f g) := ⟨pe_cmpR op_ge ha.pe hb.pe (nomark _), sx_bin sr_cmp ha.sd hb.sd⟩
theorem x_eq {Kk : PySem.W.Frag} {u : Nat} (hu0 : u + 64 < cLine) (ha : JX X W a ta f) (hb : JX X W b tb g) (hA : X.A.units = u := by rfl) (hK : X.K = Kk := by rfl) : JX X W (.Compare a [.Eq] [b] pos) (tOp (rEqD Kk) ta tb) (xBin gEq f g) := by
  subst hK
  exact ⟨pe_cmpR (op_eqD (hA ▸ hu0)) ha.pe hb.pe (nomark _), sx_bin sr_eq ha.sd hb.sd⟩
theorem x_ne {Kk : PySem.W.Frag} {u : Nat} (hu0 : u + 64 < cLine) (ha : JX X W a ta f) (hb : JX X W b tb g) (hA : X.A.units = u := by rfl) (hK : X.K = Kk := by rfl) : JX X W (.Compare a [.NotEq] [b] pos) (tOp (rNeD Kk) ta tb) (xBin gNe f g) := by
  subst hK
  exact ⟨pe_cmpR (op_neD (hA ▸ hu0)) ha.pe hb.pe (nomark _), sx_bin sr_ne ha.sd hb.sd⟩
theorem xt_lt (ha : JX X W a ta f) (hb : JX X W b tb g) : JXT X W (.Compare a [.Lt] [b] pos) (tTest (tOp (rI0 fun i j => .bl (decide (i < j))) ta tb)) (xVal (xBin (gCmp fun i j => decide (i < j)) f g)) := ⟨pt_cmpR op_lt ha.pe hb.pe (nomark _), sx_test (x_lt (W := W) (pos := pos) ha hb).sd⟩
theorem xt_le (ha : JX X W a ta f) (hb : JX X W b tb g) : JXT X W (.Compare a [.LtE] [b] pos) (tTest (tOp (rI0 fun i j => .bl (decide (i ≤ j))) ta tb)) (xVal (xBin (gCmp fun i j => decide (i ≤ j)) f g)) := ⟨pt_cmpR op_le ha.pe hb.pe (nomark _), sx_test (x_le (W := W) (pos := pos) ha hb).sd⟩
theorem xt_gt (ha : JX X W a ta f) (hb : JX X W b tb g) : JXT X W (.Compare a [.Gt] [b] pos) (tTest (tOp (rI0 fun i j => .bl (decide (j < i))) ta tb)) (xVal (xBin (gCmp fun i j => decide (j < i)) f g)) := ⟨pt_cmpR op_gt ha.pe hb.pe (nomark _), sx_test (x_gt (W := W) (pos := pos) ha hb).sd⟩
theorem xt_ge (ha : JX X W a ta f) (hb : JX X W b tb g) : JXT X W (.Compare a [.GtE] [b] pos) (tTest (tOp (rI0 fun i j => .bl (decide (j ≤ i))) ta tb)) (xVal (xBin (gCmp fun i j => decide (j ≤ i)) f g)) := ⟨pt_cmpR op_ge ha.pe hb.pe (nomark _), sx_test (x_ge (W := W) (pos := pos) ha hb).sd⟩
theorem xt_eq {Kk : PySem.W.Frag} {u : Nat} (hu0 : u + 64 < cLine) (ha : JX X W a ta f) (hb : JX X W b tb g) (hA : X.A.units = u := by rfl) (hK : X.K = Kk := by rfl) : JXT X W (.Compare a [.Eq] [b] pos) (tTest (tOp (rEqD Kk) ta tb)) (xVal (xBin gEq f g)) := by
  subst hK
  exact ⟨pt_cmpR (op_eqD (hA ▸ hu0)) ha.pe hb.pe (nomark _), sx_test (x_eq (W := W) (pos := pos) hu0 ha hb hA).sd⟩
theorem xt_ne {Kk : PySem.W.Frag} {u : Nat} (hu0 : u + 64 < cLine) (ha : JX X W a ta f) (hb : JX X W b tb g) (hA : X.A.units = u := by rfl) (hK : X.K = Kk := by rfl) : JXT X W (.Compare a [.NotEq] [b] pos) (tTest (tOp (rNeD Kk) ta tb)) (xVal (xBin gNe f g)) := by
  subst hK
  exact ⟨pt_cmpR (op_neD (hA ▸ hu0)) ha.pe hb.pe (nomark _), sx_test (x_ne (W := W) (pos := pos) hu0 ha hb hA).sd⟩
theorem x_ix {Kk : PySem.W.Frag} (ha : JX X W a ta f) (hb : JX X W b tb g) (hs : PlainIx b := by exact fun _ _ => rfl) (hK : X.K = Kk := by rfl) : JX X W (.Subscript a b pos) (tOp (rIx Kk) ta tb) (xBin gIx f g) := by
  subst hK
  exact ⟨pe_ix ix_seq ha.pe hb.pe hs, sx_bin sr_ix ha.sd hb.sd⟩
theorem xa_nil : JXA X W [] tNil xNil := ⟨pa_nil, sx_nil⟩
theorem xa_cons (ha : JX X W e te f) (hr : JXA X W es tA fA) (hs : starEach (e :: es) X.env = (false, eval e X.env) :: starEach es X.env := by rfl) : JXA X W (e :: es) (tCons te tA) (xCons f fA) := ⟨pa_cons ha.pe hr.pe hs, sx_cons ha.sd hr.sd⟩
theorem xh_here (i : Nat) {x : Str} {px : Pos} (hr : JXA X W es tA fA) (hN : X.N[i]? = some x := by rfl) (hv : Vis X.env.scope x := by first | exact Or.inl rfl | exact Or.inr (Or.inl rfl) | exact Or.inr (Or.inr rfl)) (hd : (x == ("__debug__" : Str)) = false := by decide) (hcd : (x == ("__classdict__" : Str)) = false := by decide)
    (hs : starEach (.Name x px :: es) X.env = (false, eval (.Name x px) X.env) :: starEach es X.env := by rfl) : JXH X W i (.Name x px :: es) (tCons (tVar i) tA) (xHere fA) := ⟨pa_cons (pe_var hN hv hd hcd) hr.pe hs, sx_here hr.sd⟩
theorem xh_cons (ha : JX X W e te f) (hr : JXH X W i es tH h) (hs : starEach (e :: es) X.env = (false, eval e X.env) :: starEach es X.env := by rfl) : JXH X W i (e :: es) (tCons te tH) (xAhead f h) := ⟨pa_cons ha.pe hr.pe hs, sx_ahead ha.sd hr.sd⟩
theorem x_tup {k} (q : JXA X W es tA fA) : JX X W (.Tuple es k pos) (tTup tA) (xTup fA) := ⟨pe_tup q.pe, sx_tup q.sd⟩
theorem xw_and1 {t : TT} {c : Ev → RX Bool} (q : JXT X W a t c) : JXW X W (.BoolOp .And [a] pos) t c := ⟨pw_and1 q.pe, q.sd⟩
theorem xw_or1 {t : TT} {c : Ev → RX Bool} (q : JXT X W a t c) : JXW X W (.BoolOp .Or [a] pos) t c := ⟨pw_or1 q.pe, q.sd⟩
theorem xw_and {rest : List Expr} {t u : TT} {c d : Ev → RX Bool} (q : JXT X W a t c) (r : JXW X W (.BoolOp .And (b :: rest) pos) u d) : JXW X W (.BoolOp .And (a :: b :: rest) pos) (tAnd t u) (xAnd c d) := ⟨pw_and q.pe r.pe, sx_and q.sd r.sd⟩
theorem xw_or {rest : List Expr} {t u : TT} {c d : Ev → RX Bool} (q : JXT X W a t c) (r : JXW X W (.BoolOp .Or (b :: rest) pos) u d) : JXW X W (.BoolOp .Or (a :: b :: rest) pos) (tOr t u) (xOr c d) := ⟨pw_or q.pe r.pe, sx_or q.sd r.sd⟩
theorem xt_w {t : TT} {c : Ev → RX Bool} (q : JXW X W a t c) : JXT X W a t c := ⟨q.pe.pt, q.sd⟩
theorem xt_not {t : TT} {c : Ev → RX Bool} (q : JXT X W a t c) : JXT X W (.UnaryOp .Not a pos) (tNot t) (xNot c) := ⟨pt_not q.pe, sx_not q.sd⟩
variable {x : Str} {p : Pos} {k n : Nat} {fa : Addr} {fd : FuncData} {ps : List Str}
theorem x_intc (hm : X.mg "int" = none) (ha : JXA X W (e :: es) tA fA) (hg : Gl X "int" := by rfl) (he : starEach (e :: es) X.env = (false, eval e X.env) :: starEach es X.env := by rfl) (hpl : (backTo pos (starEach es X.env)).any (·.1) = false := by rfl) :
    JX X W (.Call (.Name "int" p) (e :: es) [] pos) (tCB rInt1 tA) (xCall gInt1 fA) := ⟨pe_callTy call_int1 hg hm (by decide +kernel) ha.pe (by decide) (by decide) he hpl, sx_cb sr_int1 ha.sd⟩
theorem x_abs (hm : X.mg "abs" = none) (ha : JXA X W (e :: es) tA fA) (hg : Gl X "abs" := by rfl) (he : starEach (e :: es) X.env = (false, eval e X.env) :: starEach es X.env := by rfl) (hpl : (backTo pos (starEach es X.env)).any (·.1) = false := by rfl) :
    JX X W (.Call (.Name "abs" p) (e :: es) [] pos) (tCB rAbs1 tA) (xCall gAbs fA) := ⟨pe_callB call_abs hg hm (by decide +kernel) ha.pe (by decide) (by decide) he hpl, sx_cb sr_abs ha.sd⟩
theorem x_call {F : List D → R D} (tk : L2N.Takes X W) (G : FnOk X.prog X.w X.K X.mg X.base (L2N.CX X.prog X.w) k fa fd ps (spD X.K X.mg n F)) (hr : Room k X.A) (hm : X.mg x = some (.ref fa)) (hk : PySem.W.keepIn X.K (.ref fa) = true) (hb : Binds X.K fd ps []) (ha : JXA X W (e :: es) tA fA) (hn : ∀ s ds s', fA s = .ok (ds, s') → ds.length = n) (hg : Gl X x := by rfl) (hdb : (x == ("__debug__" : Str)) = false := by decide)
    (he : starEach (e :: es) X.env = (false, eval e X.env) :: starEach es X.env := by rfl) (hpl : (backTo pos (starEach es X.env)).any (·.1) = false := by rfl) : JX X W (.Call (.Name x p) (e :: es) [] pos) (tCallSD (spD X.K X.mg n F) [] (fun σ c d H => W c d σ H) tA) (xCall F fA) :=
  ⟨pe_callSD G hr hg hm hk hb .nil (fun σ => L2N.passAt tk σ) ha.pe hdb he hpl, sx_callD hn ha.sd⟩
theorem x_callM {j : Nat} {F : List D → List D → List D → R (D × List D)} (tk : L2N.Takes X W) (G : FnOk X.prog X.w X.K X.mg X.base (L2N.CX X.prog X.w) k fa fd ps (spM X.K j n F)) (hr : Room k X.A) (hm : X.mg x = some (.ref fa)) (hk : PySem.W.keepIn X.K (.ref fa) = true) (hb : Binds X.K fd ps []) (ha : JXH X W i (e :: es) tH h) (hn : ∀ s as bs s', h s = .ok ((as, bs), s') → as.length = j ∧ as.length + 1 + bs.length = n) (hg : Gl X x := by rfl) (hdb : (x == ("__debug__" : Str)) = false := by decide)
    (he : starEach (e :: es) X.env = (false, eval e X.env) :: starEach es X.env := by rfl) (hpl : (backTo pos (starEach es X.env)).any (·.1) = false := by rfl) : JX X W (.Call (.Name x p) (e :: es) [] pos) (tCallSD (spM X.K j n F) [] (fun σ c d H => W c d σ H) tH) (xCallM i F h) :=
  ⟨pe_callSD G hr hg hm hk hb .nil (fun σ => L2N.passAt tk σ) ha.pe hdb he hpl, sx_callM hn ha.sd⟩
/-! statements -/
theorem xs_set (i : Nat) {x : Str} {pos' : Pos} (hN : X.N.Nodup) (q : JX X W e te f) (hi : X.N[i]? = some x := by rfl) (hx : Loc X.env.scope x := by first | exact .inl rfl | exact .inr rfl) (hs : swapsWith e (some (.Name x pos')) pos.line X.env = pure false := by rfl) (hf : X.fn x = true ∨ X.env.scope.names.lookup x = some .local := by first | exact .inl rfl | exact .inr rfl) :
    JS X W (.Assign [.Name x pos'] e pos) (tAsg te (gName i)) (gAsgX f (hName i)) := ⟨ps_set hN hi hx q.pe hs hf, sx_asg q.sd sg_name⟩
theorem xs_ret (q : JX X W e te f) : JS X W (.Return (some e) pos) (tRet te) (gRetX f) := ⟨ps_ret q.pe, sx_ret q.sd⟩
theorem xs_retM (j : Nat) (q : JX X W e te f) : JS X W (.Return (some e) pos) (tRet te) (gRetM j f) := ⟨ps_ret q.pe, sx_retM q.sd⟩
theorem xs_if {c : Expr} {as bs : List Stmt} {tc : TT} {cb : Ev → RX Bool} {ts us : TS} {F G : Ev → Fl} (hc : JXT X W c tc cb) (ha : JSs X W as ts F) (hb : JSs X W bs us G) : JS X W (.If c as bs pos) (tIfS tc ts us) (gIfX cb F G) := ⟨ps_if hc.pe ha.pe hb.pe, sx_if hc.sd ha.sd hb.sd⟩
theorem xs_expr (q : JX X W e te f) (hs : swapsWith e none pos.line X.env = pure false := by rfl) : JS X W (.Expr e pos) (tDrop te) (gDropX f) := ⟨ps_expr q.pe hs, sx_drop q.sd⟩
theorem xs_asg {tg : Expr} {gt : TG} {ht : D → Ev → R Ev} (he : JX X W e te f) (hg : JG X tg gt ht) (hs : swapsWithSole [tg] e pos.line X.env = pure false := by rfl) (hw : swappedStores [tg] e X.env = pure none := by rfl) (h1 : (assignEach [tg] X.env).map (·.2) = [assign tg X.env] := by rfl) : JS X W (.Assign [tg] e pos) (tAsg te gt) (gAsgX f ht) :=
  ⟨ps_asg he.pe hg.pe hs hw h1, sx_asg he.sd hg.sd⟩
theorem xs_par (i j : Nat) {x y : Str} {px py pt pos : Pos} {kt k2 : Nat} {pt2 : Pos} (hc : X.calm = true) (hN : X.N.Nodup) (ha : JXA X W [a, b] tA fA) (hi : X.N[i]? = some x := by rfl) (hj : X.N[j]? = some y := by rfl) (hij : i ≠ j := by decide)
    (hx : X.env.scope.names.lookup x = some .local := by rfl) (hy : X.env.scope.names.lookup y = some .local := by rfl)
    (hw : swappedStores [.Tuple [.Name x px, .Name y py] kt pt] (.Tuple [a, b] k2 pt2) X.env = pure (some [x, y]) := by rfl)
    (hs : swapsWithSole [.Tuple [.Name x px, .Name y py] kt pt] (.Tuple [a, b] k2 pt2) pos.line X.env = pure false := by rfl) :
    JS X W (.Assign [.Tuple [.Name x px, .Name y py] kt pt] (.Tuple [a, b] k2 pt2) pos) (tPar i j tA) (gParX i j fA) := ⟨ps_par hc hN hi hj hij hx hy ha.pe hw hs, sx_par ha.sd⟩
theorem xs_par3 (i j l : Nat) {x y z : Str} {c : Expr} {px py pz pt pos : Pos} {kt k2 : Nat} {pt2 : Pos} (hc : X.calm = true) (hN : X.N.Nodup) (ha : JXA X W [a, b, c] tA fA) (hi : X.N[i]? = some x := by rfl) (hj : X.N[j]? = some y := by rfl) (hl : X.N[l]? = some z := by rfl)
    (hij : i ≠ j := by decide) (hil : i ≠ l := by decide) (hjl : j ≠ l := by decide)
    (hx : X.env.scope.names.lookup x = some .local := by rfl) (hy : X.env.scope.names.lookup y = some .local := by rfl) (hz : X.env.scope.names.lookup z = some .local := by rfl)
    (hw : swappedStores [.Tuple [.Name x px, .Name y py, .Name z pz] kt pt] (.Tuple [a, b, c] k2 pt2) X.env = pure (some [x, y, z]) := by rfl)
    (hs : swapsWithSole [.Tuple [.Name x px, .Name y py, .Name z pz] kt pt] (.Tuple [a, b, c] k2 pt2) pos.line X.env = pure false := by rfl) :
    JS X W (.Assign [.Tuple [.Name x px, .Name y py, .Name z pz] kt pt] (.Tuple [a, b, c] k2 pt2) pos) (tPar3 i j l tA) (gPar3X i j l fA) := ⟨ps_par3 hc hN hi hj hl hij hil hjl hx hy hz ha.pe hw hs, sx_par3 ha.sd⟩
theorem xs_app (i : Nat) {x : Str} {px p2 : Pos} (he : JX X W e te f) (hN : X.N[i]? = some x := by rfl) (hv : Vis X.env.scope x := by first | exact Or.inl rfl | exact Or.inr (Or.inl rfl) | exact Or.inr (Or.inr rfl)) (hd : (x == ("__debug__" : Str)) = false := by decide) (hcd : (x == ("__classdict__" : Str)) = false := by decide)
    (hs : starEach [e] X.env = (false, eval e X.env) :: starEach [] X.env := by rfl) (hbase : attributeBase (.Name x px) "append" X.env (eval (.Name x px) X.env) = eval (.Name x px) X.env := by rfl)
    (hfew : ((backTo p (starEach [e] X.env)).all (fun x => !x.1) && (backToKw p (keywordEach [] X.env)).all (fun x => x.1.isSome) && decide ([e].length + ([] : List Keyword).length + (if ([] : List Keyword).isEmpty then 0 else 1) < 30)) = true := by rfl)
    (hline : (p2.endLine == p.line) = true := by rfl) (hplain : (backTo p (starEach [] X.env)).any (·.1) = false := by rfl) (hsw : swapsWith (.Call (.Attribute (.Name x px) "append" p2) [e] [] p) none pos.line X.env = pure false := by rfl) :
    JS X W (.Expr (.Call (.Attribute (.Name x px) "append" p2) [e] [] p) pos) (tDrop (tBM X.K "list" rAppend (tVar i) (tCons te tNil))) (gAppX i f) :=
  ⟨ps_expr (pe_bm PySem.F.plainAttrs_list PySem.F.slot_list_append PySem.F.type_list_append mt_append (pe_var hN hv hd hcd) (pa_cons he.pe pa_nil hs) hbase hfew hline hs hplain) hsw, sx_app he.sd⟩
theorem xi_rng1 {tg : Expr} (hm : X.mg "range" = none) (ha : JXA X W [a] tA fA) (hg : Gl X "range" := by rfl) (hs : starEach [a] X.env = [(false, eval a X.env)] := by rfl) : JXI X W tg (.Call (.Name "range" p) [a] [] pos) (iRng1 tA) (xRng1 fA) := ⟨pi_range1 hg hm ha.pe hs, sx_rng1 ha.sd⟩
theorem xs_for {tg iter : Expr} {body : List Stmt} {wi : TI} {src : Ev → RX (List D)} {gt : TG} {ht : D → Ev → R Ev} {ts : TS} {F : Ev → Fl} (hp : PassesOwn (model X.prog X.w) X.A X.env X.xe) (hc : X.calm = true) (hi : JXI X W tg iter wi src) (hg : JG X tg gt ht) (hb : JSs X W body ts F) (hs : ∀ x, foldedSetIterable iter X.env x = pure x := by intro _; rfl) :
    JS X W (.For tg iter body [] pos) (tFor wi gt ts) (gForX src ht F) := ⟨ps_for hp hc hi.pe hg.pe hb.pe hs, sx_for hi.sd hg.sd hb.sd⟩
end
/-! lengths of arguments -/
theorem xnil_n (s : Ev) (ds : List D) (s' : Ev) (h : xNil s = .ok (ds, s')) : ds.length = 0 := by
  unfold xNil at h
  cases h
  rfl
theorem xcons_n {f : Ev → RX D} {g : Ev → RX (List D)} {m : Nat} (hg : ∀ s ds s', g s = .ok (ds, s') → ds.length = m) (s : Ev) (ds : List D) (s' : Ev) (h : xCons f g s = .ok (ds, s')) : ds.length = m + 1 := by
  unfold xCons at h
  split at h
  · split at h
    · rename_i xs s2 hq
      cases h
      rw [List.length_cons, hg _ _ _ hq]
    · cases h
  · cases h
theorem xe_n {f : Ev → R (List D)} {m : Nat} (hg : ∀ s ds, f s = .ok ds → ds.length = m) (s : Ev) (ds : List D) (s' : Ev) (h : xE f s = .ok (ds, s')) : ds.length = m := by
  unfold xE at h
  split at h
  · rename_i d hq
    cases h
    exact hg _ _ hq
  · cases h
theorem xhere_n {g : Ev → RX (List D)} {m : Nat} (hg : ∀ s ds s', g s = .ok (ds, s') → ds.length = m) (s : Ev) (as bs : List D) (s' : Ev) (h : xHere g s = .ok ((as, bs), s')) : as.length = 0 ∧ as.length + 1 + bs.length = m + 1 := by
  unfold xHere at h
  split at h
  · rename_i ds s1 hq
    cases h
    refine ⟨rfl, ?_⟩
    rw [hg _ _ _ hq, List.length_nil]
    omega
  · cases h
theorem xahead_n {f : Ev → RX D} {q : XH} {j m : Nat} (hg : ∀ s as bs s', q s = .ok ((as, bs), s') → as.length = j ∧ as.length + 1 + bs.length = m) (s : Ev) (as bs : List D) (s' : Ev) (h : xAhead f q s = .ok ((as, bs), s')) : as.length = j + 1 ∧ as.length + 1 + bs.length = m + 1 := by
  unfold xAhead at h
  split at h
  · split at h
    · rename_i as' bs' s2 hq
      cases h
      obtain ⟨h1, h2⟩ := hg _ _ _ _ hq
      rw [List.length_cons]
      omega
    · cases h
  · cases h
/-! ### defs that call themselves: at first with no meaning -/
theorem fn_no {P : Program} {w : World} {K : PySem.W.Frag} {mg : Str → Option Value} {base : Heap} {CX : CXT} {k n : Nat} {f : Addr} {fd : FuncData} {ps : List Str} (hn : n = ps.length) : FnOk P w K mg base CX k f fd ps (spD K mg n fun _ => .no) :=
  ⟨fun vs H Q E h => h.1.trans hn, fun A outer s H args us vs Q E _ _ _ _ h => by
    obtain ⟨_, B, ds, _, _, p⟩ := h
    exact p.elim⟩
theorem fn_noM {P : Program} {w : World} {K : PySem.W.Frag} {mg : Str → Option Value} {base : Heap} {CX : CXT} {j k n : Nat} {f : Addr} {fd : FuncData} {ps : List Str} (hn : n = ps.length) : FnOk P w K mg base CX k f fd ps (spM K j n fun _ _ _ => .no) :=
  ⟨fun vs H Q E h => h.1.trans hn, fun A outer s H args us vs Q E _ _ _ _ h => by
    obtain ⟨_, _, _, _, _, _, _, _, _, _, _, _, _, _, _, _, _, p⟩ := h
    exact p.elim⟩
end Sf

namespace Sf
open PySem PySem.Spec PyProof.Rows L2
open Evl (Ex)

theorem room65 {k : Nat} {A : Around} (r : Room k A) : A.units + 65 < cLine := by
  have := r.un
  omega
/-! ### whether a list holds data of any depth -/
def gInD (neg : Bool) : D → D → R D
  | d, .list ds => if (SeqAt.shaped d && SeqAt.shaped (.list ds)) = true then .ok (.bool (if neg then !(ds.any fun z => PyData.eqv z d) else ds.any fun z => PyData.eqv z d)) else .no
  | _, _ => .no
theorem inD_nx (neg : Bool) (d e : D) (x : Exn) : gInD neg d e ≠ .ex x := by
  unfold gInD
  split
  · split <;> exact fun z => nomatch z
  · exact fun z => nomatch z
theorem sr_notInD {K : PySem.W.Frag} : SndR2 K (rNotInD K) (gInD true) := by
  refine ⟨fun B H x y d e Q eb hx hy p => ?_⟩
  unfold gInD at p
  split at p
  · split at p
    · rename_i h
      rw [Bool.and_eq_true] at h
      exact ⟨_, _, Dp.ex eb _ _ hx, Dp.ex eb _ _ hy, h.1, h.2, p _ B H (Ext.refl eb) (.bl _)⟩
    · exact p.elim
  · exact p.elim
/-! ### lists and slices with effects -/
def xLst (g : Ev → RX (List D)) : Ev → RX D := fun s => match g s with
  | .ok (xs, s1) => if xs.length ≤ 100000 then .ok (.list xs, s1) else .no
  | _ => .no
def xONone : Ev → RX (Option Int) := fun s => .ok (none, s)
def xOSome (f : Ev → RX D) : Ev → RX (Option Int) := fun s => match f s with
  | .ok (.int i, s1) => .ok (some i, s1)
  | _ => .no
def xSl (f : Ev → RX D) (l h : Ev → RX (Option Int)) : Ev → RX D := fun s => match f s with
  | .ok (d, s1) => match l s1 with
    | .ok (lo, s2) => match h s2 with
      | .ok (hi, s3) => match gCut d lo hi with
        | .ok z => .ok (z, s3)
        | _ => .no
      | _ => .no
    | _ => .no
  | _ => .no
structure SndXO (K : PySem.W.Frag) (t : TO) (f : Ev → RX (Option Int)) : Prop where
  run : ∀ ga B0 H0 B H σ s Q, ER K ga B0 H0 B H σ s → (match f s with
    | .ok (o, s') => ∀ B' H', Ex B B' → ER K ga B0 H0 B' H' σ s' → Q o H'
    | _ => False) → t σ H Q
section
variable {K : PySem.W.Frag} {mg : Str → Option Value} {W : WX}
theorem sx_lst {ta : TA} {g : Ev → RX (List D)} (h : SndXA K ta g) : SndX K (tLst ta) (xLst g) := by
  refine ⟨fun ga B0 H0 B H σ s Q e p => h.run ga B0 H0 B H σ s _ e ?_⟩
  unfold xLst at p
  cases hf : g s with
  | ok z =>
    obtain ⟨xs, s1⟩ := z
    rw [hf] at p
    intro vs B1 H1 x1 e1 q1
    replace p : XPost K ga B0 H0 B σ Q (if xs.length ≤ 100000 then .ok (.list xs, s1) else .no) := p
    split at p
    · rename_i hz
      refine ⟨sz100 (by rw [DpAll.len q1]; exact hz), fun a hn => ?_⟩
      have hb : B1 a = none := ex_none e1.ext.s hn
      have nw : Ext B1 H1 (upd B1 a (.lst vs)) (upd H1 a (.lst vs)) := (Ext.refl e1.ext.s).new hn
      exact p (.ref a) _ _ (x1.trans nw.b) (e1.more nw) (.lst (SqL.of upd_same) (DpAll.ex nw.b _ _ q1))
    · exact p.elim
  | ex _ =>
    rw [hf] at p
    exact p.elim
  | no =>
    rw [hf] at p
    exact p.elim
theorem sxo_none : SndXO K tNoPart xONone := ⟨fun ga B0 H0 B H σ s Q e p => p B H (Ex.refl B) e⟩
theorem sxo_some {t : TE} {f : Ev → RX D} (h : SndX K t f) : SndXO K (tPart t) (xOSome f) := by
  refine ⟨fun ga B0 H0 B H σ s Q e p => h.run ga B0 H0 B H σ s _ e ?_⟩
  unfold xOSome at p
  cases hf : f s with
  | ok z =>
    obtain ⟨d, s1⟩ := z
    rw [hf] at p
    intro v B1 H1 x1 e1 q1
    cases q1 with
    | int i => exact ⟨i, rfl, p B1 H1 x1 e1⟩
    | _ => exact p.elim
  | ex _ =>
    rw [hf] at p
    exact p.elim
  | no =>
    rw [hf] at p
    exact p.elim
theorem sx_sl {t : TE} {tl th : TO} {f : Ev → RX D} {l h : Ev → RX (Option Int)} (ha : SndX K t f) (hl : SndXO K tl l) (hh : SndXO K th h) : SndX K (tSl (rSlA K) t tl th) (xSl f l h) := by
  refine ⟨fun ga B0 H0 B H σ s Q e p => ha.run ga B0 H0 B H σ s _ e ?_⟩
  unfold xSl at p
  cases hf : f s with
  | ex _ =>
    rw [hf] at p
    exact p.elim
  | no =>
    rw [hf] at p
    exact p.elim
  | ok z =>
  obtain ⟨d, s1⟩ := z
  rw [hf] at p
  intro v B1 H1 x1 e1 q1
  refine hl.run ga B0 H0 B1 H1 σ s1 _ e1 ?_
  replace p : XPost K ga B0 H0 B σ Q (match l s1 with
    | .ok (lo, s2) => (match h s2 with
      | .ok (hi, s3) => (match gCut d lo hi with
        | .ok z => .ok (z, s3)
        | _ => .no)
      | _ => .no)
    | _ => .no) := p
  cases hl2 : l s1 with
  | ex _ =>
    rw [hl2] at p
    exact p.elim
  | no =>
    rw [hl2] at p
    exact p.elim
  | ok z =>
  obtain ⟨lo, s2⟩ := z
  rw [hl2] at p
  intro B2 H2 x2 e2
  refine hh.run ga B0 H0 B2 H2 σ s2 _ e2 ?_
  replace p : XPost K ga B0 H0 B σ Q (match h s2 with
      | .ok (hi, s3) => (match gCut d lo hi with
        | .ok z => .ok (z, s3)
        | _ => .no)
      | _ => .no) := p
  cases hh2 : h s2 with
  | ex _ =>
    rw [hh2] at p
    exact p.elim
  | no =>
    rw [hh2] at p
    exact p.elim
  | ok z =>
  obtain ⟨hi, s3⟩ := z
  rw [hh2] at p
  intro B3 H3 x3 e3
  have p4 := OPost.x (r := gCut d lo hi) ((x1.trans x2).trans x3) e3 p
  have q3 := Dp.ex (x2.trans x3) _ _ q1
  unfold gCut at p4
  split at p4
  · cases q3 with
    | lst hs hd =>
      refine .inl ⟨_, _, rfl, sql_ex e3.ext.s hs, fun a hn => ?_⟩
      have hb : B3 a = none := ex_none e3.ext.s hn
      exact p4 _ _ _ ((Ext.refl e3.ext.s).new hn) (.lst (SqL.of upd_same) (DpAll.ex (Ex.new hb) _ _ (cut_of hd)))
  · split at p4
    · exact p4.elim
    · rename_i hz
      cases q3 with
      | tup hs hd =>
        refine .inr (.inl ⟨_, _, rfl, sqt_ex e3.ext.s hs, by rw [DpAll.len hd]; exact hz, fun a hn => ?_⟩)
        have hb : B3 a = none := ex_none e3.ext.s hn
        exact p4 _ _ _ ((Ext.refl e3.ext.s).new hn) (.tup (SqT.of upd_same) (DpAll.ex (Ex.new hb) _ _ (cut_of hd)))
  · split at p4
    · rename_i hz
      cases q3
      exact .inr (.inr ⟨_, rfl, sz100 hz, p4 _ B3 H3 e3.here (.str _)⟩)
    · exact p4.elim
  · exact p4.elim
/-! ### something put into an own list at a place -/
def rIns : V → List V → Hp → VK → Prop := fun x vs H Q => ∃ (l : Addr) (xs : List V) (i : Int) (y : V), x = .ref l ∧ vs = [.int i, y] ∧ H l = some (.lst xs) ∧ xs.length < sizeLine ∧ 0 ≤ i ∧ i < 2 ^ 63 ∧
    Q .non (upd H l (.lst (xs.take i.toNat ++ [y] ++ xs.drop i.toNat)))
def gInsX (i : Nat) (fA : Ev → RX (List D)) : Ev → Fl := fun s => if isOwn s i = true then match fA s with
  | .ok ([.int k, d], s1) => match s1[i]? with
    | some (.o ds) => if 0 ≤ k ∧ k < 1000000 ∧ ds.length < 100000 then .nx (s1.set i (.o (ds.take k.toNat ++ [d] ++ ds.drop k.toNat))) else .no
    | _ => .no
  | _ => .no
  else .no
theorem sx_ins {i : Nat} {t : TA} {f : Ev → RX (List D)} (h : SndXA K t f) : SndS K mg W (tDrop (tBM K "list" rIns (tVar i) t)) (gInsX i f) := by
  refine ⟨fun ga B0 H0 B H σ s E e p => ?_⟩
  unfold gInsX at p
  by_cases hO : isOwn s i = true
  case neg =>
    rw [if_neg hO] at p
    exact p.elim
  rw [if_pos hO] at p
  obtain ⟨d0, hi0⟩ : ∃ ds, s[i]? = some (.o ds) := by
    unfold isOwn at hO
    split at hO
    · rename_i ds hi
      exact ⟨ds, hi⟩
    · cases hO
  obtain ⟨a, vs, hσ, hp, hb, h0, hd⟩ := e.own i d0 hi0
  refine ⟨.ref a, hσ, .inl ⟨rfl, vs, SqL.of hp⟩, ?_⟩
  refine h.run ga B0 H0 B H σ s _ e ?_
  cases hf : f s with
  | ok z =>
    obtain ⟨ds, s1⟩ := z
    rw [hf] at p
    intro us B1 H1 _ e1 q
    replace p : SPost K mg W ga B0 H0 E (match (.ok (ds, s1) : RX (List D)) with
      | .ok ([.int k, d], s1) => (match s1[i]? with
        | some (.o ds) => (if 0 ≤ k ∧ k < 1000000 ∧ ds.length < 100000 then .nx (s1.set i (.o (ds.take k.toNat ++ [d] ++ ds.drop k.toNat))) else .no)
        | _ => .no)
      | _ => .no) := p
    split at p
    · rename_i k d s2 hz
      cases hz
      split at p
      · rename_i d1 hi1
        obtain ⟨a', ws, hσ', hp1, hb1, h01, hd1⟩ := e1.own i d1 hi1
        rw [hσ] at hσ'
        cases hσ'
        split at p
        · rename_i hz
          obtain ⟨k0, k1, hl⟩ := hz
          cases q with
          | cons q1 q2 =>
            cases q1
            cases q2 with
            | cons q3 q4 =>
              cases q4
              refine ⟨a, ws, k, _, rfl, rfl, hp1, Evl.sz_lt (by rw [DpAll.len hd1]; exact hl), k0, by omega, ?_⟩
              exact p B1 _ σ (e1.write hi1 hσ hp1 hb1 h01 (DpAll.append (DpAll.append (DpAll.take k.toNat hd1) (.cons q3 .nil)) (DpAll.drop k.toNat hd1)))
        · exact p.elim
      · exact p.elim
    · exact p.elim
  | ex _ =>
    rw [hf] at p
    exact p.elim
  | no =>
    rw [hf] at p
    exact p.elim
end
structure JXO (X : Cx) (W : WX) (e : Option Expr) (t : TO) (f : Ev → RX (Option Int)) : Prop where
  pe : PO X e t
  sd : SndXO X.K t f
section
variable {X : Cx} {W : WX} {e a b : Expr} {es : List Expr} {te ta tb : TE} {tA : TA} {f g : Ev → RX D} {fA : Ev → RX (List D)} {i : Nat} {pos : Pos}
theorem j_notInD {Kk : PySem.W.Frag} {u : Nat} {f g : Ev → R D} (hu0 : u + 65 < cLine) (ha : JE X W a ta f) (hb : JE X W b tb g) (hm : behindInMarks .NotIn b = false := by rfl) (hA : X.A.units = u := by rfl) (hK : X.K = Kk := by rfl) : JE X W (.Compare a [.NotIn] [b] pos) (tOp (rNotInD Kk) ta tb) (fBin (gInD true) f g) := by
  subst hK
  exact ⟨pe_cmpR (op_notInD (hA ▸ hu0)) ha.pe hb.pe hm, snd_bin sr_notInD (inD_nx true) ha.sd hb.sd⟩
theorem t_notInD {Kk : PySem.W.Frag} {u : Nat} {f g : Ev → R D} (hu0 : u + 65 < cLine) (ha : JE X W a ta f) (hb : JE X W b tb g) (hm : behindInMarks .NotIn b = false := by rfl) (hA : X.A.units = u := by rfl) (hK : X.K = Kk := by rfl) : JT X W (.Compare a [.NotIn] [b] pos) (tTest (tOp (rNotInD Kk) ta tb)) (bVal (fBin (gInD true) f g)) := by
  subst hK
  exact ⟨pt_cmpR (op_notInD (hA ▸ hu0)) ha.pe hb.pe hm, snd_test (j_notInD (pos := pos) hu0 ha hb hm hA).sd⟩
theorem x_lst (q : JXA X W es tA fA) : JX X W (.List es pos) (tLst tA) (xLst fA) := ⟨pe_lst q.pe, sx_lst q.sd⟩
theorem xo_none : JXO X W none tNoPart xONone := ⟨po_none, sxo_none⟩
theorem xo_some (q : JX X W e te f) : JXO X W (some e) (tPart te) (xOSome f) := ⟨po_some q.pe, sxo_some q.sd⟩
theorem x_sl {Kk : PySem.W.Frag} {lo hi : Option Expr} {tl th : TO} {l h : Ev → RX (Option Int)} {p2 : Pos} (ha : JX X W e te f) (hl : JXO X W lo tl l) (hh : JXO X W hi th h) (hK : X.K = Kk := by rfl) : JX X W (.Subscript e (.Slice lo hi none p2) pos) (tSl (rSlA Kk) te tl th) (xSl f l h) := by
  subst hK
  exact ⟨pe_slice sl_all ha.pe hl.pe hh.pe, sx_sl ha.sd hl.sd hh.sd⟩
theorem xs_ins (i : Nat) {x : Str} {px p2 p : Pos} (he : JXA X W (e :: es) tA fA) (hN : X.N[i]? = some x := by rfl) (hv : Vis X.env.scope x := by first | exact Or.inl rfl | exact Or.inr (Or.inl rfl) | exact Or.inr (Or.inr rfl)) (hd : (x == ("__debug__" : Str)) = false := by decide) (hcd : (x == ("__classdict__" : Str)) = false := by decide)
    (hs : starEach (e :: es) X.env = (false, eval e X.env) :: starEach es X.env := by rfl) (hbase : attributeBase (.Name x px) "insert" X.env (eval (.Name x px) X.env) = eval (.Name x px) X.env := by rfl)
    (hfew : ((backTo p (starEach (e :: es) X.env)).all (fun x => !x.1) && (backToKw p (keywordEach [] X.env)).all (fun x => x.1.isSome) && decide ((e :: es).length + ([] : List Keyword).length + (if ([] : List Keyword).isEmpty then 0 else 1) < 30)) = true := by rfl)
    (hline : (p2.endLine == p.line) = true := by rfl) (hplain : (backTo p (starEach es X.env)).any (·.1) = false := by rfl) (hsw : swapsWith (.Call (.Attribute (.Name x px) "insert" p2) (e :: es) [] p) none pos.line X.env = pure false := by rfl) :
    JS X W (.Expr (.Call (.Attribute (.Name x px) "insert" p2) (e :: es) [] p) pos) (tDrop (tBM X.K "list" rIns (tVar i) tA)) (gInsX i fA) :=
  ⟨ps_expr (pe_bm PySem.F.plainAttrs_list PySem.F.slot_list_insert PySem.F.type_list_insert mt_insert (pe_var hN hv hd hcd) he.pe hbase hfew hline hs hplain) hsw, sx_ins he.sd⟩
end
end Sf

namespace Sf
open PySem PySem.Spec PyProof.Rows L2
open Evl (Ex)

/-! ### two new lists in a list, tested, then each of them lengthened -/
theorem nest_b {B2 : Hp} {p1 p2 a : Addr} {l1 l2 l3 : HO} (b1 : B2 p1 = none) (b2 : B2 p2 = none) (b3 : B2 a = none) (d12 : p2 ≠ p1) (d1 : a ≠ p1) (d2 : a ≠ p2) :
    Ex B2 (upd (upd (upd B2 p1 l1) p2 l2) a l3) := fun q u e => by
  have h1 : q ≠ p1 := fun z => by rw [z, b1] at e; cases e
  have h2 : q ≠ p2 := fun z => by rw [z, b2] at e; cases e
  have h3 : q ≠ a := fun z => by rw [z, b3] at e; cases e
  rw [upd_ne h3, upd_ne h2, upd_ne h1]
  exact e
theorem nest_ext {B H B2 H2 H3 : Hp} {p1 p2 a : Addr} {l1 l2 l3 : HO} (x : Ext B H B2 H2) (n1 : H p1 = none) (n2 : H p2 = none) (n3 : H a = none) (b1 : B2 p1 = none) (b2 : B2 p2 = none) (b3 : B2 a = none) (d12 : p2 ≠ p1) (d1 : a ≠ p1) (d2 : a ≠ p2)
    (k : ∀ q u, q ≠ p1 → q ≠ p2 → q ≠ a → H2 q = some u → H3 q = some u) (v1 : H3 p1 = some l1) (v2 : H3 p2 = some l2) (v3 : H3 a = some l3) : Ext B H (upd (upd (upd B2 p1 l1) p2 l2) a l3) H3 := by
  refine ⟨x.b.trans (nest_b b1 b2 b3 d12 d1 d2), fun q u e => ?_, fun q u e => ?_, fun q u e n => ?_⟩
  · exact k q u (fun z => by rw [z, n1] at e; cases e) (fun z => by rw [z, n2] at e; cases e) (fun z => by rw [z, n3] at e; cases e) (x.h q u e)
  · by_cases h3 : q = a
    · subst h3
      rw [upd_same] at e
      rw [← e]
      exact v3
    rw [upd_ne h3] at e
    by_cases h2 : q = p2
    · subst h2
      rw [upd_same] at e
      rw [← e]
      exact v2
    rw [upd_ne h2] at e
    by_cases h1 : q = p1
    · subst h1
      rw [upd_same] at e
      rw [← e]
      exact v1
    rw [upd_ne h1] at e
    exact k q u h1 h2 h3 (x.s q u e)
  · have h1 : q ≠ p1 := fun z => by rw [z, n1] at e; cases e
    have h2 : q ≠ p2 := fun z => by rw [z, n2] at e; cases e
    have h3 : q ≠ a := fun z => by rw [z, n3] at e; cases e
    rw [upd_ne h3, upd_ne h2, upd_ne h1]
    exact x.o q u e n
def gNest (i : Nat) (m n : Int) (f1 f2 : Ev → R D) (c : Ev → R Bool) (G : Ev → Fl) : Ev → Fl := fun s => match f1 s with
  | .ok (.list xs) => match f2 s with
    | .ok (.list ys) => match c (s.set i (.v (.list [.list xs, .list ys]))) with
      | .ok false => if i < s.length ∧ xs.length < 100000 ∧ ys.length < 100000 then G (s.set i (.v (.list [.list (xs ++ [.int m]), .list (ys ++ [.int n])]))) else .no
      | _ => .no
    | _ => .no
  | _ => .no
theorem snd_nest {K : PySem.W.Frag} {mg : Str → Option Value} {W : WX} {t1 t2 : TE} {f1 f2 : Ev → R D} {tc : TT} {c : Ev → R Bool} {tu us : TS} {G : Ev → Fl} {i : Nat} {m n : Int} (h1 : SndL K mg W t1 f1) (h2 : SndL K mg W t2 f2) (hc : SndT K mg W tc c) (hu : SndS K mg W us G) :
    SndS K mg W (tSeq (tAsg (tLst (tCons t1 (tCons t2 tNil))) (gName i)) (tSeq (tIfS tc tu tNext) (tSeq (tDrop (tBM K "list" rAppend (tOp (rIx K) (tVar i) (tC (.int 0))) (tCons (tC (.int m)) tNil))) (tSeq (tDrop (tBM K "list" rAppend (tOp (rIx K) (tVar i) (tC (.int 1))) (tCons (tC (.int n)) tNil))) us)))) (gNest i m n f1 f2 c G) := by
  refine ⟨fun ga B0 H0 B H σ s E e p => ?_⟩
  refine h1.run ga B0 H0 B H σ s _ e ?_
  unfold gNest at p
  cases hf1 : f1 s with
  | ex _ =>
    rw [hf1] at p
    exact (show False from p).elim
  | no =>
    rw [hf1] at p
    exact (show False from p).elim
  | ok d1 =>
  rw [hf1] at p
  intro p1 vs1 xs B1 H1 hd1 x1 n1 nb1 g1 q1
  subst hd1
  refine h2.run ga B0 H0 B1 H1 σ s _ (e.more x1) ?_
  replace p : SPost K mg W ga B0 H0 E (match f2 s with
    | .ok (.list ys) => match c (s.set i (.v (.list [.list xs, .list ys]))) with
      | .ok false => if i < s.length ∧ xs.length < 100000 ∧ ys.length < 100000 then G (s.set i (.v (.list [.list (xs ++ [.int m]), .list (ys ++ [.int n])]))) else .no
      | _ => .no
    | _ => .no) := p
  cases hf2 : f2 s with
  | ex _ =>
    rw [hf2] at p
    exact (show False from p).elim
  | no =>
    rw [hf2] at p
    exact (show False from p).elim
  | ok d2 =>
  rw [hf2] at p
  intro p2 vs2 ys B2 H2 hd2 x2 n2 nb2 g2 q2
  subst hd2
  replace p : SPost K mg W ga B0 H0 E (match c (s.set i (.v (.list [.list xs, .list ys]))) with
      | .ok false => if i < s.length ∧ xs.length < 100000 ∧ ys.length < 100000 then G (s.set i (.v (.list [.list (xs ++ [.int m]), .list (ys ++ [.int n])]))) else .no
      | _ => .no) := p
  cases hcc : c (s.set i (.v (.list [.list xs, .list ys]))) with
  | ex _ =>
    rw [hcc] at p
    exact (show False from p).elim
  | no =>
    rw [hcc] at p
    exact (show False from p).elim
  | ok bb =>
  rw [hcc] at p
  cases bb with
  | true => exact (show False from p).elim
  | false =>
  replace p : SPost K mg W ga B0 H0 E (if i < s.length ∧ xs.length < 100000 ∧ ys.length < 100000 then G (s.set i (.v (.list [.list (xs ++ [.int m]), .list (ys ++ [.int n])]))) else .no) := p
  split at p
  case isFalse => exact (show False from p).elim
  rename_i hz
  obtain ⟨hi, z1, z2⟩ := hz
  refine ⟨sz100 (n := 2) (by decide), fun a hn => ?_⟩
  have d12 : p2 ≠ p1 := fun z => by rw [z, g1] at n2; cases n2
  have g1' : H2 p1 = some (.lst vs1) := x2.h _ _ g1
  have d1 : a ≠ p1 := fun z => by rw [z, g1'] at hn; cases hn
  have d2 : a ≠ p2 := fun z => by rw [z, g2] at hn; cases hn
  have nb1' : B2 p1 = none := x2.o p1 _ g1 nb1
  have nb3 : B2 a = none := ex_none x2.s hn
  have m2 : H p2 = none := Evl.fresh_back x1.h n2
  have m3 : H a = none := Evl.fresh_back x1.h (Evl.fresh_back x2.h hn)
  have x12 := x1.trans x2
  have x3 : Ext B H (upd (upd (upd B2 p1 (.lst vs1)) p2 (.lst vs2)) a (.lst [.ref p1, .ref p2])) (upd H2 a (.lst [.ref p1, .ref p2])) :=
    nest_ext x12 n1 m2 m3 nb1' nb2 nb3 d12 d1 d2 (fun q u _ _ h3 hq => by rw [upd_ne h3]; exact hq) (by rw [upd_ne (Ne.symm d1)]; exact g1') (by rw [upd_ne (Ne.symm d2)]; exact g2) upd_same
  have w3 := nest_b (l1 := .lst vs1) (l2 := .lst vs2) (l3 := .lst [.ref p1, .ref p2]) nb1' nb2 nb3 d12 d1 d2
  have r1 := DpAll.ex (x2.b.trans w3) _ _ q1
  have r2 := DpAll.ex w3 _ _ q2
  have at1 : (upd (upd (upd B2 p1 (.lst vs1)) p2 (.lst vs2)) a (.lst [.ref p1, .ref p2])) p1 = some (.lst vs1) := by rw [upd_ne (Ne.symm d1), upd_ne (Ne.symm d12), upd_same]
  have at2 : (upd (upd (upd B2 p1 (.lst vs1)) p2 (.lst vs2)) a (.lst [.ref p1, .ref p2])) p2 = some (.lst vs2) := by rw [upd_ne (Ne.symm d2), upd_same]
  have e3 := (e.more x3).set (i := i) (v := .ref a) (d := .list [.list xs, .list ys]) (.lst (SqL.of upd_same) (.cons (.lst (SqL.of at1) r1) (.cons (.lst (SqL.of at2) r2) .nil)))
  refine hc.run ga B0 H0 _ _ (σ.set i (some (.ref a))) _ _ e3 ?_
  rw [hcc]
  intro B' H' x'
  have k1 : H' p1 = some (.lst vs1) := x'.h _ _ (by rw [upd_ne (Ne.symm d1)]; exact g1')
  have k2 : H' p2 = some (.lst vs2) := x'.h _ _ (by rw [upd_ne (Ne.symm d2)]; exact g2)
  have k3 : H' a = some (.lst [.ref p1, .ref p2]) := x'.h _ _ upd_same
  have hσ : (σ.set i (some (.ref a)))[i]? = some (some (.ref a)) := by
    rw [List.getElem?_set_self (by rw [e.len]; exact hi)]
  refine ⟨.ref a, hσ, .inl ⟨a, _, 0, .ref p1, rfl, rfl, SqL.of k3, rfl, .inl ⟨rfl, vs1, SqL.of k1⟩, p1, vs1, .int m, rfl, rfl, k1, Evl.sz_lt (by rw [DpAll.len q1]; exact z1), ?_⟩⟩
  have j2 : (upd H' p1 (.lst (vs1 ++ [.int m]))) p2 = some (.lst vs2) := by rw [upd_ne d12]; exact k2
  have j3 : (upd H' p1 (.lst (vs1 ++ [.int m]))) a = some (.lst [.ref p1, .ref p2]) := by rw [upd_ne d1]; exact k3
  refine ⟨.ref a, hσ, .inl ⟨a, _, 1, .ref p2, rfl, rfl, SqL.of j3, rfl, .inl ⟨rfl, vs2, SqL.of j2⟩, p2, vs2, .int n, rfl, rfl, j2, Evl.sz_lt (by rw [DpAll.len q2]; exact z2), ?_⟩⟩
  have x4 : Ext B H (upd (upd (upd B2 p1 (.lst (vs1 ++ [.int m]))) p2 (.lst (vs2 ++ [.int n]))) a (.lst [.ref p1, .ref p2])) (upd (upd H' p1 (.lst (vs1 ++ [.int m]))) p2 (.lst (vs2 ++ [.int n]))) :=
    nest_ext x12 n1 m2 m3 nb1' nb2 nb3 d12 d1 d2 (fun q u h1 h2 h3 hq => by rw [upd_ne h2, upd_ne h1]; exact x'.h _ _ (by rw [upd_ne h3]; exact hq)) (by rw [upd_ne (Ne.symm d12), upd_same]) upd_same (by rw [upd_ne d2]; exact j3)
  have w4 := nest_b (l1 := .lst (vs1 ++ [.int m])) (l2 := .lst (vs2 ++ [.int n])) (l3 := .lst [.ref p1, .ref p2]) nb1' nb2 nb3 d12 d1 d2
  have r3 := DpAll.append (DpAll.ex (x2.b.trans w4) _ _ q1) (DpAll.cons (Dp.int m) DpAll.nil)
  have r4 := DpAll.append (DpAll.ex w4 _ _ q2) (DpAll.cons (Dp.int n) DpAll.nil)
  have at3 : (upd (upd (upd B2 p1 (.lst (vs1 ++ [.int m]))) p2 (.lst (vs2 ++ [.int n]))) a (.lst [.ref p1, .ref p2])) p1 = some (.lst (vs1 ++ [.int m])) := by rw [upd_ne (Ne.symm d1), upd_ne (Ne.symm d12), upd_same]
  have at4 : (upd (upd (upd B2 p1 (.lst (vs1 ++ [.int m]))) p2 (.lst (vs2 ++ [.int n]))) a (.lst [.ref p1, .ref p2])) p2 = some (.lst (vs2 ++ [.int n])) := by rw [upd_ne (Ne.symm d2), upd_same]
  exact hu.run ga B0 H0 _ _ (σ.set i (some (.ref a))) _ E ((e.more x4).set (i := i) (v := .ref a) (d := .list [.list (xs ++ [.int m]), .list (ys ++ [.int n])]) (.lst (SqL.of upd_same) (.cons (.lst (SqL.of at3) r3) (.cons (.lst (SqL.of at4) r4) .nil)))) p
section
variable {X : Cx} {W : WX} {x : Str} {p pos px p2 p3 pk pm : Pos} {e1 e2 ce : Expr} {t1 t2 : TE} {f1 f2 : Ev → R D} {tc : TT} {c : Ev → R Bool} {st1 st2 st3 st4 : Stmt} {rest : List Stmt} {tu us : TS} {G : Ev → Fl} {m n : Int}
theorem q_appIx (i : Nat) {j1 j2} {k m : Int} (hN : X.N[i]? = some x := by rfl) (hv : Vis X.env.scope x := by first | exact Or.inl rfl | exact Or.inr (Or.inl rfl) | exact Or.inr (Or.inr rfl)) (hd : (x == ("__debug__" : Str)) = false := by decide) (hcd : (x == ("__classdict__" : Str)) = false := by decide)
    (hpi : PlainIx (.Constant (.int k) j1 pk) := by exact fun _ _ => rfl)
    (hs : starEach [.Constant (.int m) j2 pm] X.env = (false, eval (.Constant (.int m) j2 pm) X.env) :: starEach [] X.env := by rfl) (hbase : attributeBase (.Subscript (.Name x px) (.Constant (.int k) j1 pk) p3) "append" X.env (eval (.Subscript (.Name x px) (.Constant (.int k) j1 pk) p3) X.env) = eval (.Subscript (.Name x px) (.Constant (.int k) j1 pk) p3) X.env := by rfl)
    (hfew : ((backTo p (starEach [.Constant (.int m) j2 pm] X.env)).all (fun x => !x.1) && (backToKw p (keywordEach [] X.env)).all (fun x => x.1.isSome) && decide ([Expr.Constant (.int m) j2 pm].length + ([] : List Keyword).length + (if ([] : List Keyword).isEmpty then 0 else 1) < 30)) = true := by rfl)
    (hline : (p2.endLine == p.line) = true := by rfl) (hplain : (backTo p (starEach [] X.env)).any (·.1) = false := by rfl) (hsw : swapsWith (.Call (.Attribute (.Subscript (.Name x px) (.Constant (.int k) j1 pk) p3) "append" p2) [.Constant (.int m) j2 pm] [] p) none pos.line X.env = pure false := by rfl) :
    PS X (.Expr (.Call (.Attribute (.Subscript (.Name x px) (.Constant (.int k) j1 pk) p3) "append" p2) [.Constant (.int m) j2 pm] [] p) pos) (tDrop (tBM X.K "list" rAppend (tOp (rIx X.K) (tVar i) (tC (.int k))) (tCons (tC (.int m)) tNil))) :=
  ps_expr (pe_bm PySem.F.plainAttrs_list PySem.F.slot_list_append PySem.F.type_list_append mt_append (pe_ix ix_seq (pe_var hN hv hd hcd) pe_int hpi) (pa_cons pe_int pa_nil hs) hbase hfew hline hs hplain) hsw
theorem ss_nest (i : Nat) {as bs : List Stmt} {pos' pl q' r' : Pos} (h1 : JL X W e1 t1 f1) (h2 : JL X W e2 t2 f2) (hc : JT X W ce tc c) (q1 : PS X (.Assign [.Name x pos'] (.List [e1, e2] pl) q') (tAsg (tLst (tCons t1 (tCons t2 tNil))) (gName i))) (q2 : PS X (.If ce as bs r') (tIfS tc tu tNext))
    (q3 : PS X st3 (tDrop (tBM X.K "list" rAppend (tOp (rIx X.K) (tVar i) (tC (.int 0))) (tCons (tC (.int m)) tNil)))) (q4 : PS X st4 (tDrop (tBM X.K "list" rAppend (tOp (rIx X.K) (tVar i) (tC (.int 1))) (tCons (tC (.int n)) tNil)))) (hu : JSs X W rest us G) :
    JSs X W (.Assign [.Name x pos'] (.List [e1, e2] pl) q' :: .If ce as bs r' :: st3 :: st4 :: rest) (tSeq (tAsg (tLst (tCons t1 (tCons t2 tNil))) (gName i)) (tSeq (tIfS tc tu tNext) (tSeq (tDrop (tBM X.K "list" rAppend (tOp (rIx X.K) (tVar i) (tC (.int 0))) (tCons (tC (.int m)) tNil))) (tSeq (tDrop (tBM X.K "list" rAppend (tOp (rIx X.K) (tVar i) (tC (.int 1))) (tCons (tC (.int n)) tNil))) us)))) (gNest i m n f1 f2 c G) :=
  ⟨pss_cons q1 (pss_cons q2 (pss_cons q3 (pss_cons q4 hu.pe))), snd_nest h1.sd h2.sd hc.sd hu.sd⟩
theorem ss_let (i : Nat) {sts : List Stmt} {ts : TS} {F : Ev → Fl} (h : JSs X W sts ts F) : JSs X W sts ts (gLet i F) := ⟨h.pe, snd_let h.sd⟩
end
end Sf

namespace Sf
open PySem PySem.Spec PyProof.Rows L2
open Evl (Ex)

/-! ### a tuple whose last part is a list of the frame that is still changed -/
mutual
def noList : D → Bool
  | .list _ => false
  | .dict _ => false
  | .tuple ds => noLists ds
  | _ => true
def noLists : List D → Bool
  | [] => true
  | d :: r => noList d && noLists r
end
def cutB (B : Hp) (g : Addr) : Hp := fun a => if a = g then none else B a
theorem cutB_ne {B : Hp} {g a : Addr} (h : a ≠ g) : cutB B g a = B a := if_neg h
theorem cutB_same {B : Hp} {g : Addr} : cutB B g g = none := if_pos rfl
section
variable {K : PySem.W.Frag} {mg : Str → Option Value} {W : WX}
theorem sqt_cut {B : Hp} {g a : Addr} {vs xs : List V} (hg : B g = some (.lst vs)) (h : SqT K B a xs) : SqT K (cutB B g) a xs := by
  rcases h with (h | ⟨o, h⟩) | h
  · exact .inl (.inl (by rw [cutB_ne fun z => by rw [z, hg] at h; cases h]; exact h))
  · exact .inl (.inr ⟨o, by rw [cutB_ne fun z => by rw [z, hg] at h; cases h]; exact h⟩)
  · exact .inr h
mutual
theorem dp_cut {B : Hp} {g : Addr} {vs : List V} (hg : B g = some (.lst vs)) : ∀ (d : D) (v : V), Dp K B v d → noList d = true → Dp K (cutB B g) v d
  | .none, _, h, _ => by cases h; exact .non
  | .bool b, _, h, _ => by cases h; exact .bl b
  | .int i, _, h, _ => by cases h; exact .int i
  | .str x, _, h, _ => by cases h; exact .str x
  | .list ds, _, _, n => by simp [noList] at n
  | .tuple ds, _, h, n => by
    cases h with
    | tup hs ha => exact .tup (sqt_cut hg hs) (dps_cut hg ds _ ha (by simpa [noList] using n))
  | .dict _, _, _, n => by simp [noList] at n
theorem dps_cut {B : Hp} {g : Addr} {vs : List V} (hg : B g = some (.lst vs)) : ∀ (ds : List D) (us : List V), DpAll K B us ds → noLists ds = true → DpAll K (cutB B g) us ds
  | [], _, h, _ => by cases h; exact .nil
  | d :: ds, _, h, n => by
    cases h with
    | cons h1 h2 =>
      have n' : noList d = true ∧ noLists ds = true := by simpa [noLists] using n
      exact .cons (dp_cut hg d _ h1 n'.1) (dps_cut hg ds _ h2 n'.2)
end
theorem ext_cut {B H B' H' : Hp} {g : Addr} {o : HO} (hb : B g = none) (x : Ext (upd B g o) H B' H') : Ext B H (cutB B' g) H' := by
  refine ⟨fun q u e => ?_, x.h, fun q u e => ?_, fun q u e n => ?_⟩
  · have ne : q ≠ g := fun z => by rw [z, hb] at e; cases e
    rw [cutB_ne ne]
    exact x.b q u (by rw [upd_ne ne]; exact e)
  · by_cases z : q = g
    · rw [z, cutB_same] at e
      cases e
    · rw [cutB_ne z] at e
      exact x.s q u e
  · by_cases z : q = g
    · rw [z, cutB_same]
    · rw [cutB_ne z]
      exact x.o q u e (by rw [upd_ne z]; exact n)
/-- the pinned list becomes data -/
theorem ER.dropM {g : Addr} {B0 H0 B H : Hp} {σ : L2.St} {s : Ev} {i : Nat} {ds : List D} (x : ER K g B0 H0 B H σ s) (hi : s[i]? = some (.m ds)) :
    ∃ vs, H g = some (.lst vs) ∧ B g = none ∧ DpAll K B vs ds ∧ Ex B (upd B g (.lst vs)) ∧ ER K g B0 H0 (upd B g (.lst vs)) H σ (s.set i (.v (.list ds))) := by
  obtain ⟨vs, hσ, hp, hb, h0, hd⟩ := x.pin.lent i ds hi
  have hlt : i < s.length := (List.getElem?_eq_some_iff.mp hi).1
  have eb : Ex B (upd B g (.lst vs)) := Ex.new hb
  refine ⟨vs, hp, hb, hd, eb, ⟨x.ext.b.trans eb, x.ext.h, fun a u e => ?_, fun a u ea na => ?_⟩, by simp [x.len], fun j e h => ?_, fun j fs h => ?_, fun j k fs gs q h1 h2 h3 h4 => ?_, ⟨fun j fs h => ?_, fun j k fs gs h1 h2 => ?_, fun j k fs gs h1 h2 => ?_, fun j a h => ?_⟩⟩
  · by_cases z : a = g
    · subst z
      rw [upd_same] at e
      rw [← e]
      exact hp
    · rw [upd_ne z] at e
      exact x.ext.s a u e
  · have z : a ≠ g := fun z => by
      subst z
      rw [ea] at h0
      cases h0
    rw [upd_ne z]
    exact x.ext.o a u ea na
  · rcases get_set h with ⟨q, e2⟩ | ⟨_, e2⟩
    · subst q
      cases e2
      exact ⟨.ref g, hσ, .lst (SqL.of upd_same) (DpAll.ex eb _ _ hd)⟩
    · obtain ⟨v, a, b⟩ := x.val j e e2
      exact ⟨v, a, Dp.ex eb _ _ b⟩
  · rcases get_set h with ⟨_, e2⟩ | ⟨_, e2⟩
    · cases e2
    · obtain ⟨q, us, a, b, c, f, k⟩ := x.own j fs e2
      have hq : q ≠ g := fun z => by
        subst z
        exact x.pin.far i j ds fs hi e2 a
      exact ⟨q, us, a, b, by rw [upd_ne hq]; exact c, f, DpAll.ex eb _ _ k⟩
  · rcases get_set h1 with ⟨_, e1⟩ | ⟨_, e1⟩
    · cases e1
    · rcases get_set h2 with ⟨_, e2⟩ | ⟨_, e2⟩
      · cases e2
      · exact x.dis j k _ _ q e1 e2 h3 h4
  · rcases get_set h with ⟨_, e2⟩ | ⟨n, e2⟩
    · cases e2
    · exact absurd (x.pin.one i j ds fs hi e2) n
  · rcases get_set h1 with ⟨_, e1⟩ | ⟨n, e1⟩
    · cases e1
    · exact absurd (x.pin.one i j ds fs hi e1) n
  · rcases get_set h1 with ⟨_, e1⟩ | ⟨n, e1⟩
    · cases e1
    · exact absurd (x.pin.one i j ds fs hi e1) n
  · rcases get_set h with ⟨_, e2⟩ | ⟨_, e2⟩
    · cases e2
    · exact x.pin.adr j a e2
/-- at a: a tuple of two data and the pinned list -/
def TieP (K : PySem.W.Frag) (dx dy : D) (a g : Addr) (B0 : Hp) : Prop := ∃ x y, B0 a = some (.tup [x, y, .ref g]) ∧ Dp K B0 x dx ∧ Dp K B0 y dy
theorem TieP.mono {dx dy : D} {a g : Addr} {B0 B : Hp} (x : Ex B0 B) (h : TieP K dx dy a g B0) : TieP K dx dy a g B := by
  obtain ⟨u, v, h1, h2, h3⟩ := h
  exact ⟨u, v, x _ _ h1, Dp.ex x _ _ h2, Dp.ex x _ _ h3⟩
theorem set_same {α : Type} {L : List α} {i : Nat} {x : α} (h : L[i]? = some x) : L.set i x = L := by
  refine List.ext_getElem? fun j => ?_
  rw [List.getElem?_set]
  split
  · rename_i e
    subst e
    rw [if_pos (List.getElem?_eq_some_iff.mp h).1, h]
  · rfl
/-- the frame in which both may be read as data -/
def thaw (a : Addr) (i j : Nat) (dx dy : D) : Ev → Option Ev := fun s => match s[j]? with
  | some (.m ds) => match s[i]? with
    | some (.x b) => if b = a ∧ i ≠ j then some ((s.set j (.v (.list ds))).set i (.v (.tuple [dx, dy, .list ds]))) else none
    | _ => none
  | _ => none
theorem ER.thaw {g a : Addr} {B0 H0 B H : Hp} {σ : L2.St} {s s1 : Ev} {i j : Nat} {dx dy : D} (x : ER K g B0 H0 B H σ s) (t : TieP K dx dy a g B0) (h : thaw a i j dx dy s = some s1) :
    ∃ vs, H g = some (.lst vs) ∧ B g = none ∧ Ex B (upd B g (.lst vs)) ∧ ER K g B0 H0 (upd B g (.lst vs)) H σ s1 := by
  unfold Sf.thaw at h
  split at h
  case h_2 => cases h
  rename_i ds hj
  split at h
  case h_2 => cases h
  rename_i b hi
  split at h
  case isFalse => cases h
  rename_i hab
  obtain ⟨rfl, hij⟩ := hab
  obtain ⟨vs, h1, h2, h3, eb, e1⟩ := x.dropM hj
  obtain ⟨u, v, t1, t2, t3⟩ := t.mono x.ext.b
  have ne : b ≠ g := fun z => by rw [z, h2] at t1; cases t1
  have hσ := x.pin.adr i b hi
  have e2 := e1.set (i := i) (v := .ref b) (d := .tuple [dx, dy, .list ds]) (.tup (SqT.of (by rw [upd_ne ne]; exact t1)) (.cons (Dp.ex eb _ _ t2) (.cons (Dp.ex eb _ _ t3) (.cons (.lst (SqL.of upd_same) (DpAll.ex eb _ _ h3)) .nil))))
  rw [set_same hσ] at e2
  cases h
  exact ⟨vs, h1, h2, eb, e2⟩
structure SndEP (K : PySem.W.Frag) (mg : Str → Option Value) (W : WX) (a : Addr) (dx dy : D) (t : TE) (f : Ev → R D) : Prop where
  run : ∀ ga B0 H0 B H σ s Q, TieP K dx dy a ga B0 → ER K ga B0 H0 B H σ s → EPost K mg W σ B H Q (f s) → t σ H Q
structure SndSP (K : PySem.W.Frag) (mg : Str → Option Value) (W : WX) (a : Addr) (dx dy : D) (t : TS) (f : Ev → Fl) : Prop where
  run : ∀ ga B0 H0 B H σ s E, TieP K dx dy a ga B0 → ER K ga B0 H0 B H σ s → SPost K mg W ga B0 H0 E (f s) → t E σ H
def gTieE (a : Addr) (i j : Nat) (dx dy : D) (f : Ev → R D) : Ev → R D := fun s => match thaw a i j dx dy s with
  | some s1 => match f s1 with
    | .ok d => if noList d = true then .ok d else .no
    | _ => .no
  | none => .no
theorem se_tie {a : Addr} {i j : Nat} {dx dy : D} {t : TE} {f : Ev → R D} (h : SndE K mg W t f) : SndEP K mg W a dx dy t (gTieE a i j dx dy f) := by
  refine ⟨fun ga B0 H0 B H σ s Q tp e p => ?_⟩
  unfold gTieE at p
  split at p
  case h_2 => exact (show False from p).elim
  rename_i s1 hs
  obtain ⟨vs, h1, h2, eb, e1⟩ := e.thaw tp hs
  refine h.run ga B0 H0 _ H σ s1 Q e1 ?_
  cases hf : f s1 with
  | ex _ =>
    rw [hf] at p
    exact (show False from p).elim
  | no =>
    rw [hf] at p
    exact (show False from p).elim
  | ok d =>
    rw [hf] at p
    replace p : EPost K mg W σ B H Q (if noList d = true then .ok d else .no) := p
    split at p
    case isFalse => exact (show False from p).elim
    rename_i hn
    exact fun v B' H' x q => p v (cutB B' ga) H' (ext_cut h2 x) (dp_cut (x.b ga _ upd_same) d v q hn)
theorem ss_ofS {a : Addr} {dx dy : D} {t : TS} {f : Ev → Fl} (h : SndS K mg W t f) : SndSP K mg W a dx dy t f := ⟨fun ga B0 H0 B H σ s E _ e p => h.run ga B0 H0 B H σ s E e p⟩
def gThaw (a : Addr) (i j : Nat) (dx dy : D) (f : Ev → Fl) : Ev → Fl := fun s => match thaw a i j dx dy s with
  | some s1 => f s1
  | none => .no
theorem sp_thaw {a : Addr} {i j : Nat} {dx dy : D} {t : TS} {f : Ev → Fl} (h : SndS K mg W t f) : SndSP K mg W a dx dy t (gThaw a i j dx dy f) := by
  refine ⟨fun ga B0 H0 B H σ s E tp e p => ?_⟩
  unfold gThaw at p
  split at p
  case h_2 => exact (show False from p).elim
  rename_i s1 hs
  obtain ⟨vs, h1, h2, eb, e1⟩ := e.thaw tp hs
  exact h.run ga B0 H0 _ H σ s1 E e1 p
theorem sp_asg {a : Addr} {dx dy : D} {i : Nat} {t : TE} {f : Ev → R D} (h : SndEP K mg W a dx dy t f) : SndSP K mg W a dx dy (tAsg t (gName i)) (gAsg f (hName i)) := by
  refine ⟨fun ga B0 H0 B H σ s E tp e p => h.run ga B0 H0 B H σ s _ tp e ?_⟩
  unfold gAsg at p
  cases hf : f s with
  | ok d =>
    rw [hf] at p
    exact fun v B1 H1 x q => p B1 H1 _ ((e.more x).set q)
  | ex y =>
    rw [hf] at p
    exact fun cls dd B1 H1 x r => p cls dd B1 H1 σ (e.more x) r
  | no =>
    rw [hf] at p
    exact (show False from p).elim
theorem sp_seq {a : Addr} {dx dy : D} {t u : TS} {f g : Ev → Fl} (ht : SndSP K mg W a dx dy t f) (hu : SndSP K mg W a dx dy u g) : SndSP K mg W a dx dy (tSeq t u) (gSeq f g) := by
  refine ⟨fun ga B0 H0 B H σ s E tp e p => ?_⟩
  refine ht.run ga B0 H0 B H σ s _ tp e ?_
  unfold gSeq at p
  cases hf : f s <;> rw [hf] at p
  case nx s' => exact fun B1 H1 σ1 e1 => hu.run ga B0 H0 B1 H1 σ1 s' E tp e1 p
  all_goals exact p
theorem sp_if {a : Addr} {dx dy : D} {c : TT} {t u : TS} {b : Ev → R Bool} {f g : Ev → Fl} (hc : SndT K mg W c b) (ht : SndSP K mg W a dx dy t f) (hu : SndSP K mg W a dx dy u g) : SndSP K mg W a dx dy (tIfS c t u) (gIfS b f g) := by
  refine ⟨fun ga B0 H0 B H σ s E tp e p => ?_⟩
  refine hc.stm e p fun b B1 H1 _ x e1 p1 => ?_
  cases b with
  | true => exact ht.run ga B0 H0 B1 H1 σ s E tp e1 p1
  | false => exact hu.run ga B0 H0 B1 H1 σ s E tp e1 p1
theorem for_walkP {a0 : Addr} {dx dy : D} {g : TG} {tg : D → Ev → R Ev} {tb : TS} {b : Ev → Fl} (hg : SndG K g tg) (hb : SndSP K mg W a0 dx dy tb b) {ga : Addr} {B0 H0 B1 H1 : Hp} {σ : L2.St} {s : Ev} {E : Ends} {ds : List D} {J : It} (tp : TieP K dx dy a0 ga B0) (wk : Walk K B1 J ds) (e1 : ER K ga B0 H0 B1 H1 σ s) (p1 : SPost K mg W ga B0 H0 E (gLoop tg b ds s)) :
    ∃ W : Nat → Nat → L2.St → Hp → Prop, (∃ m, W 0 m σ H1) ∧ ∀ i m σ H, W i m σ H →
      (J.stop i H ∧ E.nx σ H) ∨ (J.go i H ∧ ∃ N : L2.St → Hp → Prop, (∀ σ' H', N σ' H' → ∃ m', m' < m ∧ W (i + 1) m' σ' H') ∧ ∀ x H', J.yld i H x H' → g x σ H' fun σ2 H2 => tb { E with nx := N, ct := N, bk := E.nx } σ2 H2) := by
  refine ⟨fun i m σ' H' => m = ds.length - i ∧ i ≤ ds.length ∧ ∃ B' s', ER K ga B0 H0 B' H' σ' s' ∧ Ex B1 B' ∧ SPost K mg W ga B0 H0 E (gLoop tg b (ds.drop i) s'), ⟨ds.length, rfl, Nat.zero_le _, B1, s, e1, Ex.refl B1, p1⟩, ?_⟩
  rintro i m σ' H' ⟨rfl, hi2, B', s', e', x', p'⟩
  obtain ⟨go, stop⟩ := wk B' H' x' e'.ext.s
  by_cases hlt : i < ds.length
  · obtain ⟨g1, g2⟩ := go i hlt
    refine .inr ⟨g1, fun σ2 H2 => ∃ B2 s2, ER K ga B0 H0 B2 H2 σ2 s2 ∧ Ex B1 B2 ∧ SPost K mg W ga B0 H0 E (gLoop tg b (ds.drop (i + 1)) s2), fun σ2 H2 ⟨B2, s2, a, c, d⟩ => ⟨ds.length - (i + 1), by omega, rfl, hlt, B2, s2, a, c, d⟩, fun v H2 y => ?_⟩
    obtain ⟨B2, d, x2, hd, q2⟩ := g2 v H2 y
    have e2 := e'.more x2
    have hdr : ds.drop i = d :: ds.drop (i + 1) := by
      obtain ⟨hl, he⟩ := List.getElem?_eq_some_iff.mp hd
      rw [List.drop_eq_getElem_cons hl, he]
    rw [hdr] at p'
    unfold gLoop at p'
    refine hg.run ga B2 H0 B2 H2 σ' s' v d _ e2.floor q2 ?_
    cases ht : tg d s' with
    | ok s1 =>
      rw [ht] at p'
      replace p' : SPost K mg W ga B0 H0 E (match b s1 with | .nx s2 => gLoop tg b (ds.drop (i + 1)) s2 | .ct s2 => gLoop tg b (ds.drop (i + 1)) s2 | .bk s2 => .nx s2 | z => z) := p'
      intro B3 H3 σ3 e3
      have e3' : ER K ga B0 H0 B3 H3 σ3 s1 := ER.unfloor e2.ext e3
      have x3 : Ex B1 B3 := (x'.trans x2.b).trans e3.ext.b
      -- the body, from the floor B3
      refine hb.run ga B3 H0 B3 H3 σ3 s1 _ (tp.mono e3'.ext.b) e3'.floor ?_
      have up : ∀ {B4 H4 : Hp} {σ4 : L2.St} {s4 : Ev}, ER K ga B3 H0 B4 H4 σ4 s4 → ER K ga B0 H0 B4 H4 σ4 s4 ∧ Ex B1 B4 := fun e4 => ⟨ER.unfloor e3'.ext e4, x3.trans e4.ext.b⟩
      cases hb2 : b s1 with
      | nx s2 =>
        rw [hb2] at p'
        exact fun B4 H4 σ4 e4 => ⟨B4, s2, (up e4).1, (up e4).2, p'⟩
      | ct s2 =>
        rw [hb2] at p'
        exact fun B4 H4 σ4 e4 => ⟨B4, s2, (up e4).1, (up e4).2, p'⟩
      | bk s2 =>
        rw [hb2] at p'
        exact fun B4 H4 σ4 e4 => p' B4 H4 σ4 (up e4).1
      | rt r =>
        rw [hb2] at p'
        exact fun v B4 H4 x4 q4 => p' v B4 H4 ⟨e3'.ext.b.trans x4.b, x4.h, x4.s, fun a u h n => x4.o a u h (e3'.ext.o a u h n)⟩ q4
      | rl r =>
        rw [hb2] at p'
        exact fun v ws B4 H4 x4 h0 hb4 h4 q4 => p' v ws B4 H4 ⟨e3'.ext.b.trans x4.b, x4.h, x4.s, fun a u h n => x4.o a u h (e3'.ext.o a u h n)⟩ h0 hb4 h4 q4
      | rm d r =>
        rw [hb2] at p'
        exact fun v ws B4 H4 x4 q0 h4 hb4 q4 => p' v ws B4 H4 ⟨e3'.ext.b.trans x4.b, x4.h, x4.s, fun a u h n => x4.o a u h (e3'.ext.o a u h n)⟩ q0 h4 hb4 q4
      | ex y s2 =>
        rw [hb2] at p'
        exact fun cls dd B4 H4 σ4 e4 q4 => p' cls dd B4 H4 σ4 (up e4).1 q4
      | no =>
        rw [hb2] at p'
        exact (show False from p').elim
    | ex _ =>
      rw [ht] at p'
      exact (show False from p').elim
    | no =>
      rw [ht] at p'
      exact (show False from p').elim
  · have hz : i = ds.length := by omega
    subst hz
    rw [List.drop_length] at p'
    exact .inl ⟨stop, p' B' H' σ' e'⟩
theorem sp_for {a : Addr} {dx dy : D} {wi : TI} {src : Ev → R (List D)} {g : TG} {tg : D → Ev → R Ev} {tb : TS} {b : Ev → Fl} (hi : SndI K mg W wi src) (hg : SndG K g tg) (hb : SndSP K mg W a dx dy tb b) : SndSP K mg W a dx dy (tFor wi g tb) (gFor src tg b) := by
  refine ⟨fun ga B0 H0 B H σ s E tp e p => ?_⟩
  exact hi.stm e p fun ds J B1 H1 _ x wk e1 p1 => for_walkP hg hb tp wk e1 p1
structure SndLP (K : PySem.W.Frag) (mg : Str → Option Value) (W : WX) (a : Addr) (dx dy : D) (t : TE) (f : Ev → R D) : Prop where
  run : ∀ ga B0 H0 B H σ s Q, TieP K dx dy a ga B0 → ER K ga B0 H0 B H σ s → (match f s with
    | .ok d => ∀ (p : Addr) (vs : List V) (ds : List D) B' H', d = .list ds → Ext B H B' H' → H p = none → B' p = none → H' p = some (.lst vs) → DpAll K B' vs ds → Q (.ref p) H'
    | .ex e => ∀ cls dd B' H', Ext B H B' H' → XRep mg K B' e cls dd → W cls dd σ H'
    | .no => False) → t σ H Q
def flatL : R D → R D
  | .ok (.list ds) => if noLists ds = true then .ok (.list ds) else .no
  | _ => .no
def gTieL (a : Addr) (i j : Nat) (dx dy : D) (f : Ev → R D) : Ev → R D := fun s => match thaw a i j dx dy s with
  | some s1 => flatL (f s1)
  | none => .no
theorem sl_tie {a : Addr} {i j : Nat} {dx dy : D} {t : TE} {f : Ev → R D} (h : SndL K mg W t f) : SndLP K mg W a dx dy t (gTieL a i j dx dy f) := by
  refine ⟨fun ga B0 H0 B H σ s Q tp e p => ?_⟩
  cases hs : thaw a i j dx dy s with
  | none =>
    rw [show gTieL a i j dx dy f s = .no by unfold gTieL; rw [hs]] at p
    exact (show False from p).elim
  | some s1 =>
  rw [show gTieL a i j dx dy f s = flatL (f s1) by unfold gTieL; rw [hs]] at p
  obtain ⟨vs, h1, h2, eb, e1⟩ := e.thaw tp hs
  refine h.run ga B0 H0 _ H σ s1 Q e1 ?_
  cases hf : f s1 with
  | ex _ =>
    rw [hf] at p
    exact (show False from p).elim
  | no =>
    rw [hf] at p
    exact (show False from p).elim
  | ok d =>
    rw [hf] at p
    intro q ws ds B' H' hd x n1 n2 g1 hq
    subst hd
    replace p : (match (if noLists ds = true then (R.ok (PyData.list ds) : R D) else .no) with
      | .ok d => ∀ (p : Addr) (vs : List V) (ds : List D) B' H', d = .list ds → Ext B H B' H' → H p = none → B' p = none → H' p = some (.lst vs) → DpAll K B' vs ds → Q (.ref p) H'
      | .ex e => ∀ cls dd B' H', Ext B H B' H' → XRep mg K B' e cls dd → W cls dd σ H'
      | .no => False) := p
    split at p
    case h_3 => exact p.elim
    case h_2 => rename_i hh; split at hh <;> cases hh
    rename_i d hh
    split at hh
    case isFalse => cases hh
    rename_i hn
    cases hh
    refine p q ws ds (cutB B' ga) H' rfl (ext_cut h2 x) n1 ?_ g1 (dps_cut (x.b ga _ upd_same) ds ws hq hn)
    unfold cutB
    split
    · rfl
    · exact n2
theorem sp_own {a : Addr} {dx dy : D} {i : Nat} {t : TE} {f : Ev → R D} (h : SndLP K mg W a dx dy t f) : SndSP K mg W a dx dy (tAsg t (gName i)) (gOwn i f) := by
  refine ⟨fun ga B0 H0 B H σ s E tp e p => h.run ga B0 H0 B H σ s _ tp e ?_⟩
  unfold gOwn at p
  cases hf : f s with
  | ok d =>
    rw [hf] at p
    intro q vs ds B1 H1 hd x h0 hb h1 r
    subst hd
    obtain ⟨z0, new⟩ := own_new e x h0
    exact p B1 H1 _ ((e.more x).setO h1 hb z0 r new (own_newM e h0))
  | ex y =>
    rw [hf] at p
    exact fun cls dd B1 H1 x r => p cls dd B1 H1 σ (e.more x) r
  | no =>
    rw [hf] at p
    exact p.elim
/-- the walk over the pinned list, for a comprehension -/
def sPin (i : Nat) : Ev → R (List D) := fun s => match s[i]? with
  | some (.m ds) => .ok ds
  | _ => .no
theorem sc_pin {i : Nat} : SndC K mg W (iSeq K (tVar i)) (sPin i) := by
  refine ⟨fun ga B0 H0 B H σ s Q e p => ?_⟩
  unfold sPin at p
  cases hi : s[i]? with
  | none =>
    rw [hi] at p
    exact (show False from p).elim
  | some en =>
    rw [hi] at p
    cases en with
    | un => exact (show False from p).elim
    | o ds => exact (show False from p).elim
    | x a => exact (show False from p).elim
    | v d => exact (show False from p).elim
    | m ds =>
      obtain ⟨vs, hσ, hp, hb, h0, hd⟩ := e.pin.lent i ds hi
      refine ⟨.ref ga, hσ, ga, rfl, .inl ⟨⟨vs, SqL.of hp⟩, p _ B H e.here fun B2 H2 x2 => ?_⟩⟩
      have hS : SqL K H2 ga vs := SqL.of (x2.h ga _ hp)
      have hl := DpAll.len hd
      refine ⟨fun j hj => ?_, ⟨vs, hS, by omega⟩⟩
      have hv : j < vs.length := by omega
      refine ⟨⟨vs, vs[j], hS, by simp [hv]⟩, fun v H3 y => ?_⟩
      obtain ⟨rfl, y⟩ := y
      obtain ⟨d, g1, g2⟩ := DpAll.getV hd (y vs hS)
      exact ⟨B2, d, Ext.refl x2.s, g1, Dp.ex x2.b _ _ g2⟩
/-! ### where it begins -/
def noM : Ev → Bool
  | [] => true
  | .m _ :: _ => false
  | _ :: r => noM r
theorem noM_get : ∀ {s : Ev} {i : Nat} {ds : List D}, noM s = true → s[i]? ≠ some (.m ds)
  | [], i, _, _, h => by simp at h
  | e :: r, 0, ds, n, h => by
    rw [List.getElem?_cons_zero] at h
    cases h
    cases n
  | e :: r, i + 1, ds, n, h => by
    rw [List.getElem?_cons_succ] at h
    refine noM_get (s := r) (i := i) (ds := ds) ?_ h
    cases e <;> first | exact n | cases n
open Classical in
noncomputable def gTie (i j : Nat) (f1 f2 : Ev → R D) (G : Addr → D → D → Ev → Fl) : Ev → Fl := fun s => match s[j]? with
  | some (.o ds) => match f1 s with
    | .ok dx => match f2 s with
      | .ok dy => if h : (∃ d, ∀ a, G a dx dy ((s.set j (.m ds)).set i (.x a)) = .rt d) ∧ i ≠ j ∧ i < s.length ∧ noM s = true then .rt (Classical.choose h.1) else .no
      | _ => .no
    | _ => .no
  | _ => .no
theorem tie_rt {i j : Nat} {f1 f2 : Ev → R D} {G : Addr → D → D → Ev → Fl} {s : Ev} {ds : List D} {dx dy d : D} (hj : s[j]? = some (.o ds)) (h1 : f1 s = .ok dx) (h2 : f2 s = .ok dy) (hG : ∀ a, G a dx dy ((s.set j (.m ds)).set i (.x a)) = .rt d) (hi : i ≠ j ∧ i < s.length ∧ noM s = true) (a0 : Addr) :
    gTie i j f1 f2 G s = .rt d := by
  unfold gTie
  rw [hj]
  simp only [h1, h2]
  have h : (∃ d, ∀ a, G a dx dy ((s.set j (.m ds)).set i (.x a)) = .rt d) ∧ i ≠ j ∧ i < s.length ∧ noM s = true := ⟨⟨d, hG⟩, hi⟩
  rw [dif_pos h]
  have e := (Classical.choose_spec h.1 a0).symm.trans (hG a0)
  injection e with e
  rw [e]
open Classical in
theorem snd_tie {i j : Nat} {t1 t2 : TE} {f1 f2 : Ev → R D} {us : TS} {G : Addr → D → D → Ev → Fl} (h1 : SndE K mg W t1 f1) (h2 : SndE K mg W t2 f2) (hu : ∀ a dx dy, SndSP K mg W a dx dy us (G a dx dy)) :
    SndS K mg W (tSeq (tAsg (tTup (tCons t1 (tCons t2 (tCons (tVar j) tNil)))) (gName i)) us) (gTie i j f1 f2 G) := by
  refine ⟨fun ga B0 H0 B H σ s E e p => ?_⟩
  unfold gTie at p
  cases hj : s[j]? with
  | none =>
    rw [hj] at p
    exact (show False from p).elim
  | some en =>
  cases en with
  | un => rw [hj] at p; exact (show False from p).elim
  | v d => rw [hj] at p; exact (show False from p).elim
  | m d => rw [hj] at p; exact (show False from p).elim
  | x d => rw [hj] at p; exact (show False from p).elim
  | o ds =>
  rw [hj] at p
  refine h1.run ga B0 H0 B H σ s _ e ?_
  cases hf1 : f1 s with
  | ex _ => rw [hf1] at p; exact (show False from p).elim
  | no => rw [hf1] at p; exact (show False from p).elim
  | ok dx =>
  rw [hf1] at p
  intro v1 B1 H1 x1 q1
  refine h2.run ga B0 H0 B1 H1 σ s _ (e.more x1) ?_
  cases hf2 : f2 s with
  | ex _ => rw [hf2] at p; exact (show False from p).elim
  | no => rw [hf2] at p; exact (show False from p).elim
  | ok dy =>
  rw [hf2] at p
  intro v2 B2 H2 x2 q2
  replace p : SPost K mg W ga B0 H0 E (if h : (∃ d, ∀ a, G a dx dy ((s.set j (.m ds)).set i (.x a)) = .rt d) ∧ i ≠ j ∧ i < s.length ∧ noM s = true then .rt (Classical.choose h.1) else .no) := p
  split at p
  case isFalse => exact (show False from p).elim
  rename_i hh
  have hG := Classical.choose_spec hh.1
  obtain ⟨_, hij, hil, hnm⟩ := hh
  generalize Classical.choose _ = d at hG p
  have x12 := x1.trans x2
  have e2 := e.more x12
  obtain ⟨g, vs, hσ, hp, hb, h0, hd⟩ := e2.own j ds hj
  refine ⟨.ref g, hσ, sz100 (n := 3) (by decide), fun a hn => ?_⟩
  have nw : Ext B2 H2 (upd B2 a (.tup [v1, v2, .ref g])) (upd H2 a (.tup [v1, v2, .ref g])) := (Ext.refl e2.ext.s).new hn
  have e3 := e2.more nw
  have ne : g ≠ a := fun z => by rw [z, hn] at hp; cases hp
  have e4 : ER K g (upd B2 a (.tup [v1, v2, .ref g])) H0 (upd B2 a (.tup [v1, v2, .ref g])) (upd H2 a (.tup [v1, v2, .ref g])) (σ.set i (some (.ref a))) ((s.set j (.m ds)).set i (.x a)) := by
    refine ⟨⟨Ex.refl _, e3.ext.h, e3.ext.s, fun _ _ _ n => n⟩, by simp [e.len], fun k c h => ?_, fun k c h => ?_, fun k l c c' q k1 k2 k3 k4 => ?_, ⟨fun k c h => ?_, fun k l c c' k1 k2 k3 => ?_, fun k l c c' k1 k2 => ?_, fun k c h => ?_⟩⟩
    · rcases get_set h with ⟨_, z⟩ | ⟨n1, z⟩
      · cases z
      · rcases get_set z with ⟨_, z⟩ | ⟨n2, z⟩
        · cases z
        · rw [List.getElem?_set_ne n1]
          exact e3.val k c z
    · rcases get_set h with ⟨_, z⟩ | ⟨n1, z⟩
      · cases z
      · rcases get_set z with ⟨_, z⟩ | ⟨n2, z⟩
        · cases z
        · rw [List.getElem?_set_ne n1]
          exact e3.own k c z
    · rcases get_set k1 with ⟨_, z⟩ | ⟨n1, z⟩
      · cases z
      rcases get_set z with ⟨_, z⟩ | ⟨n2, z⟩
      · cases z
      rcases get_set k2 with ⟨_, y⟩ | ⟨m1, y⟩
      · cases y
      rcases get_set y with ⟨_, y⟩ | ⟨m2, y⟩
      · cases y
      rw [List.getElem?_set_ne n1] at k3
      rw [List.getElem?_set_ne m1] at k4
      exact e3.dis k l c c' q z y k3 k4
    · rcases get_set h with ⟨_, z⟩ | ⟨n1, z⟩
      · cases z
      rcases get_set z with ⟨q, z2⟩ | ⟨n2, z2⟩
      · subst q
        cases z2
        rw [List.getElem?_set_ne n1]
        exact ⟨vs, hσ, by rw [upd_ne ne]; exact hp, by rw [upd_ne ne]; exact hb, h0, DpAll.ex nw.b _ _ hd⟩
      · exact absurd z2 (noM_get hnm)
    · rcases get_set k1 with ⟨_, z⟩ | ⟨n1, z⟩
      · cases z
      rcases get_set z with ⟨q, z2⟩ | ⟨n2, z2⟩
      · subst q
        rcases get_set k2 with ⟨_, y⟩ | ⟨m1, y⟩
        · cases y
        rcases get_set y with ⟨_, y⟩ | ⟨m2, y⟩
        · cases y
        rw [List.getElem?_set_ne m1] at k3
        exact m2 (e3.dis j l ds c' g hj y hσ k3)
      · exact absurd z2 (noM_get hnm)
    · rcases get_set k1 with ⟨_, z⟩ | ⟨n1, z⟩
      · cases z
      rcases get_set z with ⟨q, z2⟩ | ⟨n2, z2⟩
      · rcases get_set k2 with ⟨_, y⟩ | ⟨m1, y⟩
        · cases y
        rcases get_set y with ⟨q', y⟩ | ⟨m2, y⟩
        · exact q.symm.trans q'
        · exact absurd y (noM_get hnm)
      · exact absurd z2 (noM_get hnm)
    · rcases get_set h with ⟨q, z⟩ | ⟨n1, z⟩
      · subst q
        cases z
        rw [List.getElem?_set_self (by rw [e.len]; exact hil)]
      · rcases get_set z with ⟨_, z⟩ | ⟨n2, z⟩
        · cases z
        · rw [List.getElem?_set_ne n1]
          exact e3.pin.adr k c z
  have tp : TieP K dx dy a g (upd B2 a (.tup [v1, v2, .ref g])) := ⟨v1, v2, upd_same, Dp.ex (x2.b.trans nw.b) _ _ q1, Dp.ex nw.b _ _ q2⟩
  refine (hu a dx dy).run g _ H0 _ _ _ _ E tp e4 ?_
  rw [hG a]
  exact fun v B' H' x q => p v B' H' ⟨e3.ext.b.trans x.b, x.h, x.s, fun a u h n => x.o a u h (e3.ext.o a u h n)⟩ q
end
structure JSP (X : Cx) (W : WX) (a0 : Addr) (dx dy : D) (st : Stmt) (t : TS) (f : Ev → Fl) : Prop where
  pe : PS X st t
  sd : SndSP X.K X.mg W a0 dx dy t f
structure JSsP (X : Cx) (W : WX) (a0 : Addr) (dx dy : D) (st : List Stmt) (t : TS) (f : Ev → Fl) : Prop where
  pe : PSs X st t
  sd : SndSP X.K X.mg W a0 dx dy t f
section
variable {X : Cx} {W : WX} {x : Str} {p pos pos' : Pos} {e a b tg : Expr} {es : List Expr} {t ta tb te : TE} {tA : TA} {f g : Ev → R D} {fA : Ev → R (List D)} {st : Stmt} {sts : List Stmt} {ts us : TS} {F G : Ev → Fl} {a0 : Addr} {dx dy : D}
theorem p_ofS (h : JS X W st ts F) : JSP X W a0 dx dy st ts F := ⟨h.pe, ss_ofS h.sd⟩
theorem pp_nil : JSsP X W a0 dx dy [] tNext gNext := ⟨pss_nil, ss_ofS snd_next⟩
theorem pp_one (h : JSP X W a0 dx dy st ts F) : JSsP X W a0 dx dy [st] ts F := ⟨pss_one h.pe, h.sd⟩
theorem pp_cons (h : JSP X W a0 dx dy st ts F) (k : JSsP X W a0 dx dy sts us G) : JSsP X W a0 dx dy (st :: sts) (tSeq ts us) (gSeq F G) := ⟨pss_cons h.pe k.pe, sp_seq h.sd k.sd⟩
theorem p_if {c : Expr} {as bs : List Stmt} {tc : TT} {cb : Ev → R Bool} (hc : JT X W c tc cb) (ha : JSsP X W a0 dx dy as ts F) (hb : JSsP X W a0 dx dy bs us G) : JSP X W a0 dx dy (.If c as bs pos) (tIfS tc ts us) (gIfS cb F G) := ⟨ps_if hc.pe ha.pe hb.pe, sp_if hc.sd ha.sd hb.sd⟩
theorem p_for {iter : Expr} {body : List Stmt} {wi : TI} {src : Ev → R (List D)} {g : TG} {h : D → Ev → R Ev} (hp : PassesOwn (model X.prog X.w) X.A X.env X.xe) (hc : X.calm = true) (hi : JI X W tg iter wi src) (hg : JG X tg g h) (hb : JSsP X W a0 dx dy body ts F) (hs : ∀ x, foldedSetIterable iter X.env x = pure x := by intro _; rfl) :
    JSP X W a0 dx dy (.For tg iter body [] pos) (tFor wi g ts) (gFor src h F) := ⟨ps_for hp hc hi.pe hg.pe hb.pe hs, sp_for hi.sd hg.sd hb.sd⟩
theorem p_set (I J i : Nat) {x : Str} {pos' : Pos} (hN : X.N.Nodup) (h : JE X W e te f) (hi : X.N[i]? = some x := by rfl) (hx : Loc X.env.scope x := by first | exact .inl rfl | exact .inr rfl) (hs : swapsWith e (some (.Name x pos')) pos.line X.env = pure false := by rfl) (hf : X.fn x = true ∨ X.env.scope.names.lookup x = some .local := by first | exact .inl rfl | exact .inr rfl) :
    JSP X W a0 dx dy (.Assign [.Name x pos'] e pos) (tAsg te (gName i)) (gAsg (gTieE a0 I J dx dy f) (hName i)) := ⟨ps_set hN hi hx h.pe hs hf, sp_asg (se_tie h.sd)⟩
theorem p_own (I J i : Nat) {x : Str} {pos' : Pos} (hN : X.N.Nodup) (h : JL X W e te f) (hi : X.N[i]? = some x := by rfl) (hx : Loc X.env.scope x := by first | exact .inl rfl | exact .inr rfl) (hs : swapsWith e (some (.Name x pos')) pos.line X.env = pure false := by rfl) (hf : X.fn x = true ∨ X.env.scope.names.lookup x = some .local := by first | exact .inl rfl | exact .inr rfl) :
    JSP X W a0 dx dy (.Assign [.Name x pos'] e pos) (tAsg te (gName i)) (gOwn i (gTieL a0 I J dx dy f)) := ⟨ps_set hN hi hx h.pe hs hf, sp_own (sl_tie h.sd)⟩
theorem p_thaw (I J : Nat) (h : JS X W st ts F) : JSP X W a0 dx dy st ts (gThaw a0 I J dx dy F) := ⟨h.pe, sp_thaw h.sd⟩
theorem c_pin {Kk : PySem.W.Frag} (i : Nat) {x : Str} {pos : Pos} (hN : X.N[i]? = some x := by rfl) (hv : Vis X.env.scope x := by first | exact Or.inl rfl | exact Or.inr (Or.inl rfl) | exact Or.inr (Or.inr rfl)) (hd : (x == ("__debug__" : Str)) = false := by decide)
    (hcd : (x == ("__classdict__" : Str)) = false := by decide) (hK : X.K = Kk := by rfl) : JC X W tg (.Name x pos) (iSeq Kk (tVar i)) (sPin i) := by
  subst hK
  exact ⟨pi_seq (pe_var hN hv hd hcd), sc_pin⟩
theorem ss_tie (i j : Nat) {x3 : Expr} {k' : Nat} {pt : Pos} {H : Addr → D → D → Ev → Fl} (h1 : JE X W a ta f) (h2 : JE X W b tb g) (q : PS X (.Assign [.Name x pos'] (.Tuple [a, b, x3] k' pt) pos) (tAsg (tTup (tCons ta (tCons tb (tCons (tVar j) tNil)))) (gName i))) (hu : ∀ a0 dx dy, JSsP X W a0 dx dy sts us (H a0 dx dy)) :
    JSs X W (.Assign [.Name x pos'] (.Tuple [a, b, x3] k' pt) pos :: sts) (tSeq (tAsg (tTup (tCons ta (tCons tb (tCons (tVar j) tNil)))) (gName i)) us) (gTie i j f g H) :=
  ⟨pss_cons q (hu (0 : Nat) .none .none).pe, snd_tie h1.sd h2.sd fun a0 dx dy => (hu a0 dx dy).sd⟩
end
end Sf

namespace Sf
open PySem PySem.Spec PyProof.Rows L2
open Evl (Ex)

/-! ### an own list loses an item -/
def xPop (i : Nat) : Ev → RX D := fun s => match s[i]? with
  | some (.o ds) => match ds[ds.length - 1]? with
    | some d => .ok (d, s.set i (.o ds.dropLast))
    | none => .no
  | some (.m ds) => match ds[ds.length - 1]? with
    | some d => .ok (d, s.set i (.m ds.dropLast))
    | none => .no
  | _ => .no
def xPopAt (i : Nat) (fA : Ev → RX (List D)) : Ev → RX D := fun s => if isOwn s i = true then match fA s with
  | .ok ([.int k], s1) => match s1[i]? with
    | some (.o ds) => if inM k = true then match ixN ds.length k with
      | some j => match ds[j]? with
        | some d => .ok (d, s1.set i (.o (ds.eraseIdx j)))
        | none => .no
      | none => .no
      else .no
    | _ => .no
  | _ => .no
  else .no
/-- an own list made empty -/
def gClr (i : Nat) : Ev → Fl := fun s => match s[i]? with
  | some (.o _) => .nx (s.set i (.o []))
  | _ => .no
/-- whether an own list has items -/
def bOwn (i : Nat) : Ev → R Bool := fun s => match s[i]? with
  | some (.o ds) => .ok (!ds.isEmpty)
  | some (.m ds) => .ok (!ds.isEmpty)
  | _ => .no
def gTupOf : List D → R D
  | [.list ds] => .ok (.tuple ds)
  | [.tuple ds] => .ok (.tuple ds)
  | _ => .no
section
variable {K : PySem.W.Frag} {mg : Str → Option Value} {W : WX}
theorem DpAll.dropLast {H : Hp} : ∀ {ds : List D} {vs : List V}, DpAll K H vs ds → DpAll K H vs.dropLast ds.dropLast
  | [], _, h => by cases h; exact .nil
  | [d], _, h => by
    cases h with
    | cons _ h2 =>
      cases h2
      exact .nil
  | d :: e :: ds, _, h => by
    cases h with
    | cons h1 h2 =>
      cases h2 with
      | cons h3 h4 => exact .cons h1 (DpAll.dropLast (.cons h3 h4))
theorem DpAll.eraseIdx {H : Hp} : ∀ {ds : List D} {vs : List V} (j : Nat), DpAll K H vs ds → DpAll K H (vs.eraseIdx j) (ds.eraseIdx j)
  | [], _, _, h => by cases h; exact .nil
  | _ :: _, _, 0, h => by
    cases h with
    | cons _ h2 => exact h2
  | _ :: _, _, j + 1, h => by
    cases h with
    | cons h1 h2 => exact .cons h1 (DpAll.eraseIdx j h2)
theorem sx_pop {i : Nat} : SndX K (tBM0 K "list" rPop (tVar i)) (xPop i) := by
  refine ⟨fun ga B0 H0 B H σ s Q e p => ?_⟩
  unfold xPop at p
  split at p
  · rename_i ds hi
    obtain ⟨a, vs, hσ, hp, hb, h0, hd⟩ := e.own i ds hi
    split at p
    · rename_i d hx
      obtain ⟨v, hv, q⟩ := DpAll.get hd hx
      refine ⟨.ref a, hσ, .inl ⟨rfl, vs, SqL.of hp⟩, a, vs, v, rfl, rfl, hp, by rw [DpAll.len hd]; exact hv, ?_⟩
      exact p v B _ (Ex.refl B) (e.write hi hσ hp hb h0 (DpAll.dropLast hd)) q
    · exact p.elim
  · rename_i ds hi
    obtain ⟨vs, hσ, hp, hb, h0, hd⟩ := e.pin.lent i ds hi
    split at p
    · rename_i d hx
      obtain ⟨v, hv, q⟩ := DpAll.get hd hx
      refine ⟨.ref ga, hσ, .inl ⟨rfl, vs, SqL.of hp⟩, ga, vs, v, rfl, rfl, hp, by rw [DpAll.len hd]; exact hv, ?_⟩
      exact p v B _ (Ex.refl B) (e.writeM hi (DpAll.dropLast hd)) q
    · exact p.elim
  · exact p.elim
theorem sx_popAt {i : Nat} {t : TA} {f : Ev → RX (List D)} (h : SndXA K t f) : SndX K (tBM K "list" rPopAt (tVar i) t) (xPopAt i f) := by
  refine ⟨fun ga B0 H0 B H σ s Q e p => ?_⟩
  unfold xPopAt at p
  by_cases hO : isOwn s i = true
  case neg =>
    rw [if_neg hO] at p
    exact p.elim
  rw [if_pos hO] at p
  obtain ⟨d0, hi0⟩ : ∃ ds, s[i]? = some (.o ds) := by
    unfold isOwn at hO
    split at hO
    · rename_i ds hi
      exact ⟨ds, hi⟩
    · cases hO
  obtain ⟨a, vs, hσ, hp, hb, h0, hd⟩ := e.own i d0 hi0
  refine ⟨.ref a, hσ, .inl ⟨rfl, vs, SqL.of hp⟩, ?_⟩
  refine h.run ga B0 H0 B H σ s _ e ?_
  cases hf : f s with
  | ok z =>
    obtain ⟨ds, s1⟩ := z
    rw [hf] at p
    intro us B1 H1 x1 e1 q
    replace p : XPost K ga B0 H0 B σ Q (match (.ok (ds, s1) : RX (List D)) with
      | .ok ([.int k], s1) => (match s1[i]? with
        | some (.o ds) => (if inM k = true then (match ixN ds.length k with
          | some j => (match ds[j]? with
            | some d => .ok (d, s1.set i (.o (ds.eraseIdx j)))
            | none => .no)
          | none => .no) else .no)
        | _ => .no)
      | _ => .no) := p
    split at p
    · rename_i k s2 hz
      cases hz
      split at p
      · rename_i d1 hi1
        obtain ⟨a', ws, hσ', hp1, hb1, h01, hd1⟩ := e1.own i d1 hi1
        rw [hσ] at hσ'
        cases hσ'
        split at p
        · rename_i hk
          split at p
          · rename_i j hj
            split at p
            · rename_i d hx
              obtain ⟨v, hv, qv⟩ := DpAll.get hd1 hx
              cases q with
              | cons q1 q2 =>
                cases q1
                cases q2
                have hm := inM_of hk
                refine ⟨a, ws, k, j, v, rfl, rfl, hp1, by omega, by omega, by rw [DpAll.len hd1]; exact (ixN_seq hj).1, hv, ?_⟩
                exact p v B1 _ x1 (e1.write hi1 hσ hp1 hb1 h01 (DpAll.eraseIdx j hd1)) qv
            · exact p.elim
          · exact p.elim
        · exact p.elim
      · exact p.elim
    · exact p.elim
  | ex _ =>
    rw [hf] at p
    exact p.elim
  | no =>
    rw [hf] at p
    exact p.elim
theorem snd_clr {i : Nat} : SndS K mg W (tDrop (tBM0 K "list" rClear (tVar i))) (gClr i) := by
  refine ⟨fun ga B0 H0 B H σ s E e p => ?_⟩
  unfold gClr at p
  split at p
  · rename_i ds hi
    obtain ⟨a, vs, hσ, hp, hb, h0, hd⟩ := e.own i ds hi
    exact ⟨.ref a, hσ, .inl ⟨rfl, vs, SqL.of hp⟩, a, vs, rfl, rfl, hp, p B _ σ (e.write hi hσ hp hb h0 .nil)⟩
  · exact p.elim
theorem snd_own_tru {i : Nat} : SndT K mg W (fun σ H Q => tVar i σ H fun x H' => ∃ k, TruV K x H' k ∧ Q k H') (bOwn i) := by
  refine ⟨fun ga B0 H0 B H σ s Q e p => ?_⟩
  unfold bOwn at p
  split at p
  · rename_i ds hi
    obtain ⟨a, vs, hσ, hp, hb, h0, hd⟩ := e.own i ds hi
    exact ⟨.ref a, hσ, _, .inl ⟨vs, SqL.of hp, rfl⟩, by rw [empt hd]; exact p B H e.here⟩
  · rename_i ds hi
    obtain ⟨vs, hσ, hp, hb, h0, hd⟩ := e.pin.lent i ds hi
    exact ⟨.ref ga, hσ, _, .inl ⟨vs, SqL.of hp, rfl⟩, by rw [empt hd]; exact p B H e.here⟩
  · exact p.elim
def rTupOf (K : PySem.W.Frag) : List V → Hp → VK → Prop := fun xs H Q => ∃ p ys, xs = [.ref p] ∧ ((SqL K H p ys ∧ ∀ l, H l = none → Q (.ref l) (upd H l (.tup ys))) ∨ (SqT K H p ys ∧ Q (.ref p) H))
theorem tupOf_nx (d : List D) (x : Exn) : gTupOf d ≠ .ex x := by
  unfold gTupOf
  split <;> exact fun z => nomatch z
theorem sr_tupOf : SndRL K (rTupOf K) gTupOf := by
  refine ⟨fun B H xs ds Q eb h p => ?_⟩
  unfold gTupOf at p
  split at p
  · obtain ⟨v, rfl, q⟩ := dp1 h
    cases q with
    | lst hs hA =>
      refine ⟨_, _, rfl, .inl ⟨sql_ex eb hs, fun l hn => ?_⟩⟩
      have hb : B l = none := ex_none eb hn
      exact p (.ref l) _ _ ((Ext.refl eb).new hn) (.tup (SqT.of upd_same) (DpAll.ex (Ex.new hb) _ _ hA))
  · obtain ⟨v, rfl, q⟩ := dp1 h
    cases q with
    | tup hs hA => exact ⟨_, _, rfl, .inr ⟨sqt_ex eb hs, p _ B H (Ext.refl eb) (.tup hs hA)⟩⟩
  · exact p.elim
end
/-- a place of an own list given what an expression with an effect gives -/
def gPutX (i : Nat) (f : Ev → RX D) (g : Ev → R D) : Ev → Fl := fun s => match f s with
  | .ok (d, s1) => match s1[i]? with
    | some (.o ds) => xf s1 (g s1) fun
      | .int k => match ixN ds.length k with
        | some j => .nx (s1.set i (.o (ds.set j d)))
        | none => .no
      | _ => .no
    | _ => .no
  | _ => .no
section
variable {K : PySem.W.Frag} {mg : Str → Option Value} {W : WX}
theorem sx_put {i : Nat} {t u : TE} {f : Ev → RX D} {g : Ev → R D} (h : SndX K t f) (k : SndE K mg W u g) : SndS K mg W (tAsg t (gSub (tVar i) u rSetL)) (gPutX i f g) := by
  refine ⟨fun ga B0 H0 B H σ s E e p => h.run ga B0 H0 B H σ s _ e ?_⟩
  unfold gPutX at p
  cases hf : f s with
  | ok z =>
    obtain ⟨d, s1⟩ := z
    rw [hf] at p
    intro v B1 H1 _ e1 q
    replace p : SPost K mg W ga B0 H0 E (match s1[i]? with
      | some (.o ds) => (xf s1 (g s1) fun
        | .int k => (match ixN ds.length k with
          | some j => .nx (s1.set i (.o (ds.set j d)))
          | none => .no)
        | _ => .no)
      | _ => .no) := p
    split at p
    · rename_i ds hi
      obtain ⟨a, vs, hσ, hp, hb, h0, hd⟩ := e1.own i ds hi
      refine ⟨.ref a, hσ, ?_⟩
      refine k.stm e1 p fun d2 v2 B2 H2 _ x2 q2 e2 p2 => ?_
      have hp1 : H2 a = some (.lst vs) := x2.h a _ hp
      have hb1 : B2 a = none := x2.o a _ hp hb
      cases q2 with
      | int j =>
        replace p2 : SPost K mg W ga B0 H0 E (match ixN ds.length j with | some j => .nx (s1.set i (.o (ds.set j d))) | none => .no) := p2
        split at p2
        · rename_i m hm
          refine ⟨a, vs, j, m, rfl, rfl, hp1, by rw [DpAll.len hd]; exact hm, ?_⟩
          exact p2 B2 _ σ (e2.write hi hσ hp1 hb1 h0 (DpAll.set (Dp.ex x2.b _ _ q) m (DpAll.ex x2.b _ _ hd)))
        · exact p2.elim
      | _ => exact p2.elim
    · exact p.elim
  | ex _ =>
    rw [hf] at p
    exact p.elim
  | no =>
    rw [hf] at p
    exact p.elim
end
theorem sr_inD {K : PySem.W.Frag} : SndR2 K (rInD K) (gInD false) := by
  refine ⟨fun B H x y d e Q eb hx hy p => ?_⟩
  unfold gInD at p
  split at p
  · split at p
    · rename_i h
      rw [Bool.and_eq_true] at h
      exact ⟨_, _, Dp.ex eb _ _ hx, Dp.ex eb _ _ hy, h.1, h.2, p _ B H (Ext.refl eb) (.bl _)⟩
    · exact p.elim
  · exact p.elim
section
variable {X : Cx} {W : WX} {e a b : Expr} {es : List Expr} {te ta tb : TE} {tA : TA} {f g : Ev → RX D} {fA : Ev → RX (List D)} {i : Nat} {pos p : Pos}
theorem xs_put (i : Nat) {x : Str} {px : Pos} {g : Ev → R D} (he : JX X W e te f) (hb : JE X W b tb g) (hN : X.N[i]? = some x := by rfl) (hv : Vis X.env.scope x := by first | exact Or.inl rfl | exact Or.inr (Or.inl rfl) | exact Or.inr (Or.inr rfl)) (hd : (x == ("__debug__" : Str)) = false := by decide) (hcd : (x == ("__classdict__" : Str)) = false := by decide)
    (hq : ∀ v, assign (.Subscript (.Name x px) b p) X.env v = (do
      let ov ← holding [v] (eval (.Name x px) X.env)
      let iv ← holding [v, ov] (eval b X.env)
      standAt p
      holding [v, ov, iv] (setItem ov iv v)
      release [v, ov, iv] []) := by intro _; rfl)
    (hs : swapsWithSole [.Subscript (.Name x px) b p] e pos.line X.env = pure false := by rfl) (hw : swappedStores [.Subscript (.Name x px) b p] e X.env = pure none := by rfl) (h1 : (assignEach [.Subscript (.Name x px) b p] X.env).map (·.2) = [assign (.Subscript (.Name x px) b p) X.env] := by rfl) :
    JS X W (.Assign [.Subscript (.Name x px) b p] e pos) (tAsg te (gSub (tVar i) tb rSetL)) (gPutX i f g) := ⟨ps_asg he.pe (pg_sub (pe_var hN hv hd hcd) hb.pe set_list hq) hs hw h1, sx_put he.sd hb.sd⟩
theorem j_inD {Kk : PySem.W.Frag} {u : Nat} {f g : Ev → R D} (hu0 : u + 65 < cLine) (ha : JE X W a ta f) (hb : JE X W b tb g) (hm : behindInMarks .In b = false := by rfl) (hA : X.A.units = u := by rfl) (hK : X.K = Kk := by rfl) : JE X W (.Compare a [.In] [b] pos) (tOp (rInD Kk) ta tb) (fBin (gInD false) f g) := by
  subst hK
  exact ⟨pe_cmpR (op_inD (hA ▸ hu0)) ha.pe hb.pe hm, snd_bin sr_inD (inD_nx false) ha.sd hb.sd⟩
theorem t_inD {Kk : PySem.W.Frag} {u : Nat} {f g : Ev → R D} (hu0 : u + 65 < cLine) (ha : JE X W a ta f) (hb : JE X W b tb g) (hm : behindInMarks .In b = false := by rfl) (hA : X.A.units = u := by rfl) (hK : X.K = Kk := by rfl) : JT X W (.Compare a [.In] [b] pos) (tTest (tOp (rInD Kk) ta tb)) (bVal (fBin (gInD false) f g)) := by
  subst hK
  exact ⟨pt_cmpR (op_inD (hA ▸ hu0)) ha.pe hb.pe hm, snd_test (j_inD (pos := pos) hu0 ha hb hm hA).sd⟩
theorem x_pop (i : Nat) {x : Str} {px p2 : Pos} (hN : X.N[i]? = some x := by rfl) (hv : Vis X.env.scope x := by first | exact Or.inl rfl | exact Or.inr (Or.inl rfl) | exact Or.inr (Or.inr rfl)) (hd : (x == ("__debug__" : Str)) = false := by decide) (hcd : (x == ("__classdict__" : Str)) = false := by decide)
    (hbase : attributeBase (.Name x px) "pop" X.env (eval (.Name x px) X.env) = eval (.Name x px) X.env := by rfl) (hline : (p2.endLine == p.line) = true := by rfl) :
    JX X W (.Call (.Attribute (.Name x px) "pop" p2) [] [] p) (tBM0 X.K "list" rPop (tVar i)) (xPop i) :=
  ⟨pe_bm0 PySem.F.plainAttrs_list PySem.F.slot_list_pop PySem.F.type_list_pop mt_pop (pe_var hN hv hd hcd) hbase hline, sx_pop⟩
theorem x_popAt (i : Nat) {x : Str} {px p2 : Pos} (he : JXA X W (e :: es) tA fA) (hN : X.N[i]? = some x := by rfl) (hv : Vis X.env.scope x := by first | exact Or.inl rfl | exact Or.inr (Or.inl rfl) | exact Or.inr (Or.inr rfl)) (hd : (x == ("__debug__" : Str)) = false := by decide) (hcd : (x == ("__classdict__" : Str)) = false := by decide)
    (hs : starEach (e :: es) X.env = (false, eval e X.env) :: starEach es X.env := by rfl) (hbase : attributeBase (.Name x px) "pop" X.env (eval (.Name x px) X.env) = eval (.Name x px) X.env := by rfl)
    (hfew : ((backTo p (starEach (e :: es) X.env)).all (fun x => !x.1) && (backToKw p (keywordEach [] X.env)).all (fun x => x.1.isSome) && decide ((e :: es).length + ([] : List Keyword).length + (if ([] : List Keyword).isEmpty then 0 else 1) < 30)) = true := by rfl)
    (hline : (p2.endLine == p.line) = true := by rfl) (hplain : (backTo p (starEach es X.env)).any (·.1) = false := by rfl) :
    JX X W (.Call (.Attribute (.Name x px) "pop" p2) (e :: es) [] p) (tBM X.K "list" rPopAt (tVar i) tA) (xPopAt i fA) :=
  ⟨pe_bm PySem.F.plainAttrs_list PySem.F.slot_list_pop PySem.F.type_list_pop mt_popAt (pe_var hN hv hd hcd) he.pe hbase hfew hline hs hplain, sx_popAt he.sd⟩
theorem s_clr (i : Nat) {x : Str} {px p2 : Pos} (hN : X.N[i]? = some x := by rfl) (hv : Vis X.env.scope x := by first | exact Or.inl rfl | exact Or.inr (Or.inl rfl) | exact Or.inr (Or.inr rfl)) (hd : (x == ("__debug__" : Str)) = false := by decide) (hcd : (x == ("__classdict__" : Str)) = false := by decide)
    (hbase : attributeBase (.Name x px) "clear" X.env (eval (.Name x px) X.env) = eval (.Name x px) X.env := by rfl) (hline : (p2.endLine == p.line) = true := by rfl) (hsw : swapsWith (.Call (.Attribute (.Name x px) "clear" p2) [] [] p) none pos.line X.env = pure false := by rfl) :
    JS X W (.Expr (.Call (.Attribute (.Name x px) "clear" p2) [] [] p) pos) (tDrop (tBM0 X.K "list" rClear (tVar i))) (gClr i) :=
  ⟨ps_expr (pe_bm0 PySem.F.plainAttrs_list PySem.F.slot_list_clear PySem.F.type_list_clear mt_clear (pe_var hN hv hd hcd) hbase hline) hsw, snd_clr⟩
theorem t_own {Kk : PySem.W.Frag} (i : Nat) {x : Str} {px : Pos} (hN : X.N[i]? = some x := by rfl) (hv : Vis X.env.scope x := by first | exact Or.inl rfl | exact Or.inr (Or.inl rfl) | exact Or.inr (Or.inr rfl)) (hd : (x == ("__debug__" : Str)) = false := by decide) (hcd : (x == ("__classdict__" : Str)) = false := by decide)
    (he : ∀ whole, isTrue (.Name x px) X.env whole = (do let v ← whole; standAt px; holding [v] (truthy v)) := by exact fun _ => rfl) (hK : X.K = Kk := by rfl) : JT X W (.Name x px) (fun σ H Q => tVar i σ H fun x H' => ∃ k, TruV Kk x H' k ∧ Q k H') (bOwn i) := by
  subst hK
  exact ⟨pt_truth (pe_var hN hv hd hcd) he, snd_own_tru⟩
theorem j_tuplec {Kk : PySem.W.Frag} {fA : Ev → R (List D)} (hm : X.mg "tuple" = none) (ha : JA X W (e :: es) tA fA) (hg : Gl X "tuple" := by rfl) (he : starEach (e :: es) X.env = (false, eval e X.env) :: starEach es X.env := by rfl) (hpl : (backTo pos (starEach es X.env)).any (·.1) = false := by rfl) (hK : X.K = Kk := by rfl) : JE X W (.Call (.Name "tuple" p) (e :: es) [] pos) (tCB (rTupOf Kk) tA) (fCall gTupOf fA) := by
  subst hK
  exact ⟨pe_callTy call_tuple_of hg hm (by decide +kernel) ha.pe (by decide) (by decide) he hpl, snd_cb sr_tupOf tupOf_nx ha.sd⟩
end
end Sf

namespace Sf
open PySem PySem.Spec PyProof.Rows L2
open Evl (Ex)

/-! ### calls with keywords, and defaults of keyword-only parameters -/
/-- a def of which n parameters are given by place, those named ks by keyword, in the parameters' order -/
structure Dk (K : PySem.W.Frag) (mg : Str → Option Value) (x : Str) (st : Stmt) (ps : List Str) (n : Nat) (ks : List Str) (f : Addr) (fd : FuncData) : Prop where
  fn : Fun K x x st f fd
  gl : mg x = some (.ref f)
  kb : KBn K fd ps n ks (fun us ws => us ++ ws) (fun vs zs => vs ++ zs)
/-- the same def, the keyword-only parameters left out: their values are dvs -/
structure Dd (K : PySem.W.Frag) (mg : Str → Option Value) (x : Str) (st : Stmt) (ps : List Str) (dvs : List V) (f : Addr) (fd : FuncData) : Prop where
  fn : Fun K x x st f fd
  gl : mg x = some (.ref f)
  bd : ∃ us, Vals dvs us ∧ Binds K fd ps us
def fCallK (F : List D → R D) (fA fK : Ev → R (List D)) : Ev → R D := fun s => (fA s).bind fun ds => (fK s).bind fun es => match F (ds ++ es) with
  | .ok d => .ok d
  | _ => .no
def fCallDf (F : List D → R D) (dds : List D) (fA : Ev → R (List D)) : Ev → R D := fun s => (fA s).bind fun ds => F (ds ++ dds)
section
variable {K : PySem.W.Frag} {mg : Str → Option Value} {W : WX}
theorem snd_callK {tA tK : TA} {fA fK : Ev → R (List D)} {n m N : Nat} {F : List D → R D} (hn : ∀ s ds, fA s = .ok ds → ds.length = n) (hm : ∀ s ds, fK s = .ok ds → ds.length = m) (hN : n + m = N) (h : SndA K mg W tA fA) (k : SndA K mg W tK fK) :
    SndE K mg W (tCallN n m (spD K mg N F) (fun vs zs => vs ++ zs) (fun _ _ _ => False) tA tK) (fCallK F fA fK) := by
  refine ⟨fun ga B0 H0 B H σ s Q e p => ?_⟩
  refine h.bind e p fun ds vs B1 H1 hf x1 q1 e1 p1 => ?_
  refine k.bind e1 p1 fun es zs B2 H2 hg x2 q2 e2 p2 => ?_
  have l1 := hn s ds hf
  have l2 := hm s es hg
  have m1 := DpAll.len q1
  have m2 := DpAll.len q2
  refine ⟨by omega, by omega, by rw [List.length_append]; omega, B2, ds ++ es, e2.ext.s, DpAll.append (DpAll.ex x2.b _ _ q1) q2, ?_⟩
  cases hF : F (ds ++ es) with
  | ok d =>
    replace p2 : EPost K mg W σ B2 H2 Q (match F (ds ++ es) with | .ok d => .ok d | _ => .no) := p2
    rw [hF] at p2
    exact p2
  | ex _ =>
    replace p2 : EPost K mg W σ B2 H2 Q (match F (ds ++ es) with | .ok d => .ok d | _ => .no) := p2
    rw [hF] at p2
    exact (show False from p2).elim
  | no =>
    replace p2 : EPost K mg W σ B2 H2 Q (match F (ds ++ es) with | .ok d => .ok d | _ => .no) := p2
    rw [hF] at p2
    exact (show False from p2).elim
theorem snd_callDf {tA : TA} {fA : Ev → R (List D)} {n N : Nat} {dvs : List V} {dds : List D} {F : List D → R D} (hd : ∀ B, DpAll K B dvs dds) (hn : ∀ s ds, fA s = .ok ds → ds.length = n) (hN : n + dds.length = N) (h : SndA K mg W tA fA) :
    SndE K mg W (tCallSD (spD K mg N F) dvs (fun σ c d H => W c d σ H) tA) (fCallDf F dds fA) := by
  refine ⟨fun ga B0 H0 B H σ s Q e p => ?_⟩
  refine h.bind e p fun ds vs B1 H1 hf x1 q1 e1 p1 => ?_
  have l1 := hn s ds hf
  have m1 := DpAll.len q1
  have m2 := DpAll.len (hd B1)
  refine ⟨by rw [List.length_append]; omega, B1, ds ++ dds, e1.ext.s, DpAll.append q1 (hd B1), ?_⟩
  cases hF : F (ds ++ dds) with
  | ok d =>
    replace p1 : EPost K mg W σ B1 H1 Q (F (ds ++ dds)) := p1
    rw [hF] at p1
    exact p1
  | ex _ =>
    replace p1 : EPost K mg W σ B1 H1 Q (F (ds ++ dds)) := p1
    rw [hF] at p1
    exact p1
  | no =>
    replace p1 : EPost K mg W σ B1 H1 Q (F (ds ++ dds)) := p1
    rw [hF] at p1
    exact (show False from p1).elim
end
structure JK (X : Cx) (W : WX) (kws : List Keyword) (t : TA) (f : Ev → R (List D)) : Prop where
  pe : PK X kws t
  sd : SndA X.K X.mg W t f
section
variable {X : Cx} {W : WX} {e : Expr} {es : List Expr} {te : TE} {tA tK : TA} {f : Ev → R D} {fA fK : Ev → R (List D)} {pos p kpos : Pos} {kws : List Keyword} {nm : Option Str}
theorem k_nil : JK X W [] tNil fNil := ⟨pk_nil, snd_nil⟩
theorem k_cons (ha : JE X W e te f) (hr : JK X W kws tK fK) : JK X W (⟨nm, e, kpos⟩ :: kws) (tCons te tK) (fCons f fK) := ⟨pk_cons ha.pe hr.pe, snd_cons ha.sd hr.sd⟩
theorem no_pass : Passes (L2N.CX X.prog X.w) X (fun _ _ _ => False) := fun _ _ _ _ _ _ _ h => by
  obtain ⟨_, _, _, _, _, _, _, _, _, _, _, _, z⟩ := h
  exact z.elim
variable {x : Str} {k n N : Nat} {fa : Addr} {fd : FuncData} {ps ks : List Str} {F : List D → R D}
theorem j_callK (G : FnOk X.prog X.w X.K X.mg X.base (L2N.CX X.prog X.w) k fa fd ps (spD X.K X.mg N F)) (hr : Room k X.A) (hm : X.mg x = some (.ref fa)) (hk : PySem.W.keepIn X.K (.ref fa) = true) (hb : KBn X.K fd ps n ks (fun us ws => us ++ ws) (fun vs zs => vs ++ zs)) (ha : JA X W (e :: es) tA fA) (hkw : JK X W kws tK fK)
    (hn : ∀ s ds, fA s = .ok ds → ds.length = n) (hnk : ∀ s ds, fK s = .ok ds → ds.length = ks.length) (hN : n + ks.length = N := by rfl) (hg : Gl X x := by rfl) (hall : (backToKw pos (keywordEach kws X.env)).all (·.1.isSome) = true := by rfl) (hks : (backToKw pos (keywordEach kws X.env)).filterMap (·.1) = ks := by rfl)
    (hdb : (x == ("__debug__" : Str)) = false := by decide) (he : starEach (e :: es) X.env = (false, eval e X.env) :: starEach es X.env := by rfl)
    (hpl : ((backTo pos (starEach (e :: es) X.env)).any (·.1) || (backToKw pos (keywordEach kws X.env)).any (·.1.isNone)) = false := by rfl) :
    JE X W (.Call (.Name x p) (e :: es) kws pos) (tCallN n ks.length (spD X.K X.mg N F) (fun vs zs => vs ++ zs) (fun _ _ _ => False) tA tK) (fCallK F fA fK) :=
  ⟨pe_callN G hr hg hm hk hb no_pass ha.pe hkw.pe hall hks hdb he hpl, snd_callK hn hnk hN ha.sd hkw.sd⟩
theorem j_callDf {dvs : List V} {dds : List D} (tk : L2N.Takes X W) (G : FnOk X.prog X.w X.K X.mg X.base (L2N.CX X.prog X.w) k fa fd ps (spD X.K X.mg N F)) (hr : Room k X.A) (hm : X.mg x = some (.ref fa)) (hk : PySem.W.keepIn X.K (.ref fa) = true) (hb : ∃ us, Vals dvs us ∧ Binds X.K fd ps us) (hd : ∀ B, DpAll X.K B dvs dds) (ha : JA X W (e :: es) tA fA)
    (hn : ∀ s ds, fA s = .ok ds → ds.length = n) (hN : n + dds.length = N := by rfl) (hg : Gl X x := by rfl) (hdb : (x == ("__debug__" : Str)) = false := by decide)
    (he : starEach (e :: es) X.env = (false, eval e X.env) :: starEach es X.env := by rfl) (hpl : (backTo pos (starEach es X.env)).any (·.1) = false := by rfl) :
    JE X W (.Call (.Name x p) (e :: es) [] pos) (tCallSD (spD X.K X.mg N F) dvs (fun σ c d H => W c d σ H) tA) (fCallDf F dds fA) := by
  obtain ⟨us, hv, hb⟩ := hb
  exact ⟨pe_callSD G hr hg hm hk hb hv (fun σ => L2N.passAt tk σ) ha.pe hdb he hpl, snd_callDf hd hn hN ha.sd⟩
end
/-- one keyword-only default, a truth value -/
theorem dflt_bool {K : PySem.W.Frag} {fd : FuncData} {ps : List Str} {k : Str} {b : Bool} {Dd : Addr} (hq : PySem.W.nsIn K Dd k = some (some (.bool b))) (n : Nat) (hn : n + 1 = ps.length)
    (h : ∀ us : List Value, us.length = n → KwChain Dd [(k, .bool b)] (bindArgs fd ⟨us, []⟩) (ps.zip (us ++ [.bool b]))) : ∃ us, Vals [V.bl b] us ∧ Binds K fd ps us := by
  refine ⟨[.bool b], .cons rfl .nil, fun s us X hlen => ?_⟩
  have l2 : us.length = n := by
    rw [List.length_append, List.length_singleton] at hlen
    omega
  exact BindsTo.of_looks fun M => KwChain.looks X (fun q hm => by
    rw [List.mem_singleton.mp hm]
    exact hq) (h us l2)
end Sf

/-! max(xs), min(xs) of a list of whole numbers -/
namespace Sf
open PySem PySem.Spec PyProof.Rows L2
def topI : List Int → Option Int
  | [] => none
  | i :: r => some (match topI r with | some j => if i < j then j else i | none => i)
def lowI : List Int → Option Int
  | [] => none
  | i :: r => some (match lowI r with | some j => if j < i then j else i | none => i)
theorem topI_ok : ∀ {ns : List Int} {m : Int}, topI ns = some m → m ∈ ns ∧ ∀ y, y ∈ ns → y ≤ m
  | [], _, h => by cases h
  | i :: r, m, h => by
    unfold topI at h
    cases hr : topI r with
    | none =>
      rw [hr] at h
      cases h
      have : r = [] := by
        cases r with
        | nil => rfl
        | cons a b => unfold topI at hr; cases hr
      subst this
      exact ⟨List.mem_cons_self, fun y hy => by rcases List.mem_cons.mp hy with h | h; exact h ▸ Int.le_refl _; cases h⟩
    | some j =>
      rw [hr] at h
      obtain ⟨h1, h2⟩ := topI_ok hr
      by_cases c : i < j
      · have : m = j := by have := Option.some.inj h; simp only [if_pos c] at this; exact this.symm
        subst this
        exact ⟨List.mem_cons_of_mem _ h1, fun y hy => by rcases List.mem_cons.mp hy with h | h; omega; exact h2 y h⟩
      · have : m = i := by have := Option.some.inj h; simp only [if_neg c] at this; exact this.symm
        subst this
        exact ⟨List.mem_cons_self, fun y hy => by rcases List.mem_cons.mp hy with h | h; omega; have := h2 y h; omega⟩
theorem lowI_ok : ∀ {ns : List Int} {m : Int}, lowI ns = some m → m ∈ ns ∧ ∀ y, y ∈ ns → m ≤ y
  | [], _, h => by cases h
  | i :: r, m, h => by
    unfold lowI at h
    cases hr : lowI r with
    | none =>
      rw [hr] at h
      cases h
      have : r = [] := by
        cases r with
        | nil => rfl
        | cons a b => unfold lowI at hr; cases hr
      subst this
      exact ⟨List.mem_cons_self, fun y hy => by rcases List.mem_cons.mp hy with h | h; exact h ▸ Int.le_refl _; cases h⟩
    | some j =>
      rw [hr] at h
      obtain ⟨h1, h2⟩ := lowI_ok hr
      by_cases c : j < i
      · have : m = j := by have := Option.some.inj h; simp only [if_pos c] at this; exact this.symm
        subst this
        exact ⟨List.mem_cons_of_mem _ h1, fun y hy => by rcases List.mem_cons.mp hy with h | h; omega; exact h2 y h⟩
      · have : m = i := by have := Option.some.inj h; simp only [if_neg c] at this; exact this.symm
        subst this
        exact ⟨List.mem_cons_self, fun y hy => by rcases List.mem_cons.mp hy with h | h; omega; have := h2 y h; omega⟩
def gMaxL : List D → R D
  | [.list ds] => match intsOf ds with
    | some ns => match topI ns with | some m => .ok (.int m) | none => .no
    | none => .no
  | _ => .no
def gMinL : List D → R D
  | [.list ds] => match intsOf ds with
    | some ns => match lowI ns with | some m => .ok (.int m) | none => .no
    | none => .no
  | _ => .no
theorem maxL_nx (d : List D) (x : Exn) : gMaxL d ≠ .ex x := by
  unfold gMaxL
  split
  · split
    · split <;> exact fun z => nomatch z
    · exact fun z => nomatch z
  · exact fun z => nomatch z
theorem minL_nx (d : List D) (x : Exn) : gMinL d ≠ .ex x := by
  unfold gMinL
  split
  · split
    · split <;> exact fun z => nomatch z
    · exact fun z => nomatch z
  · exact fun z => nomatch z
section
variable {K : PySem.W.Frag}
theorem sr_maxL : SndRL K (rMax K) gMaxL := by
  refine ⟨fun B H xs ds Q eb h p => ?_⟩
  unfold gMaxL at p
  split at p
  · obtain ⟨v, rfl, q⟩ := dp1 h
    split at p
    · rename_i hy
      split at p
      · rename_i M hM
        cases q with
        | lst hs hA =>
          have := ints_of hy hA
          subst this
          obtain ⟨h1, h2⟩ := topI_ok hM
          refine ⟨_, _, rfl, sql_ex eb hs, List.length_pos_of_mem h1, fun m hm hu => ?_⟩
          have e : m = M := by
            have a1 := hu M h1
            have a2 := h2 m hm
            omega
          subst e
          exact p _ B H (Ext.refl eb) (.int _)
      · exact p.elim
    · exact p.elim
  · exact p.elim
theorem sr_minL : SndRL K (rMin K) gMinL := by
  refine ⟨fun B H xs ds Q eb h p => ?_⟩
  unfold gMinL at p
  split at p
  · obtain ⟨v, rfl, q⟩ := dp1 h
    split at p
    · rename_i hy
      split at p
      · rename_i M hM
        cases q with
        | lst hs hA =>
          have := ints_of hy hA
          subst this
          obtain ⟨h1, h2⟩ := lowI_ok hM
          refine ⟨_, _, rfl, sql_ex eb hs, List.length_pos_of_mem h1, fun m hm hu => ?_⟩
          have e : m = M := by
            have a1 := hu M h1
            have a2 := h2 m hm
            omega
          subst e
          exact p _ B H (Ext.refl eb) (.int _)
      · exact p.elim
    · exact p.elim
  · exact p.elim
end
section
variable {X : Cx} {W : WX} {p pos : Pos} {e : Expr} {es : List Expr} {tA : TA} {fA : Ev → R (List D)}
theorem j_maxL {Kk : PySem.W.Frag} (hc : X.calm = true) (hm : X.mg "max" = none) (ha : JA X W (e :: es) tA fA) (hg : Gl X "max" := by rfl) (he : starEach (e :: es) X.env = (false, eval e X.env) :: starEach es X.env := by rfl) (hpl : (backTo pos (starEach es X.env)).any (·.1) = false := by rfl) (hK : X.K = Kk := by rfl) :
    JE X W (.Call (.Name "max" p) (e :: es) [] pos) (tCB (rMax Kk) tA) (fCall gMaxL fA) := by
  subst hK
  exact ⟨pe_callB (cr_max hc) hg hm (by decide +kernel) ha.pe (by decide) (by decide) he hpl, snd_cb sr_maxL maxL_nx ha.sd⟩
theorem j_minL {Kk : PySem.W.Frag} (hc : X.calm = true) (hm : X.mg "min" = none) (ha : JA X W (e :: es) tA fA) (hg : Gl X "min" := by rfl) (he : starEach (e :: es) X.env = (false, eval e X.env) :: starEach es X.env := by rfl) (hpl : (backTo pos (starEach es X.env)).any (·.1) = false := by rfl) (hK : X.K = Kk := by rfl) :
    JE X W (.Call (.Name "min" p) (e :: es) [] pos) (tCB (rMin Kk) tA) (fCall gMinL fA) := by
  subst hK
  exact ⟨pe_callB (cr_min hc) hg hm (by decide +kernel) ha.pe (by decide) (by decide) he hpl, snd_cb sr_minL minL_nx ha.sd⟩
end
end Sf

namespace Sf
open PySem PySem.Spec PyProof.Rows L2

/-! ### raise C(), C a class of the program without an own __init__ -/
section
variable {X : Cx} {C : Addr} {bmB : List Value} {B newId initId : String}
theorem pmk_none {x : Str} {p pos : Pos} (F : ExcBaseFacts B newId initId bmB) (q : PySem.W.excIn X.K C bmB newId = true) (gC : X.mg x = some (.ref C)) (kC : PySem.W.keepIn X.K (.ref C) = true) (r : Raises X (.ref C)) (hg : Gl X x)
    (hdb : (x == ("__debug__" : Str)) = false := by decide) : L2N.PMk X (.Call (.Name x p) [] [] pos) (fun _ H Q => Q (.ref C) none H) := by
  intro pins s σ H Q I h
  refine wpAny_Call_Name_kw (ld_glob I hg gC ?_ hdb)
  refine PySem.W.callWith_K0 I.kIn kC ?_
  rcases exc_obj I.kIn q with ⟨_, _, _, _, _, _, _, _, _, _, _, _, _, _, _, _, _, there, names, noInit, tail⟩
  cases s
  exact wpAny_call_exc_subT F tail there names noInit (fun _ _ made => L2N.mk_of I made r h (I.hok.gone made.new)) (Nat.zero_le _)
end
def gRaise (c : Str) : Ev → Fl := fun s => .ex ⟨c, []⟩ s
theorem s_raise {X : Cx} {W : WX} {C : Addr} {x : Str} {p p2 pos : Pos} (hc : X.calm = true) (tk : L2N.Takes X W) (he : L2N.PMk X (.Call (.Name x p) [] [] p2) (fun _ H Q => Q (.ref C) none H)) (gC : X.mg x = some (.ref C)) :
    JS X W (.Raise (some (.Call (.Name x p) [] [] p2)) none pos) (fun _ σ H => W (.ref C) none σ H) (gRaise x) :=
  ⟨L2N.ps_raise hc tk he, ⟨fun ga B0 H0 B H σ s E e h => h (.ref C) none B H σ e ⟨gC, rfl⟩⟩⟩

/-! ### try: .. except T as e: .. -/
section
variable {K : PySem.W.Frag} {g : Addr} {B0 H0 B H : Hp} {σ : L2.St} {s : Ev}
theorem Pin.setX {i : Nat} {a : Addr} (x : Pin K g H0 B H σ s) (hi : i < σ.length) : Pin K g H0 B H (σ.set i (some (.ref a))) (s.set i (.x a)) := by
  refine ⟨fun j ds h => ?_, fun j k ds es h1 h2 h3 => ?_, fun j k ds es h1 h2 => ?_, fun j b h => ?_⟩
  · rcases get_set h with ⟨_, e⟩ | ⟨n, e⟩
    · cases e
    · rw [List.getElem?_set_ne n]
      exact x.lent j ds e
  · rcases get_set h1 with ⟨_, e⟩ | ⟨n, e⟩
    · cases e
    · rcases get_set h2 with ⟨_, e2⟩ | ⟨n2, e2⟩
      · cases e2
      · rw [List.getElem?_set_ne n2] at h3
        exact x.far j k ds es e e2 h3
  · rcases get_set h1 with ⟨_, e⟩ | ⟨n, e⟩
    · cases e
    · rcases get_set h2 with ⟨_, e2⟩ | ⟨_, e2⟩
      · cases e2
      · exact x.one j k ds es e e2
  · rcases get_set h with ⟨q, e⟩ | ⟨n, e⟩
    · cases e
      subst q
      rw [List.getElem?_set_self hi]
    · rw [List.getElem?_set_ne n]
      exact x.adr j b e
theorem ER.setX {i : Nat} {a : Addr} (x : ER K g B0 H0 B H σ s) (hi : i < s.length) : ER K g B0 H0 B H (σ.set i (some (.ref a))) (s.set i (.x a)) := by
  refine ⟨x.ext, by rw [List.length_set, List.length_set]; exact x.len, fun j d h => ?_, fun j ds h => ?_, fun j k ds es p h1 h2 h3 h4 => ?_, x.pin.setX (by rw [x.len]; exact hi)⟩
  · rcases get_set h with ⟨_, e⟩ | ⟨n, e⟩
    · cases e
    · rw [List.getElem?_set_ne n]
      exact x.val j d e
  · rcases get_set h with ⟨_, e⟩ | ⟨n, e⟩
    · cases e
    · rw [List.getElem?_set_ne n]
      exact x.own j ds e
  · rcases get_set h1 with ⟨_, e⟩ | ⟨n, e⟩
    · cases e
    · rcases get_set h2 with ⟨_, e2⟩ | ⟨n2, e2⟩
      · cases e2
      · rw [List.getElem?_set_ne n] at h3
        rw [List.getElem?_set_ne n2] at h4
        exact x.dis j k ds es p e e2 h3 h4
end
/-- behind the clause the name is unset -/
def gone (i : Nat) : Fl → Fl
  | .nx s => .nx (s.set i .un)
  | .bk s => .bk (s.set i .un)
  | .ct s => .ct (s.set i .un)
  | .rt d => .rt d
  | .rl ds => .rl ds
  | .rm d ds => .rm d ds
  | _ => .no
open Classical in
noncomputable def gTry (i : Nat) (T : List (Str × Bool)) (F : Ev → Fl) (G : Exn → Addr → Ev → Fl) : Ev → Fl := fun s => match F s with
  | .ex e s1 => match T.lookup e.c with
    | some true => if h : i < s1.length ∧ ∃ z, ∀ a, gone i (G e a (s1.set i (.x a))) = z then Classical.choose h.2 else .no
    | some false => .ex e s1
    | none => .no
  | z => z
theorem try_thru {i : Nat} {T : List (Str × Bool)} {F : Ev → Fl} {G : Exn → Addr → Ev → Fl} {s : Ev} {z : Fl} (h : F s = z) (n : ∀ e s1, z ≠ .ex e s1) : gTry i T F G s = z := by
  unfold gTry
  rw [h]
  cases z with
  | ex e s1 => exact absurd rfl (n e s1)
  | _ => rfl
theorem try_ex {i : Nat} {T : List (Str × Bool)} {F : Ev → Fl} {G : Exn → Addr → Ev → Fl} {s s1 : Ev} {e : Exn} {z : Fl} (h : F s = .ex e s1) (t : T.lookup e.c = some true) (hi : i < s1.length) (g : ∀ a, gone i (G e a (s1.set i (.x a))) = z) : gTry i T F G s = z := by
  unfold gTry
  rw [h]
  simp only [t]
  have hh : i < s1.length ∧ ∃ z, ∀ a, gone i (G e a (s1.set i (.x a))) = z := ⟨hi, z, g⟩
  rw [dif_pos hh]
  have := Classical.choose_spec hh.2 0
  rw [← this]
  exact g 0
section
variable {K : PySem.W.Frag} {mg : Str → Option Value} {Wo : WX} {c : Value} {i : Nat} {T : List (Str × Bool)} {tb : WX → TS} {ts : Addr → Value → Option Addr → TS} {F : Ev → Fl} {G : Exn → Addr → Ev → Fl}
theorem snd_tryAs (hT : ∀ p ∈ T, ∀ cls, mg p.1 = some cls → PySem.W.exmOne K cls c = some p.2)
    (hb : ∀ W, SndS K mg W (tb W) F) (hg : ∀ (e : Exn) (a : Addr) (cls : Value) (d : Option Addr), T.lookup e.c = some true → mg e.c = some cls → SndS K mg W0 (ts a cls d) (G e a)) :
    SndS K mg Wo (fun D σ H => tb (wAs K c i ts Wo D) D σ H) (gTry i T F G) := by
  refine ⟨fun ga B0 H0 B H σ s E er h => (hb _).run ga B0 H0 B H σ s E er ?_⟩
  unfold gTry at h
  cases hF : F s with
  | ex e s1 =>
    rw [hF] at h
    intro cls dd B1 H1 σ1 er1 xr
    have hm := xr.1
    cases hl : T.lookup e.c with
    | none =>
      simp only [hl] at h
      exact h.elim
    | some b =>
      have hin : (e.c, b) ∈ T := by
        clear h hg hT
        induction T with
        | nil => cases hl
        | cons p r ih =>
          obtain ⟨k, v⟩ := p
          rw [List.lookup_cons] at hl
          split at hl
          · rename_i hk
            have hk' : e.c = k := eq_of_beq hk
            cases hl
            rw [← hk']
            exact List.mem_cons_self
          · exact List.mem_cons_of_mem _ (ih hl)
      refine ⟨b, hT _ hin cls hm, fun hbt a ha => ?_, fun hbf => ?_⟩
      · subst hbt
        simp only [hl] at h
        split at h
        · rename_i hh
          have sp := Classical.choose_spec hh.2 a
          generalize Classical.choose hh.2 = z at h sp
          refine (hg e a cls dd hl hm).run ga B0 H0 B1 H1 _ _ _ (er1.setX hh.1) ?_
          cases hz : G e a (s1.set i (.x a)) with
          | nx s2 =>
            rw [hz] at sp
            subst sp
            exact fun B2 H2 σ2 er2 => h B2 H2 _ er2.un
          | bk s2 =>
            rw [hz] at sp
            subst sp
            exact fun B2 H2 σ2 er2 => h B2 H2 _ er2.un
          | ct s2 =>
            rw [hz] at sp
            subst sp
            exact fun B2 H2 σ2 er2 => h B2 H2 _ er2.un
          | rt d =>
            rw [hz] at sp
            subst sp
            exact h
          | rl ds =>
            rw [hz] at sp
            subst sp
            exact h
          | rm d ds =>
            rw [hz] at sp
            subst sp
            exact h
          | ex e2 s2 =>
            rw [hz] at sp
            subst sp
            exact h.elim
          | no =>
            rw [hz] at sp
            subst sp
            exact h.elim
        · exact h.elim
      · subst hbf
        simp only [hl] at h
        exact h cls dd B1 H1 σ1 er1 xr
  | nx s1 => rw [hF] at h; exact h
  | rt d => rw [hF] at h; exact h
  | rl ds => rw [hF] at h; exact h
  | rm d ds => rw [hF] at h; exact h
  | bk s1 => rw [hF] at h; exact h
  | ct s1 => rw [hF] at h; exact h
  | no => rw [hF] at h; exact h
end
end Sf

namespace Sf
open PySem PySem.Spec PyProof.Rows L2

/-! ### xs.index(x), xs a list that stays, items of any depth -/
def placeOf (p : D → Bool) : List D → Option Nat
  | [] => none
  | z :: r => if p z = true then some 0 else (placeOf p r).map (· + 1)
theorem placeOf_ok {p : D → Bool} : ∀ {ds : List D} {j : Nat}, placeOf p ds = some j → (∃ z, ds[j]? = some z ∧ p z = true) ∧ ∀ (m : Nat) (z : D), m < j → ds[m]? = some z → p z = false
  | [], _, h => by cases h
  | y :: r, j, h => by
    unfold placeOf at h
    by_cases hy : p y = true
    · rw [if_pos hy] at h
      cases h
      exact ⟨⟨y, rfl, hy⟩, fun m z hm => absurd hm (Nat.not_lt_zero _)⟩
    · rw [if_neg hy] at h
      cases hr : placeOf p r with
      | none => rw [hr] at h; cases h
      | some k =>
        rw [hr] at h
        cases h
        obtain ⟨h1, h2⟩ := placeOf_ok hr
        refine ⟨h1, fun m z hm hz => ?_⟩
        cases m with
        | zero =>
          cases hz
          exact Bool.eq_false_iff.mpr hy
        | succ m => exact h2 m z (Nat.lt_of_succ_lt_succ hm) hz
def gIndex (ds : List D) (d : D) : R D := if (SeqAt.shaped (.list ds) && SeqAt.shaped d) = true then (match placeOf (fun z => PyData.eqv z d) ds with | some j => .ok (.int (j : Nat)) | none => .no) else .no
def fIndex (g f : Ev → R D) : Ev → R D := fun s => (g s).bind fun
  | .list ds => (f s).bind (gIndex ds)
  | _ => .no
section
variable {K : PySem.W.Frag} {mg : Str → Option Value} {W : WX} {to te : TE} {g f : Ev → R D}
theorem snd_index (ho : SndE K mg W to g) (he : SndE K mg W te f) : SndE K mg W (tBM K "list" (rIndexD K) to (tCons te tNil)) (fIndex g f) := by
  refine ⟨fun ga B0 H0 B H σ s Q e p => ?_⟩
  refine ho.bind e p fun d v B1 H1 _ x1 q1 e1 p1 => ?_
  cases q1 with
  | @lst a vs ds hs hA =>
    refine ⟨.inl ⟨rfl, vs, sql_ex e1.ext.s hs⟩, ?_⟩
    refine he.bind e1 p1 fun d2 v2 B2 H2 _ x2 q2 e2 p2 => ?_
    have q1' : Dp K B2 (.ref a) (.list ds) := Dp.ex x2.b _ _ (.lst hs hA)
    replace p2 : EPost K mg W σ B2 H2 Q (if (SeqAt.shaped (.list ds) && SeqAt.shaped d2) = true then (match placeOf (fun z => PyData.eqv z d2) ds with | some j => .ok (.int (j : Nat)) | none => .no) else .no) := p2
    split at p2
    · rename_i hsh
      rw [Bool.and_eq_true] at hsh
      split at p2
      · rename_i j hj
        obtain ⟨⟨z, hz, hzj⟩, hno⟩ := placeOf_ok hj
        exact ⟨a, v2, d2, ds, j, z, rfl, rfl, Dp.ex e2.ext.s _ _ q1', Dp.ex e2.ext.s _ _ q2, hsh.1, hsh.2, hz, hzj, hno, p2 _ B2 H2 e2.here (.int _)⟩
      · exact p2.elim
    · exact p2.elim
  | _ => exact (show False from p1).elim
end
section
variable {X : Cx} {W : WX} {o e : Expr} {to te : TE} {g f : Ev → R D} {apos pos : Pos}
theorem j_index {Kk : PySem.W.Frag} {u : Nat} (hu0 : u + 65 < cLine) (ho : JE X W o to g) (he : JE X W e te f) (hA : X.A.units = u := by rfl) (hs : starEach [e] X.env = (false, eval e X.env) :: starEach [] X.env := by rfl)
    (hbase : attributeBase o "index" X.env (eval o X.env) = eval o X.env := by rfl)
    (hfew : ((backTo pos (starEach [e] X.env)).all (fun x => !x.1) && (backToKw pos (keywordEach [] X.env)).all (fun x => x.1.isSome) && decide ([e].length + ([] : List Keyword).length + (if ([] : List Keyword).isEmpty then 0 else 1) < 30)) = true := by rfl)
    (hline : (apos.endLine == pos.line) = true := by rfl) (hplain : (backTo pos (starEach [] X.env)).any (·.1) = false := by rfl) (hK : X.K = Kk := by rfl) :
    JE X W (.Call (.Attribute o "index" apos) [e] [] pos) (tBM Kk "list" (rIndexD Kk) to (tCons te tNil)) (fIndex g f) := by
  subst hK
  subst hA
  exact ⟨pe_bm PySem.F.plainAttrs_list PySem.F.slot_list_index PySem.F.type_list_index (mt_indexD hu0) ho.pe (pa_cons he.pe pa_nil hs) hbase hfew hline hs hplain, snd_index ho.sd he.sd⟩
end
end Sf

namespace Sf
open PySem PySem.Spec PyProof.Rows L2
open Evl (Ex)

/-! ### a comprehension whose element changes a list that is handed about -/
section
variable {K : PySem.W.Frag} {g a : Addr} {B0 H0 B H : Hp} {σ : L2.St} {s : Ev} {L M : HO}
theorem upd_none {p : Addr} (h : upd H a L p = none) : p ≠ a ∧ H p = none := by
  by_cases e : p = a
  · rw [e, upd_same] at h
    cases h
  · rw [upd_ne e] at h
    exact ⟨e, h⟩
/-- a new object at a, the floor told of it too -/
theorem ER.above (x : ER K g B0 H0 B H σ s) (ha : H a = none) : ER K g B0 (upd H0 a L) B (upd H a L) σ s := by
  have hb : B a = none := ex_none x.ext.s ha
  have old : ∀ {p : Addr} {o : HO}, H p = some o → p ≠ a := fun {p o} h z => by
    rw [z, ha] at h
    cases h
  refine ⟨⟨x.ext.b, fun c u h => ?_, fun c u h => ?_, fun c u h n => ?_⟩, x.len, x.val, fun i ds h => ?_, x.dis, ⟨fun i ds h => ?_, x.pin.far, x.pin.one, x.pin.adr⟩⟩
  · by_cases e : c = a
    · rw [e, upd_same] at h ⊢
      exact h
    · rw [upd_ne e] at h ⊢
      exact x.ext.h c u h
  · rw [upd_ne (fun z => by rw [z, hb] at h; cases h)]
    exact x.ext.s c u h
  · by_cases e : c = a
    · rw [e]
      exact hb
    · rw [upd_ne e] at h
      exact x.ext.o c u h n
  · obtain ⟨p, vs, h1, h2, h3, h4, h5⟩ := x.own i ds h
    exact ⟨p, vs, h1, by rw [upd_ne (old h2)]; exact h2, h3, by rw [upd_ne (old h2)]; exact h4, h5⟩
  · obtain ⟨vs, h1, h2, h3, h4, h5⟩ := x.pin.lent i ds h
    exact ⟨vs, h1, by rw [upd_ne (old h2)]; exact h2, h3, by rw [upd_ne (old h2)]; exact h4, h5⟩
/-- the object at a changed -/
theorem ER.bump (x : ER K g B0 (upd H0 a L) B H σ s) (b0 : B0 a = none) : ER K g B0 (upd H0 a M) B (upd H a M) σ s := by
  have hb : B a = none := x.ext.o a L upd_same b0
  refine ⟨⟨x.ext.b, fun c u h => ?_, fun c u h => ?_, fun c u h n => ?_⟩, x.len, x.val, fun i ds h => ?_, x.dis, ⟨fun i ds h => ?_, x.pin.far, x.pin.one, x.pin.adr⟩⟩
  · by_cases e : c = a
    · rw [e, upd_same] at h ⊢
      exact h
    · rw [upd_ne e] at h ⊢
      exact x.ext.h c u (by rw [upd_ne e]; exact h)
  · rw [upd_ne (fun z => by rw [z, hb] at h; cases h)]
    exact x.ext.s c u h
  · by_cases e : c = a
    · rw [e]
      exact hb
    · rw [upd_ne e] at h
      exact x.ext.o c u (by rw [upd_ne e]; exact h) n
  · obtain ⟨p, vs, h1, h2, h3, h4, h5⟩ := x.own i ds h
    obtain ⟨n, h6⟩ := upd_none h4
    exact ⟨p, vs, h1, by rw [upd_ne n]; exact h2, h3, by rw [upd_ne n]; exact h6, h5⟩
  · obtain ⟨vs, h1, h2, h3, h4, h5⟩ := x.pin.lent i ds h
    obtain ⟨n, h6⟩ := upd_none h4
    exact ⟨vs, h1, by rw [upd_ne n]; exact h2, h3, by rw [upd_ne n]; exact h6, h5⟩
/-- the object at a stays from here on -/
theorem ER.settle (x : ER K g B0 (upd H0 a L) B H σ s) (b0 : B0 a = none) (h0 : H0 a = none) : ER K g B0 H0 (upd B a L) H σ s := by
  have hb : B a = none := x.ext.o a L upd_same b0
  have hL : H a = some L := x.ext.h a L upd_same
  have eb : Ex B (upd B a L) := Ex.new hb
  have old : ∀ {p : Addr} {o : HO}, H0 p = some o → p ≠ a := fun {p o} h z => by
    rw [z, h0] at h
    cases h
  refine ⟨⟨x.ext.b.trans eb, fun c u h => x.ext.h c u (by rw [upd_ne (old h)]; exact h), fun c u h => ?_, fun c u h n => ?_⟩, x.len, fun i d h => ?_, fun i ds h => ?_, x.dis, ⟨fun i ds h => ?_, x.pin.far, x.pin.one, x.pin.adr⟩⟩
  · by_cases e : c = a
    · rw [e, upd_same] at h
      cases h
      rw [e]
      exact hL
    · rw [upd_ne e] at h
      exact x.ext.s c u h
  · rw [upd_ne (old h)]
    exact x.ext.o c u (by rw [upd_ne (old h)]; exact h) n
  · obtain ⟨v, h1, h2⟩ := x.val i d h
    exact ⟨v, h1, Dp.ex eb _ _ h2⟩
  · obtain ⟨p, vs, h1, h2, h3, h4, h5⟩ := x.own i ds h
    obtain ⟨n, h6⟩ := upd_none h4
    exact ⟨p, vs, h1, h2, by rw [upd_ne n]; exact h3, h6, DpAll.ex eb _ _ h5⟩
  · obtain ⟨vs, h1, h2, h3, h4, h5⟩ := x.pin.lent i ds h
    obtain ⟨n, h6⟩ := upd_none h4
    exact ⟨vs, h1, h2, by rw [upd_ne n]; exact h3, h6, DpAll.ex eb _ _ h5⟩
theorem wipe_get : ∀ {vs : List Nat} {σ : L2.St} {i : Nat}, i ∉ vs → (wipe σ vs)[i]? = σ[i]?
  | [], _, _, _ => rfl
  | v :: vs, σ, i, h => by
    show ((wipe σ vs).set v none)[i]? = _
    rw [List.getElem?_set_ne (fun z => h (by rw [z]; exact List.mem_cons_self)), wipe_get fun z => h (List.mem_cons_of_mem _ z)]
theorem wipeE_un : ∀ {vs : List Nat} {s : Ev} {i : Nat} {z : En}, i ∈ vs → (wipeE s vs)[i]? = some z → z = .un
  | v :: vs, s, i, z, h, e => by
    replace e : ((wipeE s vs).set v .un)[i]? = some z := e
    rcases get_set e with ⟨_, q⟩ | ⟨n, q⟩
    · exact q.symm
    · rcases List.mem_cons.mp h with h | h
      · exact absurd h.symm n
      · exact wipeE_un h q
theorem ER.unwipe {vs : List Nat} (x : ER K g B0 H0 B H (L2.wipe σ vs) s) (hu : ∀ i z, i ∈ vs → s[i]? = some z → z = .un) : ER K g B0 H0 B H σ s := by
  have at_ : ∀ {i : Nat} {z : En}, s[i]? = some z → z ≠ .un → (L2.wipe σ vs)[i]? = σ[i]? := fun {i z} h n => wipe_get fun m => n (hu i z m h)
  refine ⟨x.ext, by rw [← x.len, wipe_length], fun i d h => ?_, fun i ds h => ?_, fun i j ds es p h1 h2 h3 h4 => ?_, ⟨fun i ds h => ?_, fun i j ds es h1 h2 h3 => ?_, x.pin.one, fun i b h => ?_⟩⟩
  · rw [← at_ h (fun z => nomatch z)]
    exact x.val i d h
  · rw [← at_ h (fun z => nomatch z)]
    exact x.own i ds h
  · rw [← at_ h1 (fun z => nomatch z)] at h3
    rw [← at_ h2 (fun z => nomatch z)] at h4
    exact x.dis i j ds es p h1 h2 h3 h4
  · rw [← at_ h (fun z => nomatch z)]
    exact x.pin.lent i ds h
  · rw [← at_ h2 (fun z => nomatch z)] at h3
    exact x.pin.far i j ds es h1 h2 h3
  · rw [← at_ h (fun z => nomatch z)]
    exact x.pin.adr i b h
end
def cLoopX (tg : D → Ev → R Ev) (f : Ev → RX D) (vs : List Nat) : Ev → List D → RX (List D)
  | s, [] => .ok ([], s)
  | s, d :: r => match tg d s with
    | .ok s1 => match f s1 with
      | .ok (y, s2) => match cLoopX tg f vs (wipeE s2 vs) r with
        | .ok (ys, sn) => .ok (y :: ys, sn)
        | _ => .no
      | _ => .no
    | _ => .no
def xLc (src : Ev → R (List D)) (tg : D → Ev → R Ev) (f : Ev → RX D) (vs : List Nat) : Ev → RX D := fun s => match src s with
  | .ok ds => if ds.length ≤ 100000 then (match cLoopX tg f vs (wipeE s vs) ds with
    | .ok (ys, sn) => .ok (.list ys, sn)
    | _ => .no) else .no
  | _ => .no
theorem wipe_wipe {vs : List Nat} {σ τ : L2.St} (h : wipe τ vs = wipe (wipe σ vs) vs) : wipe τ vs = wipe σ vs := by
  rw [h]
  refine List.ext_getElem? fun i => ?_
  by_cases hi : i ∈ vs
  · have un : ∀ (us : List Nat) (ρ : L2.St), i ∈ us → (wipe ρ us)[i]? = if i < ρ.length then some none else none := by
      intro us
      induction us with
      | nil => intro ρ h; cases h
      | cons u us ih =>
        intro ρ h
        show ((wipe ρ us).set u none)[i]? = _
        by_cases e : u = i
        · rw [e, List.getElem?_set]
          rw [if_pos rfl, wipe_length]
        · rw [List.getElem?_set_ne e]
          rcases List.mem_cons.mp h with h | h
          · exact absurd h.symm e
          · exact ih ρ h
    rw [un vs _ hi, un vs σ hi, wipe_length]
  · rw [wipe_get hi]
section
variable {K : PySem.W.Frag} {mg : Str → Option Value} {W : WX}
theorem snd_lcX {wi : TI} {src : Ev → R (List D)} {g : TG} {tg : D → Ev → R Ev} {te : TE} {f : Ev → RX D} {vs : List Nat} (hi : SndI K mg W wi src) (hg : SndGW K vs g tg) (he : SndX K te f) :
    SndX K (tLc wi g tYes te vs) (xLc src tg f vs) := by
  refine ⟨fun ga B0 H0 B H σ s Q e p => ?_⟩
  refine hi.run ga B0 H0 B H σ s _ e ?_
  unfold xLc at p
  cases hs : src s with
  | ex y => rw [hs] at p; exact p.elim
  | no => rw [hs] at p; exact p.elim
  | ok ds =>
    rw [hs] at p
    replace p : XPost K ga B0 H0 B σ Q (if ds.length ≤ 100000 then (match cLoopX tg f vs (wipeE s vs) ds with
      | .ok (ys, sn) => .ok (.list ys, sn)
      | _ => .no) else .no) := p
    by_cases hz : ds.length ≤ 100000
    · rw [if_pos hz] at p
      cases hc : cLoopX tg f vs (wipeE s vs) ds with
      | no => rw [hc] at p; exact p.elim
      | ex y => rw [hc] at p; exact p.elim
      | ok z =>
        obtain ⟨ys, sn⟩ := z
        rw [hc] at p
        intro J B1 H1 x1 wk a ha
        have e1 := e.more x1
        have hb1 : B1 a = none := ex_none e1.ext.s ha
        have hH : H a = none := Evl.fresh_back x1.h ha
        have h0a : H0 a = none := Evl.fresh_back e.ext.h hH
        have b0a : B0 a = none := Evl.fresh_back e1.ext.b hb1
        refine ⟨fun i m H' => m = ds.length - i ∧ i ≤ ds.length ∧ ∃ B' acc ads zs si, ER K ga B0 (upd H0 a (.lst acc)) B' H' (wipe σ vs) si ∧ Ex B1 B' ∧ (∀ j z, j ∈ vs → si[j]? = some z → z = .un) ∧ DpAll K B' acc ads ∧ ads.length ≤ i ∧ cLoopX tg f vs si (ds.drop i) = .ok (zs, sn) ∧ ads ++ zs = ys,
          ⟨_, rfl, Nat.zero_le _, B1, [], [], ys, wipeE s vs, (e1.wipe vs).above ha, Ex.refl _, fun j z hj hz => wipeE_un hj hz, .nil, Nat.zero_le _, hc, rfl⟩, ?_⟩
        rintro i m H' ⟨rfl, hi2, B', acc, ads, zs, si, e', x', hu, hd', hl', hc', hy'⟩
        obtain ⟨go, stop⟩ := wk B' H' x' e'.ext.s
        by_cases hlt : i < ds.length
        · obtain ⟨g1, g2⟩ := go i hlt
          refine .inr ⟨g1, fun H2 => ∃ B' acc ads zs si, ER K ga B0 (upd H0 a (.lst acc)) B' H2 (wipe σ vs) si ∧ Ex B1 B' ∧ (∀ j z, j ∈ vs → si[j]? = some z → z = .un) ∧ DpAll K B' acc ads ∧ ads.length ≤ i + 1 ∧ cLoopX tg f vs si (ds.drop (i + 1)) = .ok (zs, sn) ∧ ads ++ zs = ys,
            fun H2 h => ⟨ds.length - (i + 1), by omega, rfl, hlt, h⟩, fun v H2 y => ?_⟩
          obtain ⟨B2, d, x2, hd, q2⟩ := g2 v H2 y
          have e2 := e'.more x2
          have hdr : ds.drop i = d :: ds.drop (i + 1) := by
            obtain ⟨hl, hde⟩ := List.getElem?_eq_some_iff.mp hd
            rw [List.drop_eq_getElem_cons hl, hde]
          rw [hdr] at hc'
          unfold cLoopX at hc'
          refine hg.run ga B0 _ B2 H2 (wipe σ vs) si v d _ e2 q2 ?_
          cases htg : tg d si with
          | ex _ => rw [htg] at hc'; cases hc'
          | no => rw [htg] at hc'; cases hc'
          | ok s1 =>
            rw [htg] at hc'
            intro σ3 e3 w3
            have w4 : wipe σ3 vs = wipe σ vs := wipe_wipe w3
            refine ⟨w4, ?_⟩
            show te σ3 H2 _
            refine he.run ga B0 _ B2 H2 σ3 s1 _ e3 ?_
            replace hc' : (match f s1 with
              | .ok (y, s2) => (match cLoopX tg f vs (wipeE s2 vs) (ds.drop (i + 1)) with
                | .ok (ys, sn) => R.ok (y :: ys, sn)
                | _ => .no)
              | _ => .no) = .ok (zs, sn) := hc'
            cases hf : f s1 with
            | ex _ => rw [hf] at hc'; cases hc'
            | no => rw [hf] at hc'; cases hc'
            | ok w =>
              obtain ⟨y, s2⟩ := w
              rw [hf] at hc'
              replace hc' : (match cLoopX tg f vs (wipeE s2 vs) (ds.drop (i + 1)) with
                | .ok (ys, sn) => R.ok (y :: ys, sn)
                | _ => .no) = .ok (zs, sn) := hc'
              intro v5 B5 H5 x5 e5 q5
              cases hr : cLoopX tg f vs (wipeE s2 vs) (ds.drop (i + 1)) with
              | ex _ => rw [hr] at hc'; cases hc'
              | no => rw [hr] at hc'; cases hc'
              | ok t =>
                obtain ⟨rs, sm⟩ := t
                rw [hr] at hc'
                cases hc'
                have e6 := e5.wipe vs
                rw [w4] at e6
                exact ⟨acc, e5.ext.h a _ upd_same, Evl.sz_lt (by rw [DpAll.len hd']; omega), B5, acc ++ [v5], ads ++ [y], rs, wipeE s2 vs, e6.bump b0a, x'.trans (x2.b.trans x5), fun j z hj hz => wipeE_un hj hz,
                  DpAll.append (DpAll.ex (x2.b.trans x5) _ _ hd') (.cons q5 .nil), by simp; omega, hr, by rw [List.append_assoc]; exact hy'⟩
        · have hz2 : i = ds.length := by omega
          subst hz2
          rw [List.drop_length] at hc'
          cases hc'
          rw [List.append_nil] at hy'
          subst hy'
          have e7 := (e'.settle b0a h0a).unwipe hu
          have eb : Ex B' (upd B' a (.lst acc)) := Ex.new (e'.ext.o a _ upd_same b0a)
          exact .inl ⟨stop, p (.ref a) (upd B' a (.lst acc)) H' (x1.b.trans (x'.trans eb)) e7 (.lst (SqL.of upd_same) (DpAll.ex eb _ _ hd'))⟩
    · rw [if_neg hz] at p
      exact p.elim
end
section
variable {X : Cx} {W : WX} {tg : Expr} {te : TE} {f : Ev → RX D} {pos : Pos}
theorem x_lc {elt iter : Expr} {scope : Scope} {own : List (Str × Nat)} {wi : TI} {src : Ev → R (List D)} {g : TG} {h : D → Ev → R Ev} (hc : X.calm = true) (hN : X.N.Nodup) (hi : JI X W tg iter wi src) (ok : blkC X.N X.env.scope scope own = true)
    (hg : ∀ (s : Shared) (H : Hp) (C : Addr) (cl : List (Str × Addr)) (fp : List Addr), JGW (X.blk s H scope (compEnvC scope cl C X.env) fp) (own.map (·.2)) tg g h)
    (he : ∀ (s : Shared) (H : Hp) (C : Addr) (cl : List (Str × Addr)) (fp : List Addr), JX (X.blk s H scope (compEnvC scope cl C X.env) fp) W0 elt te f) (hs : ∀ x, foldedSetIterable iter X.env x = pure x := by intro _; rfl) :
    JX X W (.ListComp elt [⟨tg, iter, [], 0⟩] scope pos) (tLc wi g tYes te (own.map (·.2))) (xLc src h f (own.map (·.2))) :=
  ⟨pe_lc hc hN hi.pe (blkOk_by ok) (fun s H C cl fp => (hg s H C cl fp).pe) (fun _ _ _ _ _ => pts_nil) (fun s H C cl fp => (he s H C cl fp).pe) hs,
    snd_lcX hi.sd (hg X.s_0 X.H_0 0 [] []).sd (he X.s_0 X.H_0 0 [] []).sd⟩
end
section
variable {X : Cx} {W : WX} {tg e : Expr} {es : List Expr} {te : TE} {tA tH : TA} {f : Ev → RX D} {h : XH} {fA : Ev → RX (List D)} {p pos : Pos} {x : Str} {k n i : Nat} {fa : Addr} {fd : FuncData} {ps : List Str}
theorem x_callMB {Pr : Program} {wd : World} {Kk : PySem.W.Frag} {mk : Str → Option Value} {bs : Heap} {A : Around} {j : Nat} {F : List D → List D → List D → R (D × List D)} (G : FnOk Pr wd Kk mk bs (L2N.CX Pr wd) k fa fd ps (spM Kk j n F)) (hr : Room k A) (hm : mk x = some (.ref fa)) (hk : PySem.W.keepIn Kk (.ref fa) = true) (hb : Binds Kk fd ps []) (ha : JXH X W0 i (e :: es) tH h)
    (hn : ∀ s as bs s', h s = .ok ((as, bs), s') → as.length = j ∧ as.length + 1 + bs.length = n) (e1 : X.prog = Pr := by rfl) (e2 : X.w = wd := by rfl) (e3 : X.K = Kk := by rfl) (e4 : X.mg = mk := by rfl) (e5 : X.base = bs := by rfl) (e6 : X.A = A := by rfl) (hg : Gl X x := by rfl) (hdb : (x == ("__debug__" : Str)) = false := by decide)
    (he : starEach (e :: es) X.env = (false, eval e X.env) :: starEach es X.env := by rfl) (hpl : (backTo pos (starEach es X.env)).any (·.1) = false := by rfl) : JX X W0 (.Call (.Name x p) (e :: es) [] pos) (tCallSD (spM Kk j n F) [] (fun σ c d H => W0 c d σ H) tH) (xCallM i F h) := by
  subst e1 e2 e3 e4 e5 e6
  exact ⟨pe_callSD G hr hg hm hk hb .nil (fun σ => passW) ha.pe hdb he hpl, sx_callM hn ha.sd⟩
theorem x_callB {Pr : Program} {wd : World} {Kk : PySem.W.Frag} {mk : Str → Option Value} {bs : Heap} {A : Around} {F : List D → R D} (G : FnOk Pr wd Kk mk bs (L2N.CX Pr wd) k fa fd ps (spD Kk mk n F)) (hr : Room k A) (hm : mk x = some (.ref fa)) (hk : PySem.W.keepIn Kk (.ref fa) = true) (hb : Binds Kk fd ps []) (ha : JXA X W0 (e :: es) tA fA)
    (hn : ∀ s ds s', fA s = .ok (ds, s') → ds.length = n) (e1 : X.prog = Pr := by rfl) (e2 : X.w = wd := by rfl) (e3 : X.K = Kk := by rfl) (e4 : X.mg = mk := by rfl) (e5 : X.base = bs := by rfl) (e6 : X.A = A := by rfl) (hg : Gl X x := by rfl) (hdb : (x == ("__debug__" : Str)) = false := by decide)
    (he : starEach (e :: es) X.env = (false, eval e X.env) :: starEach es X.env := by rfl) (hpl : (backTo pos (starEach es X.env)).any (·.1) = false := by rfl) : JX X W0 (.Call (.Name x p) (e :: es) [] pos) (tCallSD (spD Kk mk n F) [] (fun σ c d H => W0 c d σ H) tA) (xCall F fA) := by
  subst e1 e2 e3 e4 e5 e6
  exact ⟨pe_callSD G hr hg hm hk hb .nil (fun σ => passW) ha.pe hdb he hpl, sx_callD hn ha.sd⟩
theorem xs_lc (i : Nat) {y : Str} {py spos : Pos} {elt iter : Expr} {scope : Scope} {own : List (Str × Nat)} {wi : TI} {src : Ev → R (List D)} {g : TG} {h : D → Ev → R Ev} (hc : X.calm = true) (hN : X.N.Nodup) (hi : JI X W tg iter wi src) (ok : blkC X.N X.env.scope scope own = true)
    (hg : ∀ (s : Shared) (H : Hp) (C : Addr) (cl : List (Str × Addr)) (fp : List Addr), JGW (X.blk s H scope (compEnvC scope cl C X.env) fp) (own.map (·.2)) tg g h)
    (he : ∀ (s : Shared) (H : Hp) (C : Addr) (cl : List (Str × Addr)) (fp : List Addr), JX (X.blk s H scope (compEnvC scope cl C X.env) fp) W0 elt te f) (hy : X.N[i]? = some y := by rfl) (hyl : X.env.scope.names.lookup y = some .local := by rfl)
    (hsw : swapsWith (.ListComp elt [⟨tg, iter, [], 0⟩] scope pos) (some (.Name y py)) spos.line X.env = pure true := by exact sw_true rfl rfl rfl (by decide +kernel)) (hs : ∀ x, foldedSetIterable iter X.env x = pure x := by intro _; rfl) :
    JS X W (.Assign [.Name y py] (.ListComp elt [⟨tg, iter, [], 0⟩] scope pos) spos) (tAsg (tLc wi g tYes te (own.map (·.2))) (gName i)) (gAsgX (xLc src h f (own.map (·.2))) (hName i)) :=
  ⟨ps_setLc hc hN hy hyl hsw hi.pe (blkOk_by ok) (fun s H C cl fp => (hg s H C cl fp).pe) (fun _ _ _ _ _ => pts_nil) (fun s H C cl fp => (he s H C cl fp).pe) hs,
    sx_asg (snd_lcX hi.sd (hg X.s_0 X.H_0 0 [] []).sd (he X.s_0 X.H_0 0 [] []).sd) sg_name⟩
end
/-! ### for .. in range(a, b), the bounds drawn -/
def xRng2 (f : Ev → RX (List D)) : Ev → RX (List D) := fun s => match f s with
  | .ok (d, s1) => match gRng2 d with
    | .ok ds => .ok (ds, s1)
    | _ => .no
  | _ => .no
section
variable {K : PySem.W.Frag}
theorem sx_rng2 {t : TA} {f : Ev → RX (List D)} (h : SndXA K t f) : SndXI K (iRng2 t) (xRng2 f) := by
  refine ⟨fun ga B0 H0 B H σ s Q e p => h.run ga B0 H0 B H σ s _ e ?_⟩
  unfold xRng2 at p
  cases hf : f s with
  | ok z =>
    obtain ⟨d, s1⟩ := z
    rw [hf] at p
    replace p : match (match gRng2 d with | .ok ds => (.ok (ds, s1) : RX (List D)) | _ => .no) with
      | .ok (ds, s') => ∀ J B' H', ER K ga B0 H0 B' H' σ s' → Walk K B' J ds → Q J H'
      | _ => False := p
    intro vs B1 H1 x1 e1 q1
    cases hd : gRng2 d with
    | ok ds =>
      rw [hd] at p
      unfold gRng2 at hd
      split at hd
      · obtain ⟨w, w2, rfl, r1, r2⟩ := dp2 q1
        cases r1
        cases r2
        split at hd
        · rename_i hz
          cases hd
          have hj := inM_of hz.1
          have hj2 := inM_of hz.2
          exact ⟨_, _, rfl, by omega, p _ B1 H1 e1 walk_rng⟩
        · cases hd
      · cases hd
    | ex y => exact absurd hd (rng2_nx d y)
    | no =>
      rw [hd] at p
      exact p.elim
  | ex _ =>
    rw [hf] at p
    exact p.elim
  | no =>
    rw [hf] at p
    exact p.elim
end
theorem xi_rng2 {X : Cx} {W : WX} {tg a b : Expr} {p pos : Pos} {tA : TA} {fA : Ev → RX (List D)} (hm : X.mg "range" = none) (ha : JXA X W [a, b] tA fA) (hg : Gl X "range" := by rfl) (hs : starEach [a, b] X.env = [(false, eval a X.env), (false, eval b X.env)] := by rfl) (hs2 : starEach [b] X.env = [(false, eval b X.env)] := by rfl) :
    JXI X W tg (.Call (.Name "range" p) [a, b] [] pos) (iRng2 tA) (xRng2 fA) := ⟨pi_range2 hg hm ha.pe hs hs2, sx_rng2 ha.sd⟩
end Sf

namespace Sf
open PySem PySem.Spec PyProof.Rows L2

/-! ### xs.count(k) of an own list of whole numbers -/
def fCntO (i : Nat) (f : Ev → R D) : Ev → R D := fun s => match s[i]? with
  | some (.o ds) => (f s).bind fun
    | .int k => match intsOf ds with
      | some ns => .ok (.int (ns.count k : Nat))
      | none => .no
    | _ => .no
  | _ => .no
section
variable {K : PySem.W.Frag} {mg : Str → Option Value} {W : WX} {te : TE} {f : Ev → R D} {i : Nat}
theorem snd_cntO (h : SndE K mg W te f) : SndE K mg W (tBM K "list" (rCntI K) (tVar i) (tCons te tNil)) (fCntO i f) := by
  refine ⟨fun ga B0 H0 B H σ s Q e p => ?_⟩
  unfold fCntO at p
  split at p
  · rename_i ds hi
    obtain ⟨a, vs, hσ, hp, hb, h0, hd⟩ := e.own i ds hi
    refine ⟨.ref a, hσ, .inl ⟨rfl, vs, SqL.of hp⟩, ?_⟩
    refine h.bind e p fun d v B1 H1 _ x q e1 p1 => ?_
    have hp1 : H1 a = some (.lst vs) := x.h a _ hp
    cases q with
    | int k =>
      replace p1 : EPost K mg W σ B1 H1 Q (match intsOf ds with | some ns => .ok (.int (ns.count k : Nat)) | none => .no) := p1
      split at p1
      · rename_i ns hn
        have ev := ints_of hn hd
        subst ev
        exact ⟨a, ns, k, rfl, rfl, SqL.of hp1, p1 _ B1 H1 e1.here (.int _)⟩
      · exact p1.elim
    | _ => exact (show False from p1).elim
  · exact p.elim
end
theorem j_cntO {X : Cx} {W : WX} {e : Expr} {te : TE} {f : Ev → R D} {apos pos px : Pos} {x : Str} {Kk : PySem.W.Frag} (i : Nat) (he : JE X W e te f) (hN : X.N[i]? = some x := by rfl) (hv : Vis X.env.scope x := by first | exact Or.inl rfl | exact Or.inr (Or.inl rfl) | exact Or.inr (Or.inr rfl)) (hd : (x == ("__debug__" : Str)) = false := by decide)
    (hcd : (x == ("__classdict__" : Str)) = false := by decide) (hs : starEach [e] X.env = (false, eval e X.env) :: starEach [] X.env := by rfl)
    (hbase : attributeBase (.Name x px) "count" X.env (eval (.Name x px) X.env) = eval (.Name x px) X.env := by rfl)
    (hfew : ((backTo pos (starEach [e] X.env)).all (fun x => !x.1) && (backToKw pos (keywordEach [] X.env)).all (fun x => x.1.isSome) && decide ([e].length + ([] : List Keyword).length + (if ([] : List Keyword).isEmpty then 0 else 1) < 30)) = true := by rfl)
    (hline : (apos.endLine == pos.line) = true := by rfl) (hplain : (backTo pos (starEach [] X.env)).any (·.1) = false := by rfl) (hK : X.K = Kk := by rfl) :
    JE X W (.Call (.Attribute (.Name x px) "count" apos) [e] [] pos) (tBM Kk "list" (rCntI Kk) (tVar i) (tCons te tNil)) (fCntO i f) := by
  subst hK
  exact ⟨pe_bm PySem.F.plainAttrs_list PySem.F.slot_list_count PySem.F.type_list_count mt_lcount (pe_var hN hv hd hcd) (pa_cons he.pe pa_nil hs) hbase hfew hline hs hplain, snd_cntO he.sd⟩
end Sf

namespace Sf
open PySem PySem.Spec PyProof.Rows L2
open Evl (Ex)

/-! ### a dict of written words, looked up once and handed out: `x = {'=': .., ..}`, `return x[e]` -/
/-- a slot that nothing is known of -/
theorem ER.dull {K : PySem.W.Frag} {g : Addr} {B0 H0 B H : Hp} {σ : L2.St} {s : Ev} {i : Nat} {v : V} (x : ER K g B0 H0 B H σ s) : ER K g B0 H0 B H (σ.set i (some v)) (s.set i .un) := by
  have ne : ∀ {m : Nat} {z : En}, (s.set i .un)[m]? = some z → z ≠ .un → i ≠ m ∧ s[m]? = some z := fun {m z} h hz => by
    rw [List.getElem?_set] at h
    split at h
    · first
      | (split at h
         · simp only [Option.some.injEq] at h
           exact absurd h.symm hz
         · cases h)
      | (simp only [Option.some.injEq] at h
         exact absurd h.symm hz)
    · rename_i hij
      exact ⟨hij, h⟩
  refine ⟨x.ext, by simp [x.len], fun j e h => ?_, fun j ds h => ?_, fun j k ds es p h1 h2 h3 h4 => ?_, x.pin.set (fun _ z => by cases z) (fun _ z => by cases z) (fun _ z => by cases z)⟩
  · obtain ⟨n1, g⟩ := ne h (by intro z; cases z)
    rw [List.getElem?_set_ne n1]
    exact x.val j e g
  · obtain ⟨n1, g⟩ := ne h (by intro z; cases z)
    rw [List.getElem?_set_ne n1]
    exact x.own j ds g
  · obtain ⟨n1, g1⟩ := ne h1 (by intro z; cases z)
    obtain ⟨n2, g2⟩ := ne h2 (by intro z; cases z)
    rw [List.getElem?_set_ne n1] at h3
    rw [List.getElem?_set_ne n2] at h4
    exact x.dis j k ds es p g1 g2 h3 h4
/-- the last entry of a key -/
def dSel (z : Str) : List Str → List D → Option D → Option D
  | k :: ks, d :: ds, o => dSel z ks ds (if z = k then some d else o)
  | _, _, o => o
def kvOf : List Str → List V → List (L2.Key × V)
  | k :: ks, v :: vs => (.inr k, v) :: kvOf ks vs
  | _, _ => []
def OptDp (K : PySem.W.Frag) (B : Hp) : Option V → Option D → Prop
  | some v, some d => Dp K B v d
  | _, none => True
  | none, some _ => False
theorem kvOf_len : ∀ (ks : List Str) (vs : List V), (kvOf ks vs).length ≤ ks.length
  | [], _ => Nat.zero_le _
  | _ :: _, [] => Nat.zero_le _
  | _ :: ks, _ :: vs => Nat.succ_le_succ (kvOf_len ks vs)
theorem dSel_ok {K : PySem.W.Frag} {B : Hp} {z : Str} : ∀ (ks : List Str) {vs : List V} {ds : List D} (acc : List (L2.Key × V)) (o : Option D), DpAll K B vs ds → OptDp K B (valV acc (.inr z : L2.Key)) o →
    OptDp K B (valV (mergeK acc (kvOf ks vs)) (.inr z : L2.Key)) (dSel z ks ds o)
  | [], vs, ds, acc, o, _, h => by
    cases vs <;> cases ds <;> exact h
  | k :: ks, _, _, acc, o, .nil, h => h
  | k :: ks, v :: vs, d :: ds, acc, o, .cons q r, h => by
    show OptDp K B (valV (mergeK (putK acc (.inr k) v) (kvOf ks vs)) (.inr z : L2.Key)) (dSel z ks ds (if z = k then some d else o))
    refine dSel_ok ks _ _ r ?_
    rw [valV_put]
    by_cases e : z = k
    · rw [if_pos e, if_pos (by rw [e])]
      exact q
    · rw [if_neg e, if_neg (fun w => e (by cases w; rfl))]
      exact h
def gDsel (i : Nat) (ks : List Str) (F : Ev → R (List D)) (f : Ev → R D) : Ev → Fl := fun s => match F s with
  | .ok ds => match f (s.set i .un) with
    | .ok (.str z) => match dSel z ks ds none with
      | some d => if i < s.length then .rt d else .no
      | none => .no
    | _ => .no
  | _ => .no
section
variable {K : PySem.W.Frag} {mg : Str → Option Value} {W : WX}
structure SndDs (K : PySem.W.Frag) (mg : Str → Option Value) (W : WX) (ks : List Str) (ts : List (TE × TE)) (F : Ev → R (List D)) : Prop where
  run : ∀ ga B0 H0 B H σ s (Q : List (V × V) → Hp → Prop) ds, ER K ga B0 H0 B H σ s → F s = .ok ds → (∀ vs B' H', Ext B H B' H' → DpAll K B' vs ds → Q ((kvOf ks vs).map fun kv => (kV kv.1, kv.2)) H') → tPairs ts σ H Q
theorem sds_nil : SndDs K mg W [] [] fNil := ⟨fun ga B0 H0 B H σ s Q ds e hf p => by
  cases hf
  exact p [] B H e.here .nil⟩
theorem sds_cons {k : Str} {ks : List Str} {te : TE} {ts : List (TE × TE)} {f : Ev → R D} {F : Ev → R (List D)} (h : SndE K mg W te f) (r : SndDs K mg W ks ts F) : SndDs K mg W (k :: ks) ((tC (.str k), te) :: ts) (fCons f F) := by
  refine ⟨fun ga B0 H0 B H σ s Q ds e hf p => ?_⟩
  unfold fCons at hf
  cases hd : f s with
  | ex _ => rw [hd] at hf; cases hf
  | no => rw [hd] at hf; cases hf
  | ok d =>
    rw [hd] at hf
    cases hr : F s with
    | ex _ => rw [hr] at hf; cases hf
    | no => rw [hr] at hf; cases hf
    | ok dr =>
      rw [hr] at hf
      cases hf
      refine h.run ga B0 H0 B H σ s _ e ?_
      rw [hd]
      intro v B1 H1 x q
      refine r.run ga B0 H0 B1 H1 σ s _ dr (e.more x) hr fun vs B2 H2 y q2 => ?_
      exact p (v :: vs) B2 H2 (x.trans y) (.cons (Dp.ex y.b _ _ q) q2)
theorem snd_dsel {i : Nat} {ks : List Str} {ts : List (TE × TE)} {F : Ev → R (List D)} {te : TE} {f : Ev → R D} (hN : ks.length ≤ 15) (hF : SndDs K mg W ks ts F) (hf : SndE K mg W te f) :
    SndS K mg W (tSeq (tAsg (tDisp ts) (gName i)) (tRet (tDGet (tVar i) te))) (gDsel i ks F f) := by
  refine ⟨fun ga B0 H0 B H σ s E e p => ?_⟩
  unfold gDsel at p
  split at p
  case h_2 => exact (show False from p).elim
  rename_i ds hds
  split at p
  case h_2 => exact (show False from p).elim
  rename_i z hz
  split at p
  case h_2 => exact (show False from p).elim
  rename_i d hd
  split at p
  case isFalse => exact (show False from p).elim
  rename_i hi
  intro a ha
  have hb : B a = none := ex_none e.ext.s ha
  have x1 : Ext B H B (upd H a (.dK [])) := ⟨Ex.refl B, Ex.new ha, fun q u hq => by
    have : q ≠ a := fun w => by rw [w, hb] at hq; cases hq
    rw [upd_ne this]
    exact e.ext.s q u hq, fun _ _ _ n => n⟩
  refine hF.run ga B0 H0 B (upd H a (.dK [])) σ s _ ds (e.more x1) hds fun vs B2 H2 y q2 => ?_
  refine ⟨y.h _ _ upd_same, kvOf ks vs, rfl, Nat.le_trans (kvOf_len ks vs) hN, ?_⟩
  have nb2 : B2 a = none := y.o a _ upd_same hb
  have x2 : Ext B H B2 (upd H2 a (.dK (mergeK [] (kvOf ks vs)))) := by
    refine ⟨y.b, fun q u hq => ?_, fun q u hq => ?_, fun q u hq n => ?_⟩
    · have : q ≠ a := fun w => by rw [w, ha] at hq; cases hq
      rw [upd_ne this]
      exact y.h q u (by rw [upd_ne this]; exact hq)
    · have : q ≠ a := fun w => by rw [w, nb2] at hq; cases hq
      rw [upd_ne this]
      exact y.s q u hq
    · have : q ≠ a := fun w => by rw [w, ha] at hq; cases hq
      exact y.o q u (by rw [upd_ne this]; exact hq) n
  have e2 := (e.more x2).dull (i := i) (v := .ref a)
  refine ⟨.ref a, by rw [List.getElem?_set_self (by rw [e.len]; exact hi)], ?_⟩
  refine hf.run ga B0 H0 B2 _ _ _ _ e2 ?_
  rw [hz]
  intro w B3 H3 x3 q3
  have hw : w = .str z := by cases q3; rfl
  subst hw
  have o2 := dSel_ok (K := K) (z := z) ks [] none q2 (by rw [valV_nil]; exact trivial)
  rw [hd] at o2
  have g3 := DGet.k (k := .inr z) (x3.h _ _ (upd_same (a := a) (o := .dK (mergeK [] (kvOf ks vs)))))
  cases hv : valV (mergeK [] (kvOf ks vs)) (.inr z : L2.Key) with
  | none => rw [hv] at o2; exact o2.elim
  | some u =>
    rw [hv] at o2 g3
    exact ⟨a, u, rfl, g3, p u B3 H3 (e.ext.trans (x2.trans x3)) (Dp.ex x3.b _ _ o2)⟩
end
/-! ### two texts that repr showed, not alike -/
def gNeS : D → D → R D
  | .str x, .str y => .ok (.bool (!decide (x = y)))
  | _, _ => .no
theorem neS_nx (d e : D) (x : Exn) : gNeS d e ≠ .ex x := by unfold gNeS; split <;> exact fun z => nomatch z
theorem sr_neS {K : PySem.W.Frag} : SndR2 K rNe gNeS := by
  refine ⟨fun B H x y d e Q eb hx hy p => ?_⟩
  unfold gNeS at p
  split at p
  · rename_i i j
    cases hx
    cases hy
    refine ⟨rfl, ?_⟩
    have w : decide (V.str i = V.str j) = decide (i = j) := decide_eq_decide.mpr ⟨fun z => by cases z; rfl, fun z => by rw [z]⟩
    rw [w]
    exact p _ B H (Ext.refl eb) (.bl _)
  · exact p.elim
section
variable {X : Cx} {W : WX} {pos : Pos} {a b : Expr} {ta tb : TE} {f g : Ev → R D}
theorem j_neS (ha : JE X W a ta f) (hb : JE X W b tb g) : JE X W (.Compare a [.NotEq] [b] pos) (tOp rNe ta tb) (fBin gNeS f g) := ⟨pe_cmpR op_ne ha.pe hb.pe (nomark _), snd_bin sr_neS neS_nx ha.sd hb.sd⟩
theorem t_neS (ha : JE X W a ta f) (hb : JE X W b tb g) : JT X W (.Compare a [.NotEq] [b] pos) (tTest (tOp rNe ta tb)) (bVal (fBin gNeS f g)) := t_cmp (j_neS ha hb) op_ne ha.pe hb.pe (nomark _)
end
structure JDs (X : Cx) (W : WX) (pos : Pos) (keys : List (Option Expr)) (vals : List Expr) (ks : List Str) (ts : List (TE × TE)) (F : Ev → R (List D)) : Prop where
  pe : PPs X pos keys vals ts
  sd : SndDs X.K X.mg W ks ts F
section
variable {X : Cx} {W : WX} {pos : Pos} {keys : List (Option Expr)} {vals : List Expr} {ks : List Str} {ts : List (TE × TE)} {F : Ev → R (List D)} {e ei : Expr} {te : TE} {f : Ev → R D} {x : Str}
theorem jd_nil : JDs X W pos [] [] [] [] fNil := ⟨pps_nil, sds_nil⟩
theorem jd_cons {k : Str} {j pk} (h : JE X W e te f) (r : JDs X W pos keys vals ks ts F) : JDs X W pos (some (.Constant (.str k) j pk) :: keys) (e :: vals) (k :: ks) ((tC (.str k), te) :: ts) (fCons f F) :=
  ⟨pps_cons pe_str h.pe r.pe, sds_cons h.sd r.sd⟩
theorem ss_dsel (i : Nat) {p1 p2 p3 p4 p5 : Pos} {u : Nat} (hu : u + 65 < cLine) (hD : JDs X W pos keys vals ks ts F) (hi : JE X W ei te f) (q1 : PE X (.Dict keys vals pos) (tDisp ts) → PS X (.Assign [.Name x p1] (.Dict keys vals pos) p2) (tAsg (tDisp ts) (gName i))) (h15 : ks.length ≤ 15 := by decide) (hall : keys.all (·.isSome) = true := by rfl) (hl : keys.length = vals.length := by rfl)
    (h0 : keys ≠ [] := by exact fun z => nomatch z) (k15 : keys.length ≤ 15 := by decide) (hs : NoSl ei := by exact fun _ _ => rfl) (hA : X.A.units = u := by rfl) (hN : X.N[i]? = some x := by rfl) (hv : Vis X.env.scope x := by first | exact Or.inl rfl | exact Or.inr (Or.inl rfl) | exact Or.inr (Or.inr rfl)) (hd : (x == ("__debug__" : Str)) = false := by decide) (hcd : (x == ("__classdict__" : Str)) = false := by decide) :
    JSs X W [.Assign [.Name x p1] (.Dict keys vals pos) p2, .Return (some (.Subscript (.Name x p3) ei p4)) p5] (tSeq (tAsg (tDisp ts) (gName i)) (tRet (tDGet (tVar i) te))) (gDsel i ks F f) := by
  subst hA
  exact ⟨pss_cons (q1 (pe_disp hD.pe hall hl h0 k15)) (pss_one (ps_ret (pe_dget (Nat.lt_of_le_of_lt (Nat.add_le_add_left (by decide) _) hu) (pe_var hN hv hd hcd) hi.pe hs))), snd_dsel h15 hD.sd hi.sd⟩
end
end Sf

namespace Sf
open PySem PySem.Spec PyProof.Rows L2
open Evl (Ex)

/-! ### one of two new lists -/
theorem snd_ifL {K : PySem.W.Frag} {mg : Str → Option Value} {W : WX} {t : TT} {c : Ev → R Bool} {ta tb : TE} {f g : Ev → R D} (ht : SndT K mg W t c) (ha : SndL K mg W ta f) (hb : SndL K mg W tb g) : SndL K mg W (tIf t ta tb) (fIf c f g) := by
  refine ⟨fun ga B0 H0 B H σ s Q e p => ?_⟩
  have key : ∀ {t2 : TE} {h : Ev → R D} {B1 H1 : Hp}, SndL K mg W t2 h → Ext B H B1 H1 → ER K ga B0 H0 B1 H1 σ s → (match h s with
    | .ok d => ∀ (p : Addr) (vs : List V) (ds : List D) B' H', d = .list ds → Ext B H B' H' → H p = none → B' p = none → H' p = some (.lst vs) → DpAll K B' vs ds → Q (.ref p) H'
    | .ex e => ∀ cls dd B' H', Ext B H B' H' → XRep mg K B' e cls dd → W cls dd σ H'
    | .no => False) → t2 σ H1 Q := fun {t2 h B1 H1} hh x1 e1 q => by
    refine hh.run ga B0 H0 B1 H1 σ s Q e1 ?_
    cases hz : h s with
    | ok d =>
      rw [hz] at q
      exact fun a vs ds B2 H2 hd x h0 hb2 h2 qq => q a vs ds B2 H2 hd (x1.trans x) (Evl.fresh_back x1.h h0) hb2 h2 qq
    | ex y =>
      rw [hz] at q
      exact fun cls dd B2 H2 x r => q cls dd B2 H2 (x1.trans x) r
    | no =>
      rw [hz] at q
      exact q.elim
  refine ht.run ga B0 H0 B H σ s _ e ?_
  unfold fIf at p
  cases hc : c s with
  | ok b =>
    rw [hc] at p
    intro B1 H1 x1
    cases b with
    | true => exact key ha x1 (e.more x1) p
    | false => exact key hb x1 (e.more x1) p
  | ex y =>
    rw [hc] at p
    exact p
  | no =>
    rw [hc] at p
    exact p.elim
/-! ### C.get(word), C a dict of written words at the top of the module, whose values are constants -/
def Cd (K : PySem.W.Frag) (w : World) (mg : Str → Option Value) (x : Str) (L : List (Str × D)) : Prop := ∃ (a : Addr) (es : Array DictEntry) (n : Nat), mg x = some (.ref a) ∧ L2.KDict K w a es n ∧
  ∀ z d, L.lookup z = some d → ∃ u v, PySem.W.nsIn K a z = some (some u) ∧ RelV v u ∧ ∀ B, Dp K B v d
def gKget (L : List (Str × D)) : D → R D
  | .str z => match L.lookup z with
    | some d => .ok d
    | none => .no
  | _ => .no
def fKget (L : List (Str × D)) (f : Ev → R D) : Ev → R D := fun s => (f s).bind (gKget L)
def tKget (K : PySem.W.Frag) (mg : Str → Option Value) (x : Str) (te : TE) : TE := fun σ H Q => te σ H fun y H2 => ∃ z a u v, mg x = some (.ref a) ∧ y = .str z ∧ PySem.W.nsIn K a z = some (some u) ∧ RelV v u ∧ Q v H2
section
variable {X : Cx} {W : WX} {e : Expr} {te : TE} {f : Ev → R D} {apos cpos p : Pos} {x : Str} {L : List (Str × D)}
theorem pe_kget (C : Cd X.K X.w X.mg x L) (he : PE X e te) (hg : Gl X x) (hd : (x == ("__debug__" : Str)) = false) (m : M1 X (.Name x p) "get" apos e cpos) : PE X (.Call (.Attribute (.Name x p) "get" apos) [e] [] cpos) (tKget X.K X.mg x te) := by
  obtain ⟨a, es, n, gl, Dd, _⟩ := C
  refine ⟨fun pins s σ H Q I h => ?_⟩
  refine wpAny_Call_method m.base m.few m.line PySem.F.plainAttrs_dict PySem.F.slot_dict_get PySem.F.type_dict_get (thn ((pe_glob (v := .ref a) hg gl rfl hd).run pins s σ H (fun y H1 => y = .ref a ∧ te σ H1 fun y H2 => ∃ z a u v, X.mg x = some (.ref a) ∧ y = .str z ∧ PySem.W.nsIn X.K a z = some (some u) ∧ RelV v u ∧ Q v H2) I ⟨rfl, h⟩) fun u s1 ⟨y, H1, I1, ry, ey, q1⟩ => ?_)
  subst ey
  obtain rfl : u = Value.ref a := ry
  refine ⟨kd_type Dd I1, fun b q => ?_, ?_⟩
  · cases q
    exact ⟨_, I1.kIn _ _ Dd.at_, rfl⟩
  rw [m.trees]
  refine Calls.callWith_builtin rfl (Calls.evalArgs_plain (Calls.spliced_cons (thn (he.run pins s1 σ H1 _ I1 q1) fun iv s2 ⟨y, H2, I2, ry, z, a', u, v, gl', ez, ns, rv, q2⟩ => Calls.spliced_nil ?_)))
  rw [gl] at gl'
  cases gl'
  subst ez
  obtain ⟨t, rfl⟩ := ry
  refine call_meetsIn PySem.F.slot_dict_get (kd_type Dd I2) PySem.F.entry_dict_get (PySem.F.args_dict_get_2 _ _) (meets_dict_get (strKind X.prog X.w) a (PySem.strKind_is X.prog X.w z t) Dd.low) ⟨_, PySem.W.mapOf_K (prog := X.prog) I2.kIn Dd.at_ Dd.lit, ?_⟩
  rw [PySem.W.find_K Dd.at_ ns]
  exact ⟨v, H2, I2.tok _, rv, q2⟩
theorem snd_kget {K : PySem.W.Frag} {w : World} {mg : Str → Option Value} (C : Cd K w mg x L) (he : SndE K mg W te f) : SndE K mg W (tKget K mg x te) (fKget L f) := by
  obtain ⟨a, es, n, gl, _, hL⟩ := C
  refine ⟨fun ga B0 H0 B H σ s Q e p => ?_⟩
  refine he.bind e p fun d v B1 H1 _ x1 q1 e1 p1 => ?_
  cases q1 with
  | str z =>
    replace p1 : EPost K mg W σ B1 H1 Q (match L.lookup z with | some d => .ok d | none => .no) := p1
    split at p1
    · rename_i d hz
      obtain ⟨u, v, h1, h2, h3⟩ := hL z d hz
      exact ⟨z, a, u, v, gl, rfl, h1, h2, p1 v B1 H1 e1.here (h3 B1)⟩
    · exact p1.elim
  | _ => exact (show False from p1).elim
theorem j_kget {Kk : PySem.W.Frag} {wk : World} {mk : Str → Option Value} (C : Cd Kk wk mk x L) (he : JE X W e te f) (hK : X.K = Kk := by rfl) (hw : X.w = wk := by rfl) (hM : X.mg = mk := by rfl) (hg : Gl X x := by rfl) (hd : (x == ("__debug__" : Str)) = false := by decide)
    (hb : attributeBase (.Name x p) "get" X.env (eval (.Name x p) X.env) = eval (.Name x p) X.env := by rfl)
    (hfew : ((backTo cpos (starEach [e] X.env)).all (fun x => !x.1) && (backToKw cpos (keywordEach [] X.env)).all (fun x => x.1.isSome) && decide (([e] : List Expr).length + ([] : List Keyword).length + (if ([] : List Keyword).isEmpty then 0 else 1) < 30)) = true := by rfl)
    (hline : (apos.endLine == cpos.line) = true := by rfl) (ht : backTo cpos (starEach [e] X.env) = [(false, eval e X.env)] := by rfl) : JE X W (.Call (.Attribute (.Name x p) "get" apos) [e] [] cpos) (tKget Kk mk x te) (fKget L f) := by
  subst hK
  subst hw
  subst hM
  exact ⟨pe_kget C he.pe hg hd ⟨hb, hfew, hline, ht⟩, snd_kget C he.sd⟩
theorem l_if {c a b : Expr} {pos : Pos} {tc : TT} {cb : Ev → R Bool} {ta tb : TE} {g : Ev → R D} (hc : JT X W c tc cb) (ha : JL X W a ta f) (hb : JL X W b tb g) : JL X W (.IfExp c a b pos) (tIf tc ta tb) (fIf cb f g) := ⟨pe_ifExp hc.pe ha.pe hb.pe, snd_ifL hc.sd ha.sd hb.sd⟩
end
/-- a table of constants, from what stands written -/
theorem cd_of {K : PySem.W.Frag} {w : World} {mg : Str → Option Value} {x : Str} {a : Addr} {es : Array DictEntry} {n : Nat} {L : List (Str × D)} (gl : mg x = some (.ref a)) (hl : K.lookup a = some ⟨.type "dict", none, .dict es n, #[]⟩) (hk : PySem.W.KeysLit w.params es.toList) (low : (a == sysModules) = false)
    (h : ∀ p ∈ L, ∃ u v, PySem.W.nsIn K a p.1 = some (some u) ∧ RelV v u ∧ ∀ B, Dp K B v p.2) : Cd K w mg x L := by
  refine ⟨a, es, n, gl, ⟨hl, hk, low⟩, fun z d hz => ?_⟩
  have key : ∀ {L : List (Str × D)}, (∀ p ∈ L, ∃ u v, PySem.W.nsIn K a p.1 = some (some u) ∧ RelV v u ∧ ∀ B, Dp K B v p.2) → L.lookup z = some d → ∃ u v, PySem.W.nsIn K a z = some (some u) ∧ RelV v u ∧ ∀ B, Dp K B v d := fun {L} hh e => by
    induction L with
    | nil => cases e
    | cons p r ih =>
      obtain ⟨k, y⟩ := p
      rw [List.lookup_cons] at e
      split at e
      · rename_i hk
        cases e
        have := hh (k, d) List.mem_cons_self
        rwa [← show z = k from eq_of_beq hk] at this
      · exact ih (fun p hp => hh p (List.mem_cons_of_mem _ hp)) e
  exact key h hz
theorem cd_val {K : PySem.W.Frag} {a b : Addr} {z : Str} {od : Option Addr} {n : Nat} {sl : Array (Option Value)} {us : List Value} {vs : List V} {ds : List D} (e : PySem.W.nsIn K a z = some (some (.ref b))) (l : K.lookup b = some ⟨.type "tuple", od, .seq us.toArray n, sl⟩) (f : FlatDs us vs ds) (hz : us.length ≤ 100000) :
    ∃ u v, PySem.W.nsIn K a z = some (some u) ∧ RelV v u ∧ ∀ B, Dp K B v (.tuple ds) :=
  ⟨_, .ref b, e, rfl, fun B => .tup (.inr ⟨_, us.toArray, n, l, rfl, rfl, by rw [List.size_toArray]; exact sz100 hz, by simpa using f.vals⟩) f.dps⟩
end Sf

namespace Sf
open PySem PySem.Spec PyProof.Rows L2
open RZ (ItzT iZipA pi_zipA)
open Evl (Ex)

/-! ### zip of two tuples -/
def gZipA : List D → R (List D)
  | [.tuple ds, .tuple es] => .ok ((ds.zip es).map fun p => .tuple [p.1, p.2])
  | L => gZip L
def sZipA (f : Ev → R (List D)) : Ev → R (List D) := fun s => (f s).bind gZipA
section
variable {K : PySem.W.Frag} {mg : Str → Option Value} {W : WX}
theorem zipA_nx (L : List D) (x : Exn) : gZipA L ≠ .ex x := by
  unfold gZipA
  split
  · exact fun z => nomatch z
  · exact zip_nx _ _
theorem walk_zipT {B1 : Hp} {a b : Addr} {vs ws : List V} {ds es : List D} (k1 : SqT K B1 a vs) (a1 : DpAll K B1 vs ds) (k2 : SqT K B1 b ws) (a2 : DpAll K B1 ws es) : Walk K B1 (ItzT K a b) ((ds.zip es).map fun p => .tuple [p.1, p.2]) := by
  intro B H y1 y2
  have t1 : SqT K H a vs := sqt_ex y2 (sqt_ex y1 k1)
  have t2 : SqT K H b ws := sqt_ex y2 (sqt_ex y1 k2)
  have n1 := DpAll.len a1
  have n2 := DpAll.len a2
  have n3 : ((ds.zip es).map fun p => (PyData.tuple [p.1, p.2])).length = min ds.length es.length := by simp
  refine ⟨fun i hi => ?_, ⟨vs, ws, t1, t2, by rw [n3]; omega⟩⟩
  rw [n3] at hi
  have l1 : i < vs.length := by omega
  have l2 : i < ws.length := by omega
  refine ⟨⟨vs, ws, vs[i], ws[i], t1, t2, by simp [l1], by simp [l2]⟩, fun v H1 y => ?_⟩
  obtain ⟨T, x, x', rfl, hT, rfl, f, f'⟩ := y
  obtain ⟨d, g1, g2⟩ := DpAll.getV a1 (f vs t1)
  obtain ⟨e, g3, g4⟩ := DpAll.getV a2 (f' ws t2)
  have nb : B T = none := ex_none y2 hT
  have up : Ex B1 (upd B T (.tup [x, x'])) := y1.trans (Ex.new nb)
  refine ⟨_, .tuple [d, e], (Ext.refl y2).new hT, ?_, .tup (SqT.of upd_same) (.cons (Dp.ex up _ _ g2) (.cons (Dp.ex up _ _ g4) .nil))⟩
  rw [List.getElem?_map, (List.getElem?_zip_eq_some (z := (d, e))).mpr ⟨g1, g3⟩] <;> rfl
theorem si_zipA {t : TA} {f : Ev → R (List D)} (h : SndA K mg W t f) : SndI K mg W (iZipA K t) (sZipA f) := by
  refine ⟨fun ga B0 H0 B H σ s Q e p => ?_⟩
  refine h.walk e p (fun d v B1 H1 x q eb zs hd k => ?_) zipA_nx
  unfold gZipA at hd
  split at hd
  · obtain ⟨w, w2, rfl, q1, q2⟩ := dp2 q
    cases hd
    cases q1 with
    | tup c1 a1 =>
      cases q2 with
      | tup c2 a2 => exact ⟨_, _, _, _, rfl, .inr ⟨sqt_ex eb c1, sqt_ex eb c2, k _ B1 H1 (Ext.refl eb) (walk_zipT c1 a1 c2 a2)⟩⟩
  · unfold gZip at hd
    split at hd
    · obtain ⟨w, w2, rfl, q1, q2⟩ := dp2 q
      cases hd
      cases q1 with
      | lst c1 a1 =>
        cases q2 with
        | lst c2 a2 => exact ⟨_, _, _, _, rfl, .inl ⟨sql_ex eb c1, sql_ex eb c2, k _ B1 H1 (Ext.refl eb) (walk_zip c1 a1 c2 a2)⟩⟩
    · cases hd
end
section
variable {X : Cx} {W : WX} {p pos : Pos} {a b : Expr} {tA : TA} {fA : Ev → R (List D)}
theorem i_zipA {Kk : PySem.W.Frag} {elts : List Expr} {kk : Nat} {tpos : Pos} (hm : X.mg "zip" = none) (ha : JA X W [a, b] tA fA) (hg : Gl X "zip" := by rfl) (hs : starEach [a, b] X.env = (false, eval a X.env) :: starEach [b] X.env := by rfl) (hpl : (backTo pos (starEach [b] X.env)).any (·.1) = false := by rfl) (hK : X.K = Kk := by rfl) : JI X W (.Tuple elts kk tpos) (.Call (.Name "zip" p) [a, b] [] pos) (iZipA Kk tA) (sZipA fA) := by
  subst hK
  exact ⟨pi_zipA hg hm ha.pe hs hpl, si_zipA ha.sd⟩
end
end Sf

namespace Sf
open PySem PySem.Spec PyProof.Rows L2

/-! ### try: .. except T as e: .. as a statement -/
/-- a block's wish, told by its meaning alone -/
def tSem (K : PySem.W.Frag) (mg : Str → Option Value) (W : WX) (F : Ev → Fl) : TS := fun E σ H => ∃ ga B0 H0 B s, ER K ga B0 H0 B H σ s ∧ SPost K mg W ga B0 H0 E (F s)
theorem sem_of {X : Cx} {W : WX} {sts : List Stmt} {t : TS} {F : Ev → Fl} (h : JSs X W sts t F) : PSs X sts (tSem X.K X.mg W F) :=
  ⟨fun pins s σ H D I ⟨ga, B0, H0, B, s', e, p⟩ => h.pe.run pins s σ H D I (h.sd.run ga B0 H0 B H σ s' D e p)⟩
open Classical in
noncomputable def gTryE (i : Nat) (T : List (Str × Bool)) (F : Ev → Fl) (G : Exn → Addr → Ev → Fl) : Ev → Fl := fun s => match F s with
  | .ex e s1 => match T.lookup e.c with
    | some true => if h : (e.fs = [] ∧ i < s1.length) ∧ ∃ z, ∀ a, gone i (G e a (s1.set i (.x a))) = z then Classical.choose h.2 else .no
    | some false => .ex e s1
    | none => .no
  | z => z
theorem tryE_thru {i : Nat} {T : List (Str × Bool)} {F : Ev → Fl} {G : Exn → Addr → Ev → Fl} {s : Ev} {z : Fl} (h : F s = z) (n : ∀ e s1, z ≠ .ex e s1) : gTryE i T F G s = z := by
  unfold gTryE
  rw [h]
  cases z with
  | ex e s1 => exact absurd rfl (n e s1)
  | _ => rfl
theorem tryE_ex {i : Nat} {T : List (Str × Bool)} {F : Ev → Fl} {G : Exn → Addr → Ev → Fl} {s s1 : Ev} {c : Str} {z : Fl} (h : F s = .ex ⟨c, []⟩ s1) (t : T.lookup c = some true) (hi : i < s1.length) (g : ∀ a, gone i (G ⟨c, []⟩ a (s1.set i (.x a))) = z) : gTryE i T F G s = z := by
  unfold gTryE
  rw [h]
  simp only [t]
  have hh : (((⟨c, []⟩ : Exn).fs = []) ∧ i < s1.length) ∧ ∃ z, ∀ a, gone i (G ⟨c, []⟩ a (s1.set i (.x a))) = z := ⟨⟨rfl, hi⟩, z, g⟩
  rw [dif_pos hh]
  have := Classical.choose_spec hh.2 0
  rw [← this]
  exact g 0
/-- the clause's wish of its suite -/
def tsOf (K : PySem.W.Frag) (mg : Str → Option Value) (T : List (Str × Bool)) (G : Exn → Addr → Ev → Fl) : Addr → Value → Option Addr → TS := fun a cls d E σ H =>
  ∃ (e : Exn) (D : Addr), cls = .ref D ∧ d = none ∧ mg e.c = some (.ref D) ∧ T.lookup e.c = some true ∧ tSem K mg (fun _ _ _ _ => False) (G e a) E σ H
theorem lookup_mem {β : Type} {z : Str} {b : β} : ∀ {T : List (Str × β)}, T.lookup z = some b → (z, b) ∈ T
  | [], h => by cases h
  | (k, v) :: r, h => by
    rw [List.lookup_cons] at h
    split at h
    · rename_i hk
      have hk' : z = k := eq_of_beq hk
      cases h
      rw [← hk']
      exact List.mem_cons_self
    · exact List.mem_cons_of_mem _ (lookup_mem h)
section
variable {K : PySem.W.Frag} {mg : Str → Option Value} {Wo : WX} {c : Value} {i : Nat} {T : List (Str × Bool)} {F : Ev → Fl} {G : Exn → Addr → Ev → Fl}
theorem snd_tryE (hT : ∀ p ∈ T, ∀ cls, mg p.1 = some cls → PySem.W.exmOne K cls c = some p.2) (hR : ∀ p ∈ T, p.2 = true → ∃ D, mg p.1 = some (.ref D)) :
    SndS K mg Wo (fun D σ H => tSem K mg (wAs K c i (tsOf K mg T G) Wo D) F D σ H) (gTryE i T F G) := by
  refine ⟨fun ga B0 H0 B H σ s E er h => ⟨ga, B0, H0, B, s, er, ?_⟩⟩
  unfold gTryE at h
  cases hF : F s with
  | ex e s1 =>
    rw [hF] at h
    intro cls dd B1 H1 σ1 er1 xr
    have hm := xr.1
    cases hl : T.lookup e.c with
    | none =>
      simp only [hl] at h
      exact h.elim
    | some b =>
      have hin := lookup_mem hl
      refine ⟨b, hT _ hin cls hm, fun hbt a ha => ?_, fun hbf => ?_⟩
      · subst hbt
        obtain ⟨D, hD⟩ := hR _ hin rfl
        have hcl : cls = .ref D := by
          have := hm.symm.trans hD
          cases this
          rfl
        simp only [hl] at h
        split at h
        · rename_i hh
          have hd : dd = none := by
            have := xr.2
            rw [hh.1.1] at this
            exact this
          have sp := Classical.choose_spec hh.2 a
          generalize Classical.choose hh.2 = z at h sp
          refine ⟨e, D, hcl, hd, hD, hl, ga, B0, H0, B1, _, er1.setX hh.1.2, ?_⟩
          cases hz : G e a (s1.set i (.x a)) with
          | nx s2 =>
            rw [hz] at sp
            subst sp
            exact fun B2 H2 σ2 er2 => h B2 H2 _ er2.un
          | bk s2 =>
            rw [hz] at sp
            subst sp
            exact fun B2 H2 σ2 er2 => h B2 H2 _ er2.un
          | ct s2 =>
            rw [hz] at sp
            subst sp
            exact fun B2 H2 σ2 er2 => h B2 H2 _ er2.un
          | rt d =>
            rw [hz] at sp
            subst sp
            exact h
          | rl ds =>
            rw [hz] at sp
            subst sp
            exact h
          | rm d ds =>
            rw [hz] at sp
            subst sp
            exact h
          | ex e2 s2 =>
            rw [hz] at sp
            subst sp
            exact h.elim
          | no =>
            rw [hz] at sp
            subst sp
            exact h.elim
        · exact h.elim
      · subst hbf
        simp only [hl] at h
        exact h cls dd B1 H1 σ1 er1 xr
  | nx s1 => rw [hF] at h; exact h
  | rt d => rw [hF] at h; exact h
  | rl ds => rw [hF] at h; exact h
  | rm d ds => rw [hF] at h; exact h
  | bk s1 => rw [hF] at h; exact h
  | ct s1 => rw [hF] at h; exact h
  | no => rw [hF] at h; exact h
end
/-- an own class that may be raised, told apart and asked after -/
def ExK (K : PySem.W.Frag) (mg : Str → Option Value) (x : Str) : Prop := ∃ D, mg x = some (.ref D) ∧ ExcC K D
/-- what an except clause of the class `c` says of the classes of T -/
def ExT (K : PySem.W.Frag) (mg : Str → Option Value) (x : Str) (T : List (Str × Bool)) : Prop := ∃ D, mg x = some (.ref D) ∧ ∀ p ∈ T, ∃ C, mg p.1 = some (.ref C) ∧ ExcC K C ∧ PySem.W.exmOne K (.ref C) (.ref D) = some p.2
theorem s_tryE {X : Cx} {W : WX} (i : Nat) {x n : Str} {T : List (Str × Bool)} {body suite : List Stmt} {b₀ : Stmt} {np pos pos' : Pos} {F : Ev → Fl} {G : Exn → Addr → Ev → Fl} {Kk : PySem.W.Frag} {mk : Str → Option Value} (hX : ExT Kk mk x T) (hN : X.N.Nodup) (tk : L2N.Takes X W)
    (hb : ∀ (W : WX) (pn : List (Addr × Obj)) (xe : Value → Shared → Prop), L2N.Takes (X.tr pn xe) W → PassesOwn (model X.prog X.w) X.A X.env xe → ∃ t, JSs (X.tr pn xe) W body t F)
    (hu : ∀ (a : Addr) (oe : Obj) (D : Addr) (e : Exn) (pn : List (Addr × Obj)), L2N.Zn (.ref D) none oe → (∃ vs, oe.data = .fields vs) → ExcC Kk D → mk e.c = some (.ref D) → ∃ t, JSs (X.suite a ((a, oe) :: pn)) (fun _ _ _ _ => False) (b₀ :: suite) t (G e a))
    (hK : X.K = Kk := by rfl) (hM : X.mg = mk := by rfl) (hs : X.stack = X.env :: X.outer := by rfl) (hf : X.env.frame = some X.env.locals := by rfl) (hi : X.N[i]? = some n := by rfl) (hln : X.env.kindOf n = some .local := by rfl) (hg : Gl X x := by rfl) (hd : (x == ("__debug__" : Str)) = false := by decide) :
    ∃ t, JS X W (.Try body [.ExceptHandler (some (.Name x np)) (some n) (b₀ :: suite) pos'] [] [] pos) t (gTryE i T F G) := by
  subst hK
  subst hM
  obtain ⟨D0, gD, hT⟩ := hX
  refine ⟨_, L2N.ps_try_as (tb := fun W' => tSem X.K X.mg W' F) (ts := tsOf X.K X.mg T G) hs hf hN hi hln ⟨hg, hd, .inl gD⟩ tk (fun W' pn xe tk' po' => sem_of (hb W' pn xe tk' po').choose_spec) (fun a oe cls d pn hz hf => (⟨fun pins s σ H E I h => ?_⟩ : PSs _ _ (tsOf X.K X.mg T G a cls d))), snd_tryE (fun p hp cls hc => ?_) (fun p hp _ => ?_)⟩
  · obtain ⟨e, D, rfl, rfl, hm, hl, sem⟩ := h
    obtain ⟨C, hC, xc, _⟩ := hT _ (lookup_mem hl)
    have eq : C = D := by
      have := hC.symm.trans hm
      cases this
      rfl
    subst eq
    exact (sem_of (hu a oe C e pn hz hf xc hm).choose_spec).run pins s σ H E I sem
  · obtain ⟨C, hC, _, hx⟩ := hT p hp
    have := hC.symm.trans hc
    cases this
    exact hx
  · obtain ⟨C, hC, _⟩ := hT p hp
    exact ⟨C, hC⟩
/-! ### isinstance(e, C) of the caught error -/
def fIsE (i : Nat) (a : Addr) (o : Option Bool) : Ev → R D := fun s => match s[i]? with
  | some (.x b) => if b = a then (match o with | some r => .ok (.bool r) | none => .no) else .no
  | _ => .no
/-- what isinstance says of the classes of T, asked for C -/
def IsT (K : PySem.W.Frag) (mg : Str → Option Value) (v : V) (T : List (Str × Bool)) : Prop := ∃ cv : Value, (∀ u, RelV v u → u = cv) ∧ ∀ p ∈ T, ∀ D, mg p.1 = some (.ref D) → PySem.W.kitOne K (.ref D) cv = some p.2
section
variable {X : Cx} {W : WX} {a D : Addr} {oe : Obj} {pn : List (Addr × Obj)} {n y : Str} {p q r pos : Pos} {T : List (Str × Bool)}
theorem snd_isE {K : PySem.W.Frag} {mg : Str → Option Value} {i : Nat} {e : Exn} {v : V} (h : IsT K mg v T) (he : mg e.c = some (.ref D)) : SndE K mg W (tCB (rIsE K D a) (tCons (tVar i) (tCons (tC v) tNil))) (fIsE i a (T.lookup e.c)) := by
  refine ⟨fun ga B0 H0 B H σ s Q er p => ?_⟩
  unfold fIsE at p
  split at p
  · rename_i b hb
    split at p
    · rename_i hab
      subst hab
      split at p
      · rename_i o hl
        obtain ⟨cv, h1, h2⟩ := h
        exact ⟨.ref b, er.pin.adr i b hb, v, cv, o, rfl, h1, h2 _ (lookup_mem hl) D he, p _ B H er.here (.bl _)⟩
      · exact p.elim
    · exact p.elim
  · exact p.elim
theorem j_isE {Kk : PySem.W.Frag} {mk : Str → Option Value} (i : Nat) {e : Exn} {v : V} (h : IsT Kk mk v T) (C : ExcC Kk D) (hz : L2N.Zn (.ref D) none oe) (hf : ∃ vs, oe.data = .fields vs) (he : mk e.c = some (.ref D)) (hm : mk "isinstance" = none) (hv : PE (X.suite a ((a, oe) :: pn)) (.Name y r) (tC v))
    (hK : X.K = Kk := by rfl) (hM : X.mg = mk := by rfl) (hN : X.N[i]? = some n := by rfl) (hV : Vis X.env.scope n := by first | exact Or.inl rfl | exact Or.inr (Or.inl rfl) | exact Or.inr (Or.inr rfl)) (hd : (n == ("__debug__" : Str)) = false := by decide) (hcd : (n == ("__classdict__" : Str)) = false := by decide) (hg : Gl X "isinstance" := by rfl)
    (hs : starEach [.Name n q, .Name y r] X.env = (false, eval (.Name n q) X.env) :: starEach [.Name y r] X.env := by rfl) (hs2 : starEach [.Name y r] X.env = (false, eval (.Name y r) X.env) :: starEach [] X.env := by rfl) (hpl : (backTo pos (starEach [.Name y r] X.env)).any (·.1) = false := by rfl) :
    JE (X.suite a ((a, oe) :: pn)) W (.Call (.Name "isinstance" p) [.Name n q, .Name y r] [] pos) (tCB (rIsE X.K D a) (tCons (tVar i) (tCons (tC v) tNil))) (fIsE i a (T.lookup e.c)) := by
  subst hK
  subst hM
  exact ⟨pe_callB (call_isE C hz.zc hf) hg hm (by decide +kernel) (pa_cons (pe_var hN hV hd hcd) (pa_cons hv pa_nil hs2) hs) (by decide) (by decide) hs hpl, snd_isE h he⟩
end
end Sf

namespace Sf
open PySem PySem.Spec PyProof.Rows L2 HotX
open L2H (HotC Hot1)

/-! ### a comprehension over range(..) while an error is handled -/
section
variable {X : Cx}
theorem hot_item {tgt : Expr} {at_ : Addr} {σ : L2.St} {H : Hp} {z : Shared} {n k : Nat} {Er : Value → Shared → Prop} (J : Inv X [] σ H z) (st : IsRangeIter z.heap at_ ((k : Int)) ((n : Int) - (k : Int)) 1) (hf : FpOk X [] H at_) (hk : k < n) :
    wpAny (model X.prog X.w) X.A (pyNext (.ref at_)) (fun r z1 => ∃ u, r = some u ∧ wpAny (model X.prog X.w) X.A (letOwnedTupleGo tgt (.ref at_) u) (fun _ z2 => Inv X [] σ H z2 ∧ RelV (.int (k : Int)) u ∧ IsRangeIter z2.heap at_ (((k + 1 : Nat) : Int)) ((n : Int) - ((k + 1 : Nat) : Int)) 1) Er z1) Er z := by
  obtain ⟨c0, c1, c2, c3, c4, c5⟩ := hf
  refine wpAny_pyNext_range_item st (by omega) fun hp st1 same => ?_
  have nx : IsRangeIter hp at_ (((k + 1 : Nat) : Int)) ((n : Int) - ((k + 1 : Nat) : Int)) 1 := by
    rw [show (((k + 1 : Nat) : Int)) = (k : Int) + 1 by omega, show (n : Int) - ((k : Int) + 1) = (n : Int) - (k : Int) - 1 by omega]
    exact st1
  have J1 : Inv X [] σ H { z with heap := hp, toks := z.toks + 1 } := J.turned (fun b o hb e => (same.2 b hb).trans e) c0 c1 c3 c4 c5
  exact ⟨_, rfl, go_of (s := { z with heap := hp, toks := z.toks + 1 }) (n := "range_iterator") nx rfl rfl (by decide) ⟨J1, ⟨z.toks, rfl⟩, nx⟩⟩
variable {pins : List (Addr × Obj)} {σ : L2.St} {H : Hp} {z0 : Shared} {Q : VK} {el tgt a : Expr} {ifs : List Expr} {sc : Scope} {own : List (Str × Nat)} {pos pq pr pc : Pos} {ta : TA} {g : TG} {tt : TT} {te : TE}
/-- the walk itself, the iterator being there -/
theorem hot_loop {use : Option (Value → Sem Unit)} {Qf : Value → Shared → Prop} {it : Addr} {n : Nat} {rng : Expr} (hot : HotC X) (nd : X.N.Nodup) (J : Inv X pins σ H z0) (st : IsRangeIter z0.heap it 0 (n : Int) 1) (hit : FpOk X pins H it) (ok : BlkOk X.N X.env.scope sc own)
    (hg : ∀ (s : Shared) (H : Hp) (C : Addr) (cl : List (Str × Addr)) (fp : List Addr), PG (X.blk s H sc (compEnvC sc cl C X.env) fp) tgt g) (ht : ∀ (s : Shared) (H : Hp) (C : Addr) (cl : List (Str × Addr)) (fp : List Addr), PTs (X.blk s H sc (compEnvC sc cl C X.env) fp) ifs tt)
    (he : ∀ (s : Shared) (H : Hp) (C : Addr) (cl : List (Str × Addr)) (fp : List Addr), PE (X.blk s H sc (compEnvC sc cl C X.env) fp) el te)
    (wish : ∀ D, H D = none → ∃ W : Nat → Nat → Hp → Prop, (∃ m, W 0 m (upd H D (.lst []))) ∧ ∀ i m H, W i m H → ((Itr 0 n).stop i H ∧ Q (.ref D) H) ∨ ((Itr 0 n).go i H ∧ ∃ Nx : Hp → Prop, (∀ H', Nx H' → ∃ m', m' < m ∧ W (i + 1) m' H') ∧ ∀ x H', (Itr 0 n).yld i H x H' → g x (wipe σ (own.map (·.2))) H' fun σ2 H2 => wipe σ2 (own.map (·.2)) = wipe σ (own.map (·.2)) ∧ tt σ2 H2 fun b H3 =>
      if b = true then te σ2 H3 fun y H4 => ∃ acc, H4 D = some (.lst acc) ∧ acc.length < sizeLine ∧ Nx (upd H4 D (.lst (acc ++ [y]))) else Nx H3))
    (post : ∀ D C z m H', Inv X pins σ H' z → Q (.ref D) H' → z.heap.Ns C m → FpOk X pins H' C → compPost (model X.prog X.w) X.A X.xe use Qf (.ref D) C (.ok .next) z) :
    wpAny (model X.prog X.w) X.A (newList []) (fun acc s3 => wpAny (model X.prog X.w) X.A (newFunctionEnv sc X.env.globals (cloFrom X.env.cells sc.names []) [] X.env.qual none .none (some X.env)) (fun cenv s4 =>
      codeAny (model X.prog X.w) X.A (.compStart (.ListComp el [⟨tgt, rng, ifs, 0⟩] sc pos) 0 (.ref it) acc { cenv with scope := relabel sc X.env }) (compPost (model X.prog X.w) X.A X.xe use Qf acc cenv.locals) s4) X.xe s3) X.xe z0 := by
  refine wpAny_newObj_type (newEnv_comp ?_) (by show 0 ≤ sizeLine; decide)
  generalize eD : z0.heap.objs.size = D
  have free : H D = none := J.hok.fresh (Nat.le_of_eq eD)
  obtain ⟨W, ⟨mz, wz⟩, next⟩ := wish D free
  generalize h3 : ({ z0 with heap := z0.heap.push { cls := .type "list", data := .seq #[] } } : Shared) = z3
  have q3 : z3.heap = z0.heap.push { cls := .type "list", data := .seq #[] } := by rw [← h3]
  have J3 : Inv X pins σ (upd H D (.lst [])) z3 := by
    rw [← h3]
    refine J.laid (t' := z0.toks) (fun b o e => Heap.get?_push_of_some _ e) (Nat.le_of_eq eD) ⟨Nat.zero_le _, [], 0, .nil, ?_⟩
    rw [← eD]
    exact Heap.get?_push_size _ rfl
  have small : it < z0.heap.objs.size := Heap.lt_size st
  have f3 : ∀ b ∈ [it], FpOk X pins (upd H D (.lst [])) b ∧ b < z3.heap.objs.size := fun b hb => by
    have e : b = it := by simpa using hb
    subst e
    exact ⟨⟨(upd_ne (by rw [← eD]; exact Nat.ne_of_lt small)).trans hit.1, hit.2⟩, by rw [q3, Heap.size_push]; exact Nat.lt_succ_of_lt small⟩
  have st3 : IsRangeIter z3.heap it 0 (n : Int) 1 := by
    show z3.heap.get? it = _
    rw [q3]
    exact Heap.get?_push_of_some _ st
  have J4 := block_start J3 ok nd f3
  have pg := hg z3 (upd H D (.lst [])) z3.heap.objs.size (cellsFrom (z3.heap.objs.size + 1) sc.names (cloFrom X.env.cells sc.names [])) [it]
  have pt := ht z3 (upd H D (.lst [])) z3.heap.objs.size (cellsFrom (z3.heap.objs.size + 1) sc.names (cloFrom X.env.cells sc.names [])) [it]
  have pe := he z3 (upd H D (.lst [])) z3.heap.objs.size (cellsFrom (z3.heap.objs.size + 1) sc.names (cloFrom X.env.cells sc.names [])) [it]
  show codeAny _ _ (.compStart _ 0 (.ref it) (.ref D) (compEnvC sc (cellsFrom (z3.heap.objs.size + 1) sc.names (cloFrom X.env.cells sc.names [])) z3.heap.objs.size X.env)) (compPost (model X.prog X.w) X.A X.xe use Qf (.ref D) z3.heap.objs.size) { z3 with heap := pushCells (z3.heap.push { cls := .type "dict", data := .dict #[] }) sc.names }
  have n3 : (upd H D (.lst [])) it = none := (f3 it (by simp)).1.1
  generalize hce : compEnvC sc (cellsFrom (z3.heap.objs.size + 1) sc.names (cloFrom X.env.cells sc.names [])) z3.heap.objs.size X.env = ce at J4 pg pt pe ⊢
  have cL : ce.locals = z3.heap.objs.size := by subst hce; rfl
  generalize hHb : upd H D (.lst []) = Hb at J3 J4 pg pt pe wz n3 f3
  generalize h4 : ({ z3 with heap := pushCells (z3.heap.push { cls := .type "dict", data := .dict #[] }) sc.names } : Shared) = z4 at J4 ⊢
  have st4 : IsRangeIter z4.heap it 0 (n : Int) 1 := by
    show z4.heap.get? it = _
    rw [← h4]
    exact pushCells_keeps _ _ _ _ (Heap.get?_push_of_some _ st3)
  have mine : ∀ {σ' : L2.St} {H' : Hp} {z' : Shared}, Inv (X.blk z3 Hb sc ce [it]) [] σ' H' z' → H' it = none → FpOk (X.blk z3 Hb sc ce [it]) [] H' it := fun {σ' H' z'} I' hn =>
    ⟨hn, (I'.ok.exf it (by simp)).1, I'.ok.exfs it (by simp), .inl (by simp), fun x c e => (I'.ok.exf it (by simp)).2 x c e, fun p hp => absurd (show p ∈ ([] : List (Addr × Obj)) ++ [] from hp) (by simp)⟩
  have back : ∀ {σ' : L2.St} {H' : Hp} {z' : Shared}, Inv (X.blk z3 Hb sc ce [it]) [] σ' H' z' → Inv X pins σ H' z' := fun {σ' H' z'} I' => J3.call' (ch := [it]) I'.os I'.base I'.hok I'.bare fun b hb => ⟨(f3 b hb).1.2.2.2.1, (f3 b hb).1.2.1, (f3 b hb).1.2.2.2.2.1, (f3 b hb).1.2.2.2.2.2⟩
  have walk : codeAny (model X.prog X.w) X.A (.compLoop (.ListComp el [⟨tgt, rng, ifs, 0⟩] sc pos) 0 (.ref it) (.ref D) ce) (compPost (model X.prog X.w) X.A X.xe use Qf (.ref D) z3.heap.objs.size) z4 := by
    refine compLoop_any (fun m z => ∃ (i : Nat) (H' : Hp), Inv (X.blk z3 Hb sc ce [it]) [] (wipe σ (own.map (·.2))) H' z ∧ IsRangeIter z.heap it (i : Int) ((n : Int) - (i : Int)) 1 ∧ H' it = none ∧ W i m H') ?_ mz ⟨0, Hb, J4, by simpa using st4, n3, wz⟩
    rintro m z5 ⟨i, H5, J5, st5, n5, w5⟩
    have c5 := mine J5 n5
    rcases next i m H5 w5 with ⟨stop, qq⟩ | ⟨go, Nx, hNx, step⟩
    · obtain ⟨x1, at1⟩ := hot.at (back J5)
      refine pyNext_range_end_hot at1 st5 (by have : n ≤ i := stop; omega) fun hp eb => ?_
      obtain ⟨c50, c51, c52, c53, c54, c55⟩ := c5
      have J6 : Inv (X.blk z3 Hb sc ce [it]) [] (wipe σ (own.map (·.2))) H5 { z5 with heap := hp } := J5.turned (t' := z5.toks) (fun b o _ e => eb b o e) c50 c51 c53 c54 c55
      have nC : H5 z3.heap.objs.size = none := by
        have y : H5 ce.locals = none := J6.free
        rw [cL] at y
        exact y
      obtain ⟨mm, hn, _⟩ := J6.loc
      have hn : ({ z5 with heap := hp } : Shared).heap.Ns ce.locals mm := hn
      rw [cL] at hn
      exact post D z3.heap.objs.size _ mm H5 (back J6) qq hn (J3.fpOk (Nat.le_refl _) nC)
    · refine thnF (hot_item (X := X.blk z3 Hb sc ce [it]) (tgt := tgt) J5 st5 c5 go) fun r z6 ⟨u, hr, h6⟩ => ?_
      subst hr
      refine thnF h6 fun _ z7 ⟨J7, r7, st7⟩ => ?_
      have J8 := J7.pinned (fp := [it]) (fun b hb => by
        have e : b = it := by simpa using hb
        subst e
        exact mine J7 n5) (fun b hb => by
        have e : b = it := by simpa using hb
        subst e
        exact ⟨_, st7, fun v y => by
          have y' : Data.fields _ = Data.cell v := y
          cases y'⟩)
      refine thnF (pg.run _ z7 _ H5 (.int (i : Int)) u _ J8 r7 (step (.int (i : Int)) H5 ⟨rfl, by rw [Int.zero_add]⟩)) fun _ z8 ⟨σ8, H8, J9, hw8, q8⟩ => ?_
      refine thnF (pt.run _ z8 σ8 H8 _ J9 q8) fun b z9 ⟨H9, J10, q9⟩ => ?_
      have again : ∀ {z' : Shared} {H' : Hp}, Inv (X.blk z3 Hb sc ce [it]) ([] ++ pinsAt [it] z7.heap) σ8 H' z' → Nx H' → ∃ m', m' < m ∧ ∃ (i : Nat) (H' : Hp), Inv (X.blk z3 Hb sc ce [it]) [] (wipe σ (own.map (·.2))) H' z' ∧ IsRangeIter z'.heap it (i : Int) ((n : Int) - (i : Int)) 1 ∧ H' it = none ∧ W i m' H' := fun {z' H'} K nx => by
        obtain ⟨m', hm, w'⟩ := hNx H' nx
        have held := K.pin (it, _) (List.mem_append_right _ (List.mem_append_right _ (mem_pinsAt (fp := [it]) (by simp) st7)))
        have len : (wipe σ (own.map (·.2))).length = σ8.length := by rw [← hw8, wipe_length]
        refine ⟨m', hm, i + 1, H', (K.unpinned (pins := [])).weak len (fun j v e => ?_), held.1, held.2.1, w'⟩
        rw [← hw8] at e
        exact (wipe_some e).1
      cases b with
      | false =>
        simp only [Bool.false_eq_true, if_false] at q9 ⊢
        exact again J10 q9
      | true =>
        simp only [if_true] at q9 ⊢
        refine thnF (pe.run _ z9 σ8 H9 _ J10 q9) fun y z10 ⟨yv, H10, J11, r10, acc, hD10, hz10, nx⟩ => ?_
        exact app_ok (X := X.blk z3 Hb sc ce [it]) J11 hD10 hz10 r10 fun z11 J12 => again J12 nx
  exact codeAny_compStart_list walk (wpAny_pyIter_rangeiter st4 walk)
/-- the loop, from the new iterator on: `W` as the walk's wish tells it -/
theorem hot_core {use : Option (Value → Sem Unit)} {Qf : Value → Shared → Prop} (hot : HotC X) (nd : X.N.Nodup) (J : Inv X pins σ H z0) (gR : Gl X "range") (mR : X.mg "range" = none) (ha : PA X [a] ta) (ok : BlkOk X.N X.env.scope sc own)
    (hg : ∀ (s : Shared) (H : Hp) (C : Addr) (cl : List (Str × Addr)) (fp : List Addr), PG (X.blk s H sc (compEnvC sc cl C X.env) fp) tgt g) (ht : ∀ (s : Shared) (H : Hp) (C : Addr) (cl : List (Str × Addr)) (fp : List Addr), PTs (X.blk s H sc (compEnvC sc cl C X.env) fp) ifs tt)
    (he : ∀ (s : Shared) (H : Hp) (C : Addr) (cl : List (Str × Addr)) (fp : List Addr), PE (X.blk s H sc (compEnvC sc cl C X.env) fp) el te)
    (hst : starEach [a] X.env = [(false, eval a X.env)])
    (wish : tLc (iRng1 ta) g tt te (own.map (·.2)) σ H Q)
    (post : ∀ D C z m H', Inv X pins σ H' z → Q (.ref D) H' → z.heap.Ns C m → FpOk X pins H' C → compPost (model X.prog X.w) X.A X.xe use Qf (.ref D) C (.ok .next) z) :
    wpAny (model X.prog X.w) X.A (comprehension (.ListComp el [⟨tgt, .Call (.Name "range" pr) [a] [] pc, ifs, 0⟩] sc pos) sc X.env pq (newList []) false (eval (.Call (.Name "range" pr) [a] [] pc) X.env) use) Qf X.xe z0 := by
  have closed : ∀ y ∈ sc.names, y.2 = .free → ∃ c, X.env.cells.lookup y.1 = some c := fun y hy e => (ok.free y hy e).elim (fun k => J.ok.has _ (.inl k)) fun k => J.ok.has _ (.inr k)
  refine wpAny_comprehension_free (use := use) rfl (by intro _; rfl) (closure_ok closed) ok.kind (fun y hy e => by rw [ok.uniq y hy, e])
    (Call_ (ld_blt J gR mR boot_range (PyProof.Rows.callWith_type1 (thn (ha.run pc pins z0 σ H _ J wish) fun us z1 ⟨vs, H1, J1, r1, q1⟩ => ?_) hst rfl)))
  obtain ⟨top, hv, b1, b2, q1⟩ := q1
  subst hv
  cases r1 with
  | cons r rr =>
  cases rr
  obtain ⟨tk, rfl⟩ := r
  refine call_range_1 (wpAny_pyIter_range (IsRange.new ..) (small_one (by omega) (by omega) b1 b2) ?_)
  have J2 : Inv X pins σ H1 { z1 with heap := z1.heap.push { cls := .type "range", data := .fields #[.int 0 z1.toks, .int top tk, .int 1 (z1.toks + 1)] }, toks := z1.toks + 1 + 1 } := J1.kept fun b o e => Heap.get?_push_of_some _ e
  refine hot_loop (n := top.toNat) hot nd (J2.kept (t' := z1.toks + 1 + 1) fun b o e => Heap.get?_push_of_some _ e) ?_ (J2.fpOk (Nat.le_refl _) (J2.hok.fresh (Nat.le_refl _))) ok hg ht he q1 post
  have e2 : ((top.toNat : Nat) : Int) = Builtin.Range.rangeSize 0 top 1 := by rw [rangeSize_one]; split <;> omega
  rw [e2]
  exact Heap.get?_push_size _ rfl
/-- as a value -/
theorem pe_hot (hot : HotC X) (nd : X.N.Nodup) (gR : Gl X "range") (mR : X.mg "range" = none) (ha : PA X [a] ta) (ok : BlkOk X.N X.env.scope sc own)
    (hg : ∀ (s : Shared) (H : Hp) (C : Addr) (cl : List (Str × Addr)) (fp : List Addr), PG (X.blk s H sc (compEnvC sc cl C X.env) fp) tgt g) (ht : ∀ (s : Shared) (H : Hp) (C : Addr) (cl : List (Str × Addr)) (fp : List Addr), PTs (X.blk s H sc (compEnvC sc cl C X.env) fp) ifs tt)
    (he : ∀ (s : Shared) (H : Hp) (C : Addr) (cl : List (Str × Addr)) (fp : List Addr), PE (X.blk s H sc (compEnvC sc cl C X.env) fp) el te) (hst : starEach [a] X.env = [(false, eval a X.env)]) :
    PE X (.ListComp el [⟨tgt, .Call (.Name "range" pr) [a] [] pc, ifs, 0⟩] sc pos) (tLc (iRng1 ta) g tt te (own.map (·.2))) := by
  refine ⟨fun pins z σ H Q J wish => ?_⟩
  rw [eval_ListComp]
  refine hot_core hot nd J gR mR ha ok hg ht he hst wish fun D C z' m H' K q hn f => ⟨m, hn, fun h1 same => ?_⟩
  obtain ⟨c0, c1, c2, c3, c4, c5⟩ := f
  exact ⟨.ref D, H', K.turned (t' := z'.toks) (fun b o hb e => (same.2 b hb).trans e) c0 c1 c3 c4 c5, rfl, q⟩
/-- name = [..] on one line -/
theorem ps_hot {i : Nat} {y : Str} {py spos : Pos} (hot : HotC X) (nd : X.N.Nodup) (hy : X.N[i]? = some y) (hl : X.env.scope.names.lookup y = some .local) (gR : Gl X "range") (mR : X.mg "range" = none) (ha : PA X [a] ta) (ok : BlkOk X.N X.env.scope sc own)
    (hsw : swapsWith (.ListComp el [⟨tgt, .Call (.Name "range" pr) [a] [] pc, ifs, 0⟩] sc pos) (some (.Name y py)) spos.line X.env = pure true)
    (hg : ∀ (s : Shared) (H : Hp) (C : Addr) (cl : List (Str × Addr)) (fp : List Addr), PG (X.blk s H sc (compEnvC sc cl C X.env) fp) tgt g) (ht : ∀ (s : Shared) (H : Hp) (C : Addr) (cl : List (Str × Addr)) (fp : List Addr), PTs (X.blk s H sc (compEnvC sc cl C X.env) fp) ifs tt)
    (he : ∀ (s : Shared) (H : Hp) (C : Addr) (cl : List (Str × Addr)) (fp : List Addr), PE (X.blk s H sc (compEnvC sc cl C X.env) fp) el te) (hst : starEach [a] X.env = [(false, eval a X.env)]) :
    PS X (.Assign [.Name y py] (.ListComp el [⟨tgt, .Call (.Name "range" pr) [a] [] pc, ifs, 0⟩] sc pos) spos) (tAsg (tLc (iRng1 ta) g tt te (own.map (·.2))) (gName i)) := by
  refine ⟨fun pins z σ H E J wish => ?_⟩
  rw [exec_Assign_Name_used _ _ _ _ hsw]
  refine wpAny_bind (wpAny_standAt (wpAny_bind ?_))
  show wpAny _ X.A (do let _ ← comprehension _ sc X.env (firstIterPos [⟨tgt, .Call (.Name "range" pr) [a] [] pc, ifs, 0⟩] pos) (newList []) false (eval (.Call (.Name "range" pr) [a] [] pc) X.env) (some (assign (.Name y py) X.env))) _ _ z
  refine wpAny_bind (thn (hot_core (Q := fun x H1 => gName i x σ H1 E.nx) (Qf := fun _ z' => SP X pins E .next z') hot nd J gR mR ha ok hg ht he hst wish fun L C z' m H' K q hn f => ?_) fun _ z' hq => wpAny_pure (wpAny_pure hq))
  show wpAny _ _ (assign (.Name y py) X.env (.ref L)) _ _ _
  refine wpAny_assign_Name (store_ok2 (v := V.ref L) K nd hy (.inl hl) rfl (fun z2 K2 ⟨b, same, hb⟩ => ?_) (.inr hl))
  obtain ⟨c0, c1, c2, c3, c4, c5⟩ := f
  have apart : C ≠ b := by
    rcases hb with u | u
    · rw [u]
      exact c1
    · exact fun e => c4 y b u e.symm
  exact ⟨m, hn.sameBut same apart, fun h3 same3 => ⟨_, H', K2.turned (t' := z2.toks) (fun b o hb e => (same3.2 b hb).trans e) c0 c1 c3 c4 c5, q⟩⟩
end
section
variable {X : Cx} {W : WX} {el tgt a : Expr} {ifs : List Expr} {sc : Scope} {own : List (Str × Nat)} {pos pr pc : Pos} {tA : TA} {fA : Ev → R (List D)} {g : TG} {h : D → Ev → R Ev} {tt : TT} {c : Ev → R Bool} {te : TE} {f : Ev → R D}
theorem s_lcPH (i : Nat) {y : Str} {py spos : Pos} (hot : HotC X) (hN : X.N.Nodup) (mR : X.mg "range" = none) (ha : JA X W [a] tA fA) (ok : blkC X.N X.env.scope sc own = true)
    (hg : ∀ (s : Shared) (H : Hp) (C : Addr) (cl : List (Str × Addr)) (fp : List Addr), JGW (X.blk s H sc (compEnvC sc cl C X.env) fp) (own.map (·.2)) tgt g h) (ht : ∀ (s : Shared) (H : Hp) (C : Addr) (cl : List (Str × Addr)) (fp : List Addr), JTs (X.blk s H sc (compEnvC sc cl C X.env) fp) W0 ifs tt c)
    (he : ∀ (s : Shared) (H : Hp) (C : Addr) (cl : List (Str × Addr)) (fp : List Addr), JE (X.blk s H sc (compEnvC sc cl C X.env) fp) W0 el te f) (hy : X.N[i]? = some y := by rfl) (hyl : X.env.scope.names.lookup y = some .local := by rfl) (gR : Gl X "range" := by rfl) (hst : starEach [a] X.env = [(false, eval a X.env)] := by rfl)
    (hsw : swapsWith (.ListComp el [⟨tgt, .Call (.Name "range" pr) [a] [] pc, ifs, 0⟩] sc pos) (some (.Name y py)) spos.line X.env = pure true := by exact sw_true rfl rfl rfl (by decide +kernel)) :
    PS X (.Assign [.Name y py] (.ListComp el [⟨tgt, .Call (.Name "range" pr) [a] [] pc, ifs, 0⟩] sc pos) spos) (tAsg (tLc (iRng1 tA) g tt te (own.map (·.2))) (gName i)) ∧ SndL X.K X.mg W (tLc (iRng1 tA) g tt te (own.map (·.2))) (fLc (sRng1 fA) h c f (own.map (·.2))) :=
  ⟨ps_hot hot hN hy hyl gR mR ha.pe (blkOk_by ok) hsw (fun s H C cl fp => (hg s H C cl fp).pe) (fun s H C cl fp => (ht s H C cl fp).pe) (fun s H C cl fp => (he s H C cl fp).pe) hst,
    snd_lcC (si_rng1 ha.sd).c (hg X.s_0 X.H_0 0 [] []).sd (ht X.s_0 X.H_0 0 [] []).sd (he X.s_0 X.H_0 0 [] []).sd⟩
/-- the suite's context bears the error that is handled -/
theorem hot_suite {p : Addr} {oe : Obj} {D : Addr} {pn : List (Addr × Obj)} (hz : L2N.Zn (.ref D) none oe) (hf : ∃ vs, oe.data = .fields vs) : HotC (X.suite p ((p, oe) :: pn)) := by
  obtain ⟨vs, e⟩ := hf
  exact ⟨(p, oe), ⟨rfl, vs, e, hz.2.2 vs e⟩, List.mem_cons_self⟩
end
/-! ### what the classes must say -/
abbrev veTail : List Value := [.type "ValueError", .type "Exception", .type "BaseException", .type "object"]
def RaiK (K : PySem.W.Frag) (mg : Str → Option Value) (x : Str) : Prop := ∃ D, mg x = some (.ref D) ∧ PySem.W.excIn K D veTail "ValueError.__new__" = true ∧ PySem.W.keepIn K (.ref D) = true ∧ PySem.W.subIn K (.ref D) (.type "BaseException") = some true ∧ PySem.W.typeIn K (.ref D) = some (.type "type")
def IsC (K : PySem.W.Frag) (mg : Str → Option Value) (y : Str) (T : List (Str × Bool)) : Prop := ∃ a, mg y = some (.ref a) ∧ IsT K mg (.ref a) T
section
variable {K : PySem.W.Frag} {mg : Str → Option Value} {x y : Str} {a : Addr} {T : List (Str × Bool)}
/-- an own class, where it stands, and what it is asked for -/
structure OwnC (K : PySem.W.Frag) (mg : Str → Option Value) (x : Str) (a : Addr) : Prop where
  gl : mg x = some (.ref a)
  sb : PySem.W.subIn K (.ref a) (.type "BaseException") = some true
  dc : PySem.W.hasDictIn K a = true
  ty : PySem.W.typeIn K (.ref a) = some (.type "type")
  me : PySem.W.subIn K (.ref a) (.ref a) = some true
/-- T, class by class: where each stands, that isinstance can be asked of it, and whether it is below the value `cv` -/
inductive Below (K : PySem.W.Frag) (mg : Str → Option Value) (cv : Value) : List (Str × Bool) → Prop
  | nil : Below K mg cv []
  | cons {x : Str} {D : Addr} {b : Bool} {r : List (Str × Bool)} (g : mg x = some (.ref D)) (c : ExcC K D) (s : PySem.W.subIn K (.ref D) cv = some b) (h : Below K mg cv r) : Below K mg cv ((x, b) :: r)
theorem Below.at {cv : Value} (h : Below K mg cv T) : ∀ p ∈ T, ∃ D, mg p.1 = some (.ref D) ∧ ExcC K D ∧ PySem.W.subIn K (.ref D) cv = some p.2 := by
  induction h with
  | nil => exact fun p hp => nomatch hp
  | cons g c s _ ih =>
    intro p hp
    rcases List.mem_cons.mp hp with rfl | hp
    · exact ⟨_, g, c, s⟩
    · exact ih p hp
theorem exT_of (o : OwnC K mg x a) (h : Below K mg (.ref a) T) : ExT K mg x T := ⟨a, o.gl, fun p hp => by
  obtain ⟨D, g, c, s⟩ := h.at p hp
  exact ⟨D, g, c, PySem.W.exm_ref o.sb o.dc o.ty s⟩⟩
theorem isC_of (o : OwnC K mg y a) (h : Below K mg (.ref a) T) : IsC K mg y T := ⟨a, o.gl, .ref a, fun u e => e, fun p hp D g => by
  obtain ⟨D', g', _, s⟩ := h.at p hp
  have e : D' = D := by
    have := g'.symm.trans g
    cases this
    rfl
  subst e
  obtain ⟨cd, hc, _⟩ := PySem.W.any_some o.dc
  unfold PySem.W.kitOne
  by_cases z : (Value.ref D' == Value.ref a) = true
  · rw [if_pos z]
    have e2 : D' = a := by simpa using z
    subst e2
    rw [o.me] at s
    exact s
  · rw [if_neg z]
    show (if ((PySem.W.clsIn K a).isSome && PySem.W.typeIn K (.ref a) == some (.type "type")) = true then PySem.W.subIn K (.ref D') (.ref a) else none) = some p.2
    rw [if_pos (by rw [hc, o.ty]; rfl)]
    exact s⟩
theorem isT_type {n : String} (hm : PySem.W.kitMeta n = true) (h : Below K mg (.type n) T) : IsT K mg (.ty n) T := ⟨.type n, fun u e => e, fun p hp D g => by
  obtain ⟨D', g', _, s⟩ := h.at p hp
  have e : D' = D := by
    have := g'.symm.trans g
    cases this
    rfl
  subst e
  unfold PySem.W.kitOne
  rw [if_neg (by intro z; cases eq_of_beq z)]
  show (if PySem.W.kitMeta n = true then PySem.W.subIn K (.ref D') (.type n) else none) = some p.2
  rw [if_pos hm]
  exact s⟩
end
end Sf

namespace Sf
open PySem PySem.Spec PyProof.Rows L2
open Evl (Ex)

/-! ### list(zip(xs, ys)) of two lists: a new list of new pairs -/
theorem zip_no_len : typeLookup (.type "zip") (Str.ofString "__len__") = pure none := am_miss_of_fast (by decide +kernel)
theorem zip_no_hint : typeLookup (.type "zip") (Str.ofString "__length_hint__") = pure none := am_miss_of_fast (by decide +kernel)
/-- what has been made after i items -/
structure Zm (H1 : Hp) (q : Addr) (xs ys : List V) (i : Nat) (Ts : List Addr) (H : Hp) : Prop where
  len : Ts.length = i
  new : ∀ (k : Nat) (T : Addr), Ts[k]? = some T → H1 T = none ∧ T ≠ q ∧ ∃ x y, xs[k]? = some x ∧ ys[k]? = some y ∧ H T = some (.tup [x, y])
  old : ∀ c, c ≠ q → c ∉ Ts → H c = H1 c
  at_ : H q = some (.lst (Ts.map .ref))
theorem Zm.step {H1 : Hp} {q : Addr} {xs ys : List V} {i : Nat} {Ts : List Addr} {H : Hp} {T : Addr} {x y : V} (Z : Zm H1 q xs ys i Ts H) (hT : H T = none) (hx : xs[i]? = some x) (hy : ys[i]? = some y) :
    Zm H1 q xs ys (i + 1) (Ts ++ [T]) (upd (upd H T (.tup [x, y])) q (.lst ((Ts ++ [T]).map .ref))) := by
  have ne : T ≠ q := fun z => by
    rw [z, Z.at_] at hT
    cases hT
  have nt : T ∉ Ts := fun m => by
    obtain ⟨k, hk⟩ := List.getElem?_of_mem m
    obtain ⟨_, _, _, _, _, _, e⟩ := Z.new k T hk
    rw [e] at hT
    cases hT
  refine ⟨by rw [List.length_append, Z.len]; rfl, fun k U hk => ?_, fun c h1 h2 => ?_, upd_same ..⟩
  · rcases Nat.lt_or_ge k Ts.length with h | h
    · rw [List.getElem?_append_left h] at hk
      obtain ⟨a, b, x', y', e1, e2, e3⟩ := Z.new k U hk
      have nU : U ≠ T := fun z => nt (by rw [← z]; exact List.mem_of_getElem? hk)
      exact ⟨a, b, x', y', e1, e2, by rw [upd_ne b, upd_ne nU]; exact e3⟩
    · rw [List.getElem?_append_right h] at hk
      have hk0 : k = Ts.length := by
        have := (List.getElem?_eq_some_iff.mp hk).1
        simp at this
        omega
      subst hk0
      rw [Nat.sub_self] at hk
      have : T = U := by simpa using hk
      subst this
      refine ⟨?_, ne, x, y, by rw [Z.len]; exact hx, by rw [Z.len]; exact hy, by rw [upd_ne ne, upd_same]⟩
      rw [← Z.old T ne nt]
      exact hT
  · have c1 : c ≠ T := fun z => h2 (by rw [z]; exact List.mem_append_right _ List.mem_cons_self)
    rw [upd_ne h1, upd_ne c1]
    exact Z.old c h1 fun m => h2 (List.mem_append_left _ m)
/-- the walk as it stands before item i -/
structure ZL (X : Cx) (pins : List (Addr × Obj)) (σ : L2.St) (z TI TO i1 i2 a b q : Addr) (its its2 : List Value) (i : Nat) (H : Hp) (s : Shared) : Prop where
  I : Inv X pins σ H s
  hz : IsZip s.heap z TI TO .none ∨ ∃ T f oT, IsZipHeld s.heap z TI TO T f ∧ s.heap.get? T = some oT ∧ T ≠ z ∧ T ≠ TO ∧ T ≠ i1 ∧ T ≠ i2 ∧ T ≠ q
  hTI : IsPair s.heap TI (.ref i1) (.ref i2)
  hTO : ∃ x y, IsPair s.heap TO x y
  h1 : s.heap.IsListIter i1 a i
  h2 : s.heap.IsListIter i2 b i
  l1 : s.heap.IsList a its.toArray
  l2 : s.heap.IsList b its2.toArray
  fp : ∀ c ∈ [z, TI, TO, i1, i2], FpOk X pins H c
  qa : q ≠ a
  qb : q ≠ b
theorem keepL {h h' : Heap} {a : Addr} {its : Array Value} (l : h.IsList a its) (k : ∀ o, h.get? a = some o → h'.get? a = some o) : h'.IsList a its := by
  obtain ⟨o, e, r⟩ := l
  exact ⟨o, k o e, r⟩
section
variable {X : Cx} {pins : List (Addr × Obj)} {σ : L2.St} {z TI TO i1 i2 a b q : Addr} {its its2 : List Value} {i : Nat} {H : Hp} {s : Shared}
/-- one item more: the pair is made, and put at the end of the new list -/
theorem ZL.next {A1 : Around} {E1 : Value → Shared → Prop} {Q1 : Option Value → Shared → Prop} {xs ys : List V} {x y : V} {acc : List V} (Z : ZL X pins σ z TI TO i1 i2 a b q its its2 i H s) (S : ZipApart z TI TO i1 i2 a b)
    (rv : Vals xs its) (rv2 : Vals ys its2) (hx : xs[i]? = some x) (hy : ys[i]? = some y) (hq : H q = some (.lst acc))
    (k : ∀ (T : Addr) (s' : Shared), H T = none → ZL X pins σ z TI TO i1 i2 a b q its its2 (i + 1) (upd H T (.tup [x, y])) s' → Q1 (some (.ref T)) s') :
    wpAny (model X.prog X.w) A1 (pyNext (.ref z)) Q1 E1 s := by
  obtain ⟨v1, hv1, rx⟩ := rv.get hx
  obtain ⟨v2, hv2, ry⟩ := rv2.get hy
  have I := Z.I
  have fz : ∀ c ∈ [z, TI, TO, i1, i2], c ≠ q := fun c hc e => by
    have := (Z.fp c hc).1
    rw [e, hq] at this
    cases this
  have lz : ∀ c ∈ [z, TI, TO, i1, i2], c < s.heap.objs.size := fun c hc => by
    have e' : c = z ∨ c = TI ∨ c = TO ∨ c = i1 ∨ c = i2 := by simpa using hc
    rcases e' with e | e | e | e | e
    · rw [e]
      rcases Z.hz with h | ⟨_, _, _, h, _⟩ <;> exact Heap.lt_size h
    · rw [e]; exact Heap.lt_size Z.hTI
    · rw [e]; obtain ⟨_, _, h⟩ := Z.hTO; exact Heap.lt_size h
    · rw [e]; obtain ⟨_, h, _⟩ := Z.h1; exact Heap.lt_size h
    · rw [e]; obtain ⟨_, h, _⟩ := Z.h2; exact Heap.lt_size h
  have lq : q < s.heap.objs.size := I.hok.lt hq
  have g1 : its.toArray[i]? = some v1 := by rw [List.getElem?_toArray]; exact hv1
  have g2 : its2.toArray[i]? = some v2 := by rw [List.getElem?_toArray]; exact hv2
  have go : ∀ h' : Heap, (∃ T f oT, IsZipHeld h' z TI TO T f ∧ h'.get? T = some oT ∧ T ≠ z ∧ T ≠ TO ∧ T ≠ i1 ∧ T ≠ i2 ∧ T ≠ q) → (∃ x y, IsPair h' TO x y) → h'.IsListIter i1 a (i + 1) → h'.IsListIter i2 b (i + 1) → IsPair h' s.heap.objs.size v1 v2 → (∀ (c : Addr) (o : Obj), c ≠ z → c ≠ TO → c ≠ i1 → c ≠ i2 → s.heap.get? c = some o → h'.get? c = some o) →
      Q1 (some (.ref s.heap.objs.size)) { s with heap := h' } := fun h' hz' hTO' h1' h2' hT hk => by
    have new : ObjOk X.prog X.w (upd H s.heap.objs.size (.tup [x, y])) h' s.heap.objs.size (.tup [x, y]) :=
      ⟨by show 2 ≤ sizeLine; decide, [v1, v2], .cons rx (.cons ry .nil), ⟨_, hT, rfl, _, rfl⟩⟩
    have I1 : Inv X pins σ (upd H s.heap.objs.size (.tup [x, y])) { s with heap := h', toks := s.toks } :=
      I.turnedNew (t' := s.toks) (ch := [z, TI, TO, i1, i2]) (fun c o hb e => hk c o (fun q' => hb (by simp [q'])) (fun q' => hb (by simp [q'])) (fun q' => hb (by simp [q'])) (fun q' => hb (by simp [q'])) e) Z.fp (Nat.le_refl _) new
    refine k _ _ (I.hok.fresh (Nat.le_refl _)) ⟨I1, .inr hz', hk _ _ S.TIz S.TITO S.TIi1 S.TIi2 Z.hTI, hTO', h1', h2', keepL Z.l1 fun o e => hk _ _ S.l1z S.l1TO S.l1i1 S.l1i2 e, keepL Z.l2 fun o e => hk _ _ S.l2z S.l2TO S.l2i1 S.l2i2 e, fun c hc => ?_, Z.qa, Z.qb⟩
    obtain ⟨f0, f1, f2, f3, f4, f5⟩ := Z.fp c hc
    exact ⟨by rw [upd_ne (Nat.ne_of_lt (lz c hc))]; exact f0, f1, f2, f3, f4, f5⟩
  obtain ⟨p0, p1, hTO⟩ := Z.hTO
  rcases Z.hz with hz | ⟨T, f, oT, hz, hT, t1, t2, t3, t4, t5⟩
  · refine wpAny_pyNext_zip_item S hz Z.hTI hTO Z.h1 Z.h2 Z.l1 Z.l2 g1 g2 fun h' z' TO' h1' h2' T' hsz hk => ?_
    refine go h' ⟨_, false, _, z', T', Nat.ne_of_gt (lz z (by simp)), Nat.ne_of_gt (lz TO (by simp)), Nat.ne_of_gt (lz i1 (by simp)), Nat.ne_of_gt (lz i2 (by simp)), Nat.ne_of_gt lq⟩ ⟨_, _, TO'⟩ h1' h2' T' hk
  · refine wpAny_pyNext_zip_item_held S hz hT Z.hTI Z.h1 Z.h2 Z.l1 Z.l2 g1 g2 fun h' z' h1' h2' T' hsz hk => ?_
    refine go h' ⟨T, true, oT, z', hk _ _ t1 t3 t4 hT, t1, t2, t3, t4, t5⟩ ⟨_, _, hk _ _ S.TOz S.TOi1 S.TOi2 hTO⟩ h1' h2' T' fun c o c1 c2 c3 c4 e => hk c o c1 c3 c4 e
/-- the end of the walk -/
theorem ZL.done {A1 : Around} {E1 : Value → Shared → Prop} {Q1 : Option Value → Shared → Prop} (hh : A1.handled = none) (Z : ZL X pins σ z TI TO i1 i2 a b q its its2 i H s) (S : ZipApart z TI TO i1 i2 a b)
    (e : its.length ≤ i ∨ its2.length ≤ i) (k : ∀ s' : Shared, Inv X pins σ H s' → Q1 none s') : wpAny (model X.prog X.w) A1 (pyNext (.ref z)) Q1 E1 s := by
  have I := Z.I
  have g : its.toArray[i]? = none ∨ its2.toArray[i]? = none := by
    rcases e with e | e
    · exact .inl (by rw [List.getElem?_toArray]; exact List.getElem?_eq_none e)
    · exact .inr (by rw [List.getElem?_toArray]; exact List.getElem?_eq_none e)
  have go : ∀ h' : Heap, (∀ (c : Addr) (o : Obj), c ≠ z → c ≠ TO → c ≠ i1 → c ≠ i2 → s.heap.get? c = some o → h'.get? c = some o) → Q1 none { s with heap := h' } := fun h' hk =>
    k _ (I.turnedL (t' := s.toks) (ch := [z, TI, TO, i1, i2]) (fun c o hb e => hk c o (fun q' => hb (by simp [q'])) (fun q' => hb (by simp [q'])) (fun q' => hb (by simp [q'])) (fun q' => hb (by simp [q'])) e) Z.fp)
  obtain ⟨p0, p1, hTO⟩ := Z.hTO
  rcases Z.hz with hz | ⟨T, f, oT, hz, hT, _⟩
  · exact wpAny_pyNext_zip_end hh S hz Z.hTI hTO Z.h1 Z.h2 Z.l1 Z.l2 g fun h' hk => go h' hk
  · exact wpAny_pyNext_zip_end_held hh S hz hT Z.hTI Z.h1 Z.h2 Z.l1 Z.l2 g fun h' hk => go h' fun c o c1 c2 c3 c4 e => hk c o c1 c3 c4 e
/-- the pair is put at the end of the new list -/
theorem ZL.put {A1 : Around} {E1 : Value → Shared → Prop} {Q1 : Unit → Shared → Prop} {acc : List V} {u : Value} {v : V} (Z : ZL X pins σ z TI TO i1 i2 a b q its its2 i H s) (hq : H q = some (.lst acc)) (r : RelV v u) (hl : acc.length < sizeLine)
    (k : ∀ s' : Shared, ZL X pins σ z TI TO i1 i2 a b q its its2 i (upd H q (.lst (acc ++ [v]))) s' → Q1 () s') : wpAny (model X.prog X.w) A1 (Builtin.List.listUpdate (.ref q) fun xs => xs.push u) Q1 E1 s := by
  obtain ⟨_, us, n, ru, lu, hs⟩ := Z.I.lstM hq
  have ne : ∀ c, c ≠ q → (s.heap.update q (Obj.mapSeq fun xs => xs.push u)).get? c = s.heap.get? c := fun c h => Heap.get?_update_other _ _ (Ne.symm h)
  refine wpAny_updateSeq (xs := us.toArray) (n := n) hs rfl ?_ (by rw [List.size_toArray]; omega) (by rw [Array.size_push, List.size_toArray]; omega)
  have fz : ∀ c ∈ [z, TI, TO, i1, i2], c ≠ q := fun c hc e => by
    have := (Z.fp c hc).1
    rw [e, hq] at this
    cases this
  refine k _ ⟨Z.I.lset (t' := s.toks) (its' := us ++ [u]) hq hs (by simp) (ru.append (.cons r .nil)) (by rw [List.length_append]; exact hl), ?_, ?_, ?_, ?_, ?_, ?_, ?_, fun c hc => ?_, Z.qa, Z.qb⟩
  · rcases Z.hz with hz | ⟨T, f, oT, hz, hT, t1, t2, t3, t4, t5⟩
    · exact .inl ((ne z (fz z (by simp))).trans hz)
    · exact .inr ⟨T, f, oT, (ne z (fz z (by simp))).trans hz, (ne T t5).trans hT, t1, t2, t3, t4, t5⟩
  · exact (ne TI (fz TI (by simp))).trans Z.hTI
  · obtain ⟨x, y, h⟩ := Z.hTO
    exact ⟨x, y, (ne TO (fz TO (by simp))).trans h⟩
  · exact Z.h1.at fun o e => (ne i1 (fz i1 (by simp))).trans e
  · exact Z.h2.at fun o e => (ne i2 (fz i2 (by simp))).trans e
  · exact keepL Z.l1 fun o e => (ne a (Ne.symm Z.qa)).trans e
  · exact keepL Z.l2 fun o e => (ne b (Ne.symm Z.qb)).trans e
  · obtain ⟨f0, f1, f2, f3, f4, f5⟩ := Z.fp c hc
    exact ⟨by rw [upd_ne (fz c hc)]; exact f0, f1, f2, f3, f4, f5⟩
theorem zl_loop {A1 : Around} {Rs : Result → Shared → Prop} {H1 : Hp} {xs ys : List V} (hh : A1.in1.handled = none) (S : ZipApart z TI TO i1 i2 a b) (rv : Vals xs its) (rv2 : Vals ys its2) (hz : min xs.length ys.length ≤ sizeLine)
    (k : ∀ (Ts : List Addr) (H' : Hp) (s' : Shared), Inv X pins σ H' s' → Zm H1 q xs ys (min xs.length ys.length) Ts H' → Rs (.ok (.ret .none)) s') :
    ∀ (m i : Nat) (Ts : List Addr) (H : Hp) (s : Shared), min xs.length ys.length - i = m → i ≤ min xs.length ys.length → ZL X pins σ z TI TO i1 i2 a b q its its2 i H s → Zm H1 q xs ys i Ts H →
      codeAny (model X.prog X.w) A1 (Code.builtin "list.extend.loop" { pos := [.ref q, .ref z, .none] }) Rs s := by
  have e1 := rv.length
  have e2 := rv2.length
  intro m
  induction m with
  | zero =>
    intro i Ts H s hm hi Z M
    have hi' : i = min xs.length ys.length := by omega
    refine codeAny_builtin F.entry_extend_loop ?_
    rw [Around.under_plainId F.plain_extend_loop]
    refine wpAny_bind (Z.done hh S (by omega) fun s' I => ?_)
    refine wpAny_pure ?_
    exact k Ts H s' I (hi' ▸ M)
  | succ m ih =>
    intro i Ts H s hm hi Z M
    have hx : xs[i]? = some (xs[i]'(by omega)) := List.getElem?_eq_getElem (by omega)
    have hy : ys[i]? = some (ys[i]'(by omega)) := List.getElem?_eq_getElem (by omega)
    refine codeAny_builtin F.entry_extend_loop ?_
    rw [Around.under_plainId F.plain_extend_loop]
    refine wpAny_bind (Z.next S rv rv2 hx hy M.at_ fun T s' hT Z1 => ?_)
    have hq1 : (upd H T (.tup [xs[i]'(by omega), ys[i]'(by omega)])) q = some (.lst (Ts.map V.ref)) := by
      rw [upd_ne fun z => by rw [← z, M.at_] at hT; cases hT]
      exact M.at_
    refine wpAny_bind (Z1.put hq1 (v := .ref T) rfl (by rw [List.length_map, M.len]; omega) fun s2 Z2 => ?_)
    refine wpAny_pure ⟨plainId_quiet F.plain_extend_loop _, ?_⟩
    have M2 := M.step hT hx hy
    rw [List.map_append] at M2
    exact ih (i + 1) (Ts ++ [T]) _ s2 (by omega) (by omega) Z2 (by rw [← List.map_append] at M2; simpa using M2)
theorem typeIs_zip (Z : ZL X pins σ z TI TO i1 i2 a b q its its2 i H s) : s.TypeIs (.ref z) "zip" := by
  rcases Z.hz with h | ⟨_, _, _, h, _⟩
  · exact ⟨_, h, rfl⟩
  · exact ⟨_, h, rfl⟩
theorem zl_hint {A1 : Around} {E1 : Value → Shared → Prop} {Q1 : Bool → Shared → Prop} (Z : ZL X pins σ z TI TO i1 i2 a b q its its2 i H s) (k : Q1 true s) : wpAny (model X.prog X.w) A1 (Builtin.List.listLengthHint (.ref z)) Q1 E1 s := by
  have t := typeIs_zip Z
  unfold Builtin.List.listLengthHint
  refine wpAny_bind (wpAny_specialOf t zip_no_len ?_)
  refine wpAny_bind (wpAny_specialOf t zip_no_hint ?_)
  exact wpAny_pure k
/-- the new list set anew -/
theorem ZL.upd {A1 : Around} {E1 : Value → Shared → Prop} {Q1 : Unit → Shared → Prop} {acc acc' : List V} {f : Array Value → Array Value} (Z : ZL X pins σ z TI TO i1 i2 a b q its its2 i H s) (hq : H q = some (.lst acc)) (hl : acc.length < sizeLine) (hl' : acc'.length ≤ sizeLine)
    (hf : ∀ us : List Value, Vals acc us → ∃ us' : List Value, f us.toArray = us'.toArray ∧ Vals acc' us')
    (k : ∀ s' : Shared, ZL X pins σ z TI TO i1 i2 a b q its its2 i (L2.upd H q (.lst acc')) s' → (∀ c, c ≠ q → s'.heap.get? c = s.heap.get? c) → Q1 () s') : wpAny (model X.prog X.w) A1 (Builtin.List.listUpdate (.ref q) f) Q1 E1 s := by
  obtain ⟨_, us, n, ru, lu, hs⟩ := Z.I.lstM hq
  obtain ⟨us', ef, ru'⟩ := hf us ru
  have ne : ∀ c, c ≠ q → (s.heap.update q (Obj.mapSeq f)).get? c = s.heap.get? c := fun c h => Heap.get?_update_other _ _ (Ne.symm h)
  have lu' := ru'.length
  refine wpAny_updateSeq (xs := us.toArray) (n := n) hs rfl ?_ (by rw [List.size_toArray]; omega) (by rw [ef, List.size_toArray]; omega)
  have fz : ∀ c ∈ [z, TI, TO, i1, i2], c ≠ q := fun c hc e => by
    have := (Z.fp c hc).1
    rw [e, hq] at this
    cases this
  refine k _ ⟨Z.I.lset (t' := s.toks) (its' := us') hq hs ef ru' hl', ?_, ?_, ?_, ?_, ?_, ?_, ?_, fun c hc => ?_, Z.qa, Z.qb⟩ ne
  · rcases Z.hz with hz | ⟨T, f, oT, hz, hT, t1, t2, t3, t4, t5⟩
    · exact .inl ((ne z (fz z (by simp))).trans hz)
    · exact .inr ⟨T, f, oT, (ne z (fz z (by simp))).trans hz, (ne T t5).trans hT, t1, t2, t3, t4, t5⟩
  · exact (ne TI (fz TI (by simp))).trans Z.hTI
  · obtain ⟨x, y, h⟩ := Z.hTO
    exact ⟨x, y, (ne TO (fz TO (by simp))).trans h⟩
  · exact Z.h1.at fun o e => (ne i1 (fz i1 (by simp))).trans e
  · exact Z.h2.at fun o e => (ne i2 (fz i2 (by simp))).trans e
  · exact keepL Z.l1 fun o e => (ne a (Ne.symm Z.qa)).trans e
  · exact keepL Z.l2 fun o e => (ne b (Ne.symm Z.qb)).trans e
  · obtain ⟨f0, f1, f2, f3, f4, f5⟩ := Z.fp c hc
    exact ⟨by rw [upd_ne (fz c hc)]; exact f0, f1, f2, f3, f4, f5⟩
theorem zm_start {H1 H : Hp} {xs ys : List V} (hq : H q = some (.lst [])) (h : ∀ c, c ≠ q → H c = H1 c) : Zm H1 q xs ys 0 [] H :=
  ⟨rfl, fun k T e => by simp at e, fun c h1 _ => h c h1, hq⟩
theorem zl_extend {A1 : Around} {Rs : Result → Shared → Prop} {H1 : Hp} {xs ys : List V} (hh : A1.in1.handled = none) (S : ZipApart z TI TO i1 i2 a b) (rv : Vals xs its) (rv2 : Vals ys its2) (hz : min xs.length ys.length ≤ sizeLine)
    (k : ∀ (Ts : List Addr) (H' : Hp) (s' : Shared), Inv X pins σ H' s' → Zm H1 q xs ys (min xs.length ys.length) Ts H' → Rs (.ok (.ret .none)) s')
    (Z : ZL X pins σ z TI TO i1 i2 a b q its its2 0 H s) (z0 : ∃ f0, IsZip s.heap z TI TO f0) (hq : H q = some (.lst [])) (h : ∀ c, c ≠ q → H c = H1 c) :
    wpAny (model X.prog X.w) A1.in1 (Builtin.List.listExtendWith (.ref q) (.ref z) .none)
      (fun fin s' => match fin with
        | .done f => Rs (.ok f) s'
        | .again c' => c'.quiet = true ∧ codeAny (model X.prog X.w) A1 c' Rs s') (fun e s' => Rs (.error e) s') s := by
  have t := typeIs_zip Z
  have nz : q ≠ z := fun e => by
    have := (Z.fp z (by simp)).1
    rw [← e, hq] at this
    cases this
  have sl : 3 ≤ sizeLine := by decide
  obtain ⟨f0, z0⟩ := z0
  unfold Builtin.List.listExtendWith
  refine wpAny_bind (wpAny_typeOf t ?_)
  have c0 : (Builtin.List.listSameRef (.ref q) (.ref z) || Value.type "zip" == Value.type "list" || Value.type "zip" == Value.type "tuple") = false := by
    have e1 : Builtin.List.listSameRef (.ref q) (.ref z) = false := by
      show (q == z) = false
      exact beq_false_of_ne nz
    rw [e1]
    rfl
  rw [c0, if_neg (by decide)]
  refine wpAny_bind (wpAny_pyIter_zip z0 ?_)
  refine wpAny_bind (wpAny_holding (zl_hint Z ?_))
  rw [if_pos (by rfl)]
  refine wpAny_bind (wpAny_rule ?_)
  refine wpAny_bind ?_
  unfold Builtin.List.listTouch
  refine wpAny_bind (Z.upd hq (acc' := [.non]) (by simp; omega) (by simp; omega) (fun us ru => by
    cases ru
    exact ⟨[.none], rfl, .cons rfl .nil⟩) fun s2 Z2 _ => ?_)
  refine Z2.upd (upd_same ..) (acc' := []) (by simp; omega) (by simp) (fun us ru => by
    cases ru with
    | cons r rr =>
      cases rr
      exact ⟨[], rfl, .nil⟩) fun s3 Z3 _ => ?_
  refine wpAny_pure ⟨plainId_quiet F.plain_extend_loop _, ?_⟩
  exact zl_loop hh S rv rv2 hz k _ 0 [] _ s3 rfl (Nat.zero_le _) Z3 (zm_start (upd_same ..) fun c hc => by
    rw [upd_ne hc, upd_ne hc]
    exact h c hc)
theorem zl_init {A1 : Around} {Rs : Result → Shared → Prop} {H1 : Hp} {xs ys : List V} (hh : A1.in1.handled = none) (S : ZipApart z TI TO i1 i2 a b) (rv : Vals xs its) (rv2 : Vals ys its2) (hz : min xs.length ys.length ≤ sizeLine)
    (k : ∀ (Ts : List Addr) (H' : Hp) (s' : Shared), Inv X pins σ H' s' → Zm H1 q xs ys (min xs.length ys.length) Ts H' → Rs (.ok (.ret .none)) s')
    (Z : ZL X pins σ z TI TO i1 i2 a b q its its2 0 H s) (z0 : ∃ f0, IsZip s.heap z TI TO f0) (hq : H q = some (.lst [])) (h : ∀ c, c ≠ q → H c = H1 c) :
    wpAny (model X.prog X.w) A1.in1 (Builtin.«list.__init__» { pos := [.ref q, .ref z] })
      (fun fin s' => match fin with
        | .done f => Rs (.ok f) s'
        | .again c' => c'.quiet = true ∧ codeAny (model X.prog X.w) A1 c' Rs s') (fun e s' => Rs (.error e) s') s := by
  obtain ⟨_, us, n, ru, lu, hs⟩ := Z.I.lstM hq
  have nz : z ≠ q := fun e => by
    have := (Z.fp z (by simp)).1
    rw [e, hq] at this
    cases this
  have sl : 3 ≤ sizeLine := by decide
  unfold Builtin.«list.__init__»
  refine wpAny_bind ?_
  refine wpAny_bind (wpAny_seqItems hs rfl (wpAny_pure ?_))
  refine wpAny_bind (Z.upd hq (acc' := []) (by simp; omega) (by simp) (fun us ru => ⟨[], rfl, .nil⟩) fun s2 Z2 ne => ?_)
  refine wpAny_bind (wpAny_letGo ?_)
  obtain ⟨f0, z0⟩ := z0
  exact zl_extend hh S rv rv2 hz k Z2 ⟨f0, (ne z nz).trans z0⟩ (upd_same ..) fun c hc => by
    rw [upd_ne hc]
    exact h c hc
end
def tListZip (K : PySem.W.Frag) (ta : TA) : TE := fun σ H Q => ta σ H fun vs H1 => ∃ a b xs ys, vs = [.ref a, .ref b] ∧ SqL K H1 a xs ∧ SqL K H1 b ys ∧ ∀ (q : Addr) (Ts : List Addr) (H2 : Hp), H1 q = none → Zm H1 q xs ys (min xs.length ys.length) Ts H2 → Q (.ref q) H2
theorem pe_listZip {X : Cx} {e e2 : Expr} {ta : TA} {p p2 pos pos2 : Pos} (hc : X.calm = true) (hg : Gl X "zip") (hm : X.mg "zip" = none) (hgl : Gl X "list") (hml : X.mg "list" = none) (ha : PA X [e, e2] ta)
    (hs : starEach [e, e2] X.env = (false, eval e X.env) :: starEach [e2] X.env := by rfl) (hpl : (backTo pos (starEach [e2] X.env)).any (·.1) = false := by rfl)
    (hs2 : starEach [Expr.Call (.Name "zip" p) [e, e2] [] pos] X.env = (false, eval (Expr.Call (.Name "zip" p) [e, e2] [] pos) X.env) :: starEach [] X.env := by rfl) :
    PE X (.Call (.Name "list" p2) [.Call (.Name "zip" p) [e, e2] [] pos] [] pos2) (tListZip X.K ta) := by
  refine ⟨fun pins s σ H Q I h => ?_⟩
  refine Call_ (ld_blt I hgl hml PyProof.Rows.boot_list (PyProof.Rows.callWith_type1 ?_ hs2 rfl))
  rw [hs2]
  show wpAny _ _ (spliced ((false, eval (Expr.Call (.Name "zip" p) [e, e2] [] pos) X.env) :: [])) _ _ _
  rw [spliced.eq_2]
  refine wpAny_bind ?_
  refine Call_ (ld_blt I hg hm PyProof.Rows.boot_zip (PyProof.Rows.callWith_type1 (thn (ha.run pos pins s σ H _ I h) fun us s1 ⟨vs, H1, I1, r1, q1⟩ => ?_) hs hpl))
  obtain ⟨a, b, xs, ys, ex, hqx, hqy, q⟩ := q1
  subst ex
  cases r1 with
  | cons r rr =>
    cases rr with
    | cons r' rr =>
      cases rr
      cases r
      cases r'
      obtain ⟨its, rv, p1, zx⟩ := I1.list hqx
      obtain ⟨its2, rv2, p2, zy⟩ := I1.list hqy
      have la : a < s1.heap.objs.size := p1.lt
      have lb : b < s1.heap.objs.size := p2.lt
      have hd : X.A.handled = none := I1.ok.hd hc
      refine call_zip_2 p1.isList p2.isList fun h' hz hTI hTO h1 h2 hsz hk => ?_
      have I2 : Inv X pins σ H1 { s1 with heap := h', toks := s1.toks } := I1.kept (t' := s1.toks) hk
      have fp0 : ∀ c ∈ [s1.heap.objs.size + 4, s1.heap.objs.size + 2, s1.heap.objs.size + 3, s1.heap.objs.size, s1.heap.objs.size + 1], FpOk X pins H1 c := fun c hc => by
        have e' : c = s1.heap.objs.size + 4 ∨ c = s1.heap.objs.size + 2 ∨ c = s1.heap.objs.size + 3 ∨ c = s1.heap.objs.size ∨ c = s1.heap.objs.size + 1 := by simpa using hc
        have hle : s1.heap.objs.size ≤ c := by rcases e' with z | z | z | z | z <;> rw [z] <;> omega
        exact I1.fpOk hle (I1.hok.fresh hle)
      show wpAny _ _ (pure _ >>= _) _ _ _
      refine wpAny_bind (wpAny_pure ?_)
      refine wpAny_bind (wpAny_holding ?_)
      rw [spliced.eq_1]
      refine wpAny_pure (wpAny_pure ?_)
      have S := PySem.W.ktu_apart s1.heap.objs.size a b la lb
      refine callType_codes (Q₁ := fun obj s2 => obj = .ref h'.objs.size ∧ s2 = { s1 with heap := h'.push { cls := .type "list", data := .seq #[] } }) F.called_list (F.typeCall_list_1 _) F.entry_list_init (code_list_new _ ⟨rfl, rfl⟩) fun obj s2 ⟨eo, es⟩ => ?_
      subst eo es
      have gN : (h'.push { cls := Value.type "list", data := Data.seq #[] }).get? h'.objs.size = some { cls := Value.type "list", data := Data.seq #[] } := Heap.get?_push_size (ho := rfl) ..
      have I3 : Inv X pins σ (L2.upd H1 h'.objs.size (.lst [])) { s1 with heap := h'.push { cls := .type "list", data := .seq #[] } } := I2.lnew (ys := []) (its := []) (t' := s1.toks) .nil (Nat.zero_le _)
      have up : ∀ c o, h'.get? c = some o → (h'.push { cls := Value.type "list", data := Data.seq #[] }).get? c = some o := fun c o e => Heap.get?_push_of_some _ e
      have fr : H1 h'.objs.size = none := I2.hok.fresh (Nat.le_refl _)
      refine ⟨⟨_, gN, rfl⟩, F.args_list_init_2 _ _, ?_⟩
      refine zl_init (H1 := H1) (xs := xs) (ys := ys) hd S rv rv2 (by omega) (fun Ts H' s' I' M => ?_) (H := L2.upd H1 h'.objs.size (.lst []))
        ⟨I3, .inl (up _ _ hz), up _ _ hTI, ⟨_, _, up _ _ hTO⟩, h1.at fun o e => up _ _ e, h2.at fun o e => up _ _ e, keepL p1.isList fun o e => up _ _ (hk _ _ e), keepL p2.isList fun o e => up _ _ (hk _ _ e), fun c hc => ?_, ?_, ?_⟩ ⟨_, up _ _ hz⟩ (upd_same ..) (fun c hc => upd_ne hc)
      · exact ⟨rfl, .ref _, H', I', rfl, q _ Ts H' fr M⟩
      · obtain ⟨f0, f1, f2, f3, f4, f5⟩ := fp0 c hc
        have e' : c = s1.heap.objs.size + 4 ∨ c = s1.heap.objs.size + 2 ∨ c = s1.heap.objs.size + 3 ∨ c = s1.heap.objs.size ∨ c = s1.heap.objs.size + 1 := by simpa using hc
        have hlt : c < h'.objs.size := by
          rw [hsz]
          rcases e' with z | z | z | z | z
          · rw [z]; exact Nat.add_lt_add_left (by decide) _
          · rw [z]; exact Nat.add_lt_add_left (by decide) _
          · rw [z]; exact Nat.add_lt_add_left (by decide) _
          · rw [z]; exact Nat.lt_add_of_pos_right (by decide)
          · rw [z]; exact Nat.add_lt_add_left (by decide) _
        exact ⟨by rw [upd_ne (Nat.ne_of_lt hlt)]; exact f0, f1, f2, f3, f4, f5⟩
      · exact Nat.ne_of_gt (Nat.lt_of_lt_of_le la (by rw [hsz]; exact Nat.le_add_right _ _))
      · exact Nat.ne_of_gt (Nat.lt_of_lt_of_le lb (by rw [hsz]; exact Nat.le_add_right _ _))
theorem dpAll_get {K : PySem.W.Frag} {B : Hp} : ∀ {vs : List V} {ds : List D}, vs.length = ds.length → (∀ (k : Nat) (v : V) (d : D), vs[k]? = some v → ds[k]? = some d → Dp K B v d) → DpAll K B vs ds
  | [], [], _, _ => .nil
  | [], _ :: _, h, _ => by cases h
  | _ :: _, [], h, _ => by cases h
  | v :: vs, d :: ds, h, g => .cons (g 0 v d rfl rfl) (dpAll_get (by simpa using h) fun k w e hw he => g (k + 1) w e (by simpa using hw) (by simpa using he))
def fListZip (f : Ev → R (List D)) : Ev → R D := fun s => (f s).bind fun ds => (gZip ds).bind fun zs => .ok (.list zs)
section
variable {K : PySem.W.Frag} {mg : Str → Option Value} {W : WX}
theorem sl_listZip {ta : TA} {g : Ev → R (List D)} (h : SndA K mg W ta g) : SndL K mg W (tListZip K ta) (fListZip g) := by
  refine ⟨fun ga B0 H0 B H σ s Q e p => ?_⟩
  refine h.run ga B0 H0 B H σ s _ e ?_
  unfold fListZip at p
  cases hg : g s with
  | ex y =>
    rw [hg] at p
    exact p
  | no =>
    rw [hg] at p
    exact p
  | ok ds =>
    rw [hg] at p
    intro vs B1 H1 x1 q1
    cases hz : gZip ds with
    | ex y => exact absurd hz (zip_nx ds y)
    | no =>
      simp only [R.bind, hz] at p
    | ok zs =>
      simp only [R.bind, hz] at p
      replace p : ∀ (p : Addr) (vs : List V) (ds : List D) B' H', PyData.list zs = .list ds → Ext B H B' H' → H p = none → B' p = none → H' p = some (.lst vs) → DpAll K B' vs ds → Q (.ref p) H' := p
      unfold gZip at hz
      split at hz
      · obtain ⟨w, w2, rfl, d1, d2⟩ := dp2 q1
        cases hz
        cases d1 with
        | lst hs ha =>
          cases d2 with
          | lst hs2 ha2 =>
            refine ⟨_, _, _, _, rfl, sql_ex x1.s hs, sql_ex x1.s hs2, fun q Ts H2 hn Z => ?_⟩
            have la := DpAll.len ha
            have lb := DpAll.len ha2
            have tn : ∀ T ∈ Ts, H1 T = none ∧ T ≠ q := fun T m => by
              obtain ⟨k, hk⟩ := List.getElem?_of_mem m
              obtain ⟨a, b, _⟩ := Z.new k T hk
              exact ⟨a, b⟩
            have same : ∀ c u, H1 c = some u → c ∉ Ts ∧ c ≠ q := fun c u e => by
              refine ⟨fun m => ?_, fun z => ?_⟩
              · rw [(tn c m).1] at e
                cases e
              · rw [z, hn] at e
                cases e
            have keep : ∀ c u, H1 c = some u → H2 c = some u := fun c u e => by
              rw [Z.old c (same c u e).2 (same c u e).1]
              exact e
            have eB : ∀ c u, B1 c = some u → (fun c => if c ∈ Ts then H2 c else B1 c) c = some u := fun c u e => by
              show (if c ∈ Ts then H2 c else B1 c) = some u
              rw [if_neg (same c u (x1.s c u e)).1]
              exact e
            have xb : Ex B1 (fun c => if c ∈ Ts then H2 c else B1 c) := eB
            refine p q (Ts.map .ref) _ (fun c => if c ∈ Ts then H2 c else B1 c) H2 rfl ⟨x1.b.trans xb, fun c u e => keep c u (x1.h c u e), fun c u e => ?_, fun c u e n => ?_⟩ (Evl.fresh_back x1.h hn) ?_ Z.at_ (dpAll_get ?_ fun k v d hv hd => ?_)
            · replace e : (if c ∈ Ts then H2 c else B1 c) = some u := e
              split at e
              · exact e
              · exact keep c u (x1.s c u e)
            · show (if c ∈ Ts then H2 c else B1 c) = none
              rw [if_neg (same c u (x1.h c u e)).1]
              exact x1.o c u e n
            · show (if q ∈ Ts then H2 q else B1 q) = none
              rw [if_neg fun m => (tn q m).2 rfl]
              exact ex_none x1.s hn
            · simp only [List.length_map, List.length_zip, Z.len]
              omega
            · rw [List.getElem?_map] at hv hd
              cases hT : Ts[k]? with
              | none =>
                rw [hT] at hv
                cases hv
              | some T =>
                rw [hT] at hv
                cases hv
                obtain ⟨a, b, x, y, hx, hy, e3⟩ := Z.new k T hT
                obtain ⟨dx, g1, g2⟩ := DpAll.getV ha hx
                obtain ⟨dy, g3, g4⟩ := DpAll.getV ha2 hy
                rw [(List.getElem?_zip_eq_some (z := (dx, dy))).mpr ⟨g1, g3⟩] at hd
                cases hd
                refine .tup (SqT.of (xs := [x, y]) ?_) (.cons (Dp.ex xb _ _ g2) (.cons (Dp.ex xb _ _ g4) .nil))
                show (if T ∈ Ts then H2 T else B1 T) = _
                rw [if_pos (List.mem_of_getElem? hT)]
                exact e3
      · cases hz
end
section
variable {X : Cx} {W : WX} {a b : Expr} {tA : TA} {fA : Ev → R (List D)} {p p2 pos pos2 : Pos}
theorem l_listZip {Kk : PySem.W.Frag} (hc : X.calm = true) (hml : X.mg "list" = none) (hm : X.mg "zip" = none) (ha : JA X W [a, b] tA fA) (hgl : Gl X "list" := by rfl) (hg : Gl X "zip" := by rfl) (hs : starEach [a, b] X.env = (false, eval a X.env) :: starEach [b] X.env := by rfl) (hpl : (backTo pos (starEach [b] X.env)).any (·.1) = false := by rfl)
    (hs2 : starEach [Expr.Call (.Name "zip" p) [a, b] [] pos] X.env = (false, eval (Expr.Call (.Name "zip" p) [a, b] [] pos) X.env) :: starEach [] X.env := by rfl) (hK : X.K = Kk := by rfl) :
    JL X W (.Call (.Name "list" p2) [.Call (.Name "zip" p) [a, b] [] pos] [] pos2) (tListZip Kk tA) (fListZip fA) := by
  subst hK
  exact ⟨pe_listZip hc hg hm hgl hml ha.pe hs hpl hs2, sl_listZip ha.sd⟩
end
end Sf

namespace Sf
open PySem PySem.Spec PyProof.Rows L2
open Evl (Ex)

/-! ### for x in f(.., own list, ..): a new list of pairs of whole numbers, made while an own list is lent -/
section
variable {K : PySem.W.Frag} {g : Addr} {B0 H0 B H B1 H1 : Hp} {σ : L2.St} {s : Ev}
theorem ER.dropAt {i : Nat} {ds : List D} (x : ER K g B0 H0 B H σ s) (hi : s[i]? = some (.o ds)) : ∃ p vs, H p = some (.lst vs) ∧ B p = none ∧ ER K g B0 H0 (upd B p (.lst vs)) H σ (s.set i (.v (.list ds))) := by
  obtain ⟨p, vs, hσ, hp, hb, h0, hd⟩ := x.own i ds hi
  have hlt : i < s.length := (List.getElem?_eq_some_iff.mp hi).1
  have eb : Ex B (upd B p (.lst vs)) := Ex.new hb
  refine ⟨p, vs, hp, hb, ⟨⟨x.ext.b.trans eb, x.ext.h, fun a u e => ?_, fun a u ea na => ?_⟩, by simp [x.len], fun j e h => ?_, fun j fs h => ?_, fun j k fs gs q h1 h2 h3 h4 => ?_, x.pin.drop hi hσ eb⟩⟩
  · by_cases z : a = p
    · subst z
      rw [upd_same] at e
      rw [← e]
      exact hp
    · rw [upd_ne z] at e
      exact x.ext.s a u e
  · have z : a ≠ p := fun z => by
      subst z
      rw [ea] at h0
      cases h0
    rw [upd_ne z]
    exact x.ext.o a u ea na
  · rw [List.getElem?_set] at h
    split at h
    · rename_i hij
      subst hij
      try rw [if_pos hlt] at h
      simp only [Option.some.injEq, En.v.injEq] at h
      subst h
      exact ⟨.ref p, hσ, .lst (SqL.of upd_same) (DpAll.ex eb _ _ hd)⟩
    · obtain ⟨v, a, b⟩ := x.val j e h
      exact ⟨v, a, Dp.ex eb _ _ b⟩
  · rw [List.getElem?_set] at h
    split at h
    · first | (split at h <;> cases h) | cases h
    · rename_i hij
      obtain ⟨q, us, a, b, c, f, g⟩ := x.own j fs h
      have hq : q ≠ p := fun z => by
        subst z
        exact hij (x.dis i j ds fs q hi h hσ a)
      exact ⟨q, us, a, b, by rw [upd_ne hq]; exact c, f, DpAll.ex eb _ _ g⟩
  · have sp : ∀ {m : Nat} {fs : List D}, (s.set i (.v (.list ds)))[m]? = some (.o fs) → s[m]? = some (.o fs) := fun {m fs} h => by
      rw [List.getElem?_set] at h
      split at h
      · first | (split at h <;> cases h) | cases h
      · exact h
    exact x.dis j k _ _ q (sp h1) (sp h2) h3 h4
end
def prD : D → Bool
  | .tuple [.int _, .int _] => true
  | _ => false
def sLendL (i : Nat) (f : Ev → R D) : Ev → R (List D) := fun s => match s[i]? with
  | some (.o ds) => match f (s.set i (.v (.list ds))) with
    | .ok (.list es) => if es.all prD = true then .ok es else .no
    | _ => .no
  | _ => .no
/-- pairs of whole numbers stand without the lists -/
theorem dp_pr {K : PySem.W.Frag} {B B' : Hp} {a : Addr} {vs : List V} (ha : B a = some (.lst vs)) (k : ∀ c, c ≠ a → B' c = B c) {d : D} {v : V} (p : prD d = true) (h : Dp K B v d) : Dp K B' v d := by
  unfold prD at p
  split at p
  · cases h with
    | tup hs hd =>
      rename_i t xs
      have hs' : SqT K B' t xs := by
        rcases hs with hs | hs
        · refine .inl ?_
          have ne : t ≠ a := fun z => by
            subst z
            unfold Rd at hs
            rcases hs with hs | ⟨_, hs⟩ <;> rw [ha] at hs <;> cases hs
          unfold Rd at *
          rw [k t ne]
          exact hs
        · exact .inr hs
      refine .tup hs' ?_
      cases hd with
      | cons h1 h2 =>
        cases h1
        cases h2 with
        | cons h3 h4 =>
          cases h3
          cases h4
          exact .cons (.int _) (.cons (.int _) .nil)
  · cases p
theorem dps_pr {K : PySem.W.Frag} {B B' : Hp} {a : Addr} {vs : List V} (ha : B a = some (.lst vs)) (k : ∀ c, c ≠ a → B' c = B c) : ∀ {ds : List D} {ws : List V}, ds.all prD = true → DpAll K B ws ds → DpAll K B' ws ds
  | [], _, _, h => by cases h; exact .nil
  | d :: r, _, p, h => by
    rw [List.all_cons, Bool.and_eq_true] at p
    cases h with
    | cons h1 h2 => exact .cons (dp_pr ha k p.1 h1) (dps_pr ha k p.2 h2)
section
variable {K : PySem.W.Frag} {mg : Str → Option Value} {W : WX}
theorem si_lendL {i : Nat} {t : TE} {f : Ev → R D} (h : SndL K mg W t f) : SndI K mg W (iSeq K t) (sLendL i f) := by
  refine ⟨fun ga B0 H0 B H σ s Q e p => ?_⟩
  unfold sLendL at p
  cases hi : s[i]? with
  | none =>
    rw [hi] at p
    exact p.elim
  | some en =>
    rw [hi] at p
    cases en with
    | un => exact p.elim
    | m ds => exact p.elim
    | x a => exact p.elim
    | v d => exact p.elim
    | o ds =>
      obtain ⟨a, vs, ha, hb, e1⟩ := e.dropAt hi
      refine h.run ga B0 H0 (upd B a (.lst vs)) H σ _ _ e1 ?_
      cases hf : f (s.set i (.v (.list ds))) with
      | ex y =>
        simp only [hf] at p
      | no =>
        simp only [hf] at p
      | ok d =>
        simp only [hf] at p
        intro q ws es B' H' ed x hq hbq hws hd
        subst ed
        simp only at p
        by_cases c : es.all prD = true
        · rw [if_pos c] at p
          have a' : B' a = some (.lst vs) := x.b a _ upd_same
          have na : a ≠ q := fun z => by
            rw [← z, ha] at hq
            cases hq
          have d2 : DpAll K (upd (fun c => if c = a then none else B' c) q (.lst ws)) ws es := by
            have := dps_pr (B' := fun c => if c = a then none else B' c) a' (fun c hc => if_neg hc) c hd
            refine DpAll.ex (Ex.new ?_) _ _ this
            show (if q = a then none else B' q) = none
            rw [if_neg (Ne.symm na)]
            exact hbq
          have xx : Ext B H (upd (fun c => if c = a then none else B' c) q (.lst ws)) H' := by
            refine ⟨fun c u ec => ?_, x.h, fun c u ec => ?_, fun c u ec nc => ?_⟩
            · have h1 : c ≠ a := fun z => by
                rw [z, hb] at ec
                cases ec
              have h2 : c ≠ q := fun z => by
                have := e.ext.s c u ec
                rw [z, hq] at this
                cases this
              rw [upd_ne h2]
              show (if c = a then none else B' c) = some u
              rw [if_neg h1]
              exact x.b c u (by rw [upd_ne h1]; exact ec)
            · by_cases z : c = q
              · subst z
                rw [upd_same] at ec
                rw [hws]
                exact ec
              · rw [upd_ne z] at ec
                replace ec : (if c = a then none else B' c) = some u := ec
                split at ec
                · cases ec
                · exact x.s c u ec
            · have h2 : c ≠ q := fun z => by
                rw [z, hq] at ec
                cases ec
              rw [upd_ne h2]
              show (if c = a then none else B' c) = none
              by_cases z : c = a
              · rw [if_pos z]
              · rw [if_neg z]
                exact x.o c u ec (by rw [upd_ne z]; exact nc)
          refine ⟨q, rfl, .inl ⟨⟨ws, SqL.of hws⟩, p _ _ H' xx ?_⟩⟩
          exact walk_list (SqL.of upd_same) d2
        · rw [if_neg c] at p
          exact p.elim
end
section
variable {X : Cx} {W : WX} {e tg : Expr} {te : TE} {f : Ev → R D}
theorem i_lendL {Kk : PySem.W.Frag} (i : Nat) (h : JL X W e te f) (hK : X.K = Kk := by rfl) : JI X W tg e (iSeq Kk te) (sLendL i f) := by
  subst hK
  exact ⟨pi_seq h.pe, si_lendL h.sd⟩
end
end Sf

namespace Lw
open PySem PySem.Spec PyProof.Rows L2 Sf
def topS (i : Nat) : Stmt := PySem.Challenge.pw_surehedge_k79_sums_of_lines.main.body.getD i (.Pass ⟨0, 0, 0, 0⟩)
abbrev s__joined : Stmt := topS 15
abbrev n__joined : List Str := ["pieces", "line", "piece"]
theorem sc__joined : FnScope ["pieces", "line", "piece"] ["pieces"] (defScope s__joined) := ⟨rfl, rfl, rfl, by decide +kernel, rfl, by decide +kernel, by decide +kernel⟩
def l__joined_1 : Ev → Fl :=
    (gIfS (bVal (fBin gNe (fBin gIx (fVar 2) (fC (.int 2))) (fBin gIx (fIxO 1 (fUn gNeg (fC (.int 1)))) (fC (.int 2))))) (gApp 1 (fVar 2)) gNext)
def m__joined : Ev → Fl :=
    (gSeq (gOwn 1 (fSlL (fVar 0) oNone (oSome (fC (.int 1)))))
    (gSeq (gFor (sSeq (fSl (fVar 0) (oSome (fC (.int 1))) oNone)) (hName 2) l__joined_1)
    (gLet 1 (gRet (fVar 1)))))
def F__joined : List D → R D := runF 3 m__joined
def l_L__joined_1 : Ev → Fl :=
    (gIfS (bVal (fBin gNe (fBin gIx (fVar 2) (fC (.int 2))) (fBin gIx (fIxO 1 (fUn gNeg (fC (.int 1)))) (fC (.int 2))))) (gApp 1 (fVar 2)) gNext)
def mL__joined : Ev → Fl :=
    (gSeq (gOwn 1 (fSlL (fVar 0) oNone (oSome (fC (.int 1)))))
    (gSeq (gFor (sSeq (fSl (fVar 0) (oSome (fC (.int 1))) oNone)) (hName 2) l_L__joined_1)
    (gRetO 1)))
def FL__joined : List D → R (List D) := runL 3 mL__joined
abbrev s__law_draw : Stmt := topS 17
abbrev n__law_draw : List Str := ["stream", "many", "value", "cell", "mixed", "other"]
theorem sc__law_draw : FnScope ["stream", "many", "value", "cell", "mixed", "other"] ["stream", "many"] (defScope s__law_draw) := ⟨rfl, rfl, rfl, by decide +kernel, rfl, by decide +kernel, by decide +kernel⟩
def m__law_draw : Ev → Fl :=
    (gSeq (gIfS (bVal (fBin (gCmp fun i j => decide (i < j)) (fIxO 0 (fC (.int 2))) (fVar 1))) (gSeq (gAsg (fC (.int 0)) (hName 3))
    (gSeq (gIfS (bVal (fBin (gCmp fun i j => decide (i < j)) (fIxO 0 (fC (.int 1))) (fCall gLen (fCons (fIxO 0 (fC (.int 0))) fNil)))) (gAsg (fBin gIx (fIxO 0 (fC (.int 0))) (fIxO 0 (fC (.int 1)))) (hName 3)) gNext)
    (gSeq (gPut 0 (fBin gAdd (fIxO 0 (fC (.int 1))) (fC (.int 1))) (fC (.int 1)))
    (gSeq (gPut 0 (fVar 3) (fC (.int 2)))
    (gIfS (bVal (fBin (gCmp fun i j => decide (i < j)) (fVar 3) (fBin gPow (fC (.int 10)) (fC (.int 18))))) (gSeq (gAsg (fBin gMod (fCall gInt1 (fCons (fBin gAdd (fBin gMul (fVar 3) (fC (.int 48271))) (fBin gMul (fIxO 0 (fC (.int 1))) (fC (.int 69621)))) fNil)) (fC (.int 2147483647))) (hName 4))
    (gSeq (gAsg (fBin gMod (fCall gInt1 (fCons (fBin gAdd (fBin gAdd (fBin gMul (fVar 4) (fC (.int 40692))) (fBin gMul (fVar 3) (fC (.int 7)))) (fC (.int 5))) fNil)) (fC (.int 2147483399))) (hName 5))
    (gPut 0 (fBin gAdd (fBin gAdd (fBin gMul (fVar 5) (fC (.int 2147483563))) (fVar 4)) (fBin gPow (fC (.int 10)) (fC (.int 18)))) (fC (.int 2))))) gNext))))) gNext)
    (gSeq (gAsg (fBin gMod (fCall gInt1 (fCons (fIxO 0 (fC (.int 2))) fNil)) (fVar 1)) (hName 2))
    (gSeq (gPut 0 (fBin gDiv (fCall gInt1 (fCons (fIxO 0 (fC (.int 2))) fNil)) (fVar 1)) (fC (.int 2)))
    (gRetM 0 (xE (fVar 2))))))
def F__law_draw : List D → List D → List D → R (D × List D) := runM 6 0 m__law_draw
abbrev s__law_number : Stmt := topS 18
abbrev n__law_number : List Str := ["n", "d", "one", "other"]
theorem sc__law_number : FnScope ["n", "d", "one", "other"] ["n", "d"] (defScope s__law_number) := ⟨rfl, rfl, rfl, by decide +kernel, rfl, by decide +kernel, by decide +kernel⟩
def l__law_number_1 : Ev → Fl :=
    (gPar 2 3 (fCons (fVar 3) (fCons (fBin gMod (fCall gInt1 (fCons (fVar 2) fNil)) (fVar 3)) fNil)))
def m__law_number : Ev → Fl :=
    (gSeq (gIfS (bVal (fBin (gCmp fun i j => decide (i < j)) (fVar 1) (fC (.int 0)))) (gPar 0 1 (fCons (fBin gSubI (fC (.int 0)) (fVar 0)) (fCons (fBin gSubI (fC (.int 0)) (fVar 1)) fNil))) gNext)
    (gSeq (gPar 2 3 (fCons (fCall gAbs (fCons (fVar 0) fNil)) (fCons (fVar 1) fNil)))
    (gSeq (gWhile (bVal (fBin gNe (fVar 3) (fC (.int 0)))) l__law_number_1 100000)
    (gRet (fTup (fCons (fBin gDiv (fVar 0) (fVar 2)) (fCons (fBin gDiv (fVar 1) (fVar 2)) fNil)))))))
def F__law_number : List D → R D := runF 4 m__law_number
abbrev s__law_amount : Stmt := topS 26
abbrev n__law_amount : List Str := ["stream", "n"]
theorem sc__law_amount : FnScope ["stream", "n"] ["stream"] (defScope s__law_amount) := ⟨rfl, rfl, rfl, by decide +kernel, rfl, by decide +kernel, by decide +kernel⟩
def m__law_amount : Ev → Fl :=
    (gSeq (gIfX (xVal (xBin gEq (xCallM 0 F__law_draw (xHere (xE (fCons (fC (.int 4)) fNil)))) (xE (fC (.int 0))))) (gRetM 0 (xE (fTup (fCons (fC (.int 0)) (fCons (fC (.int 1)) fNil))))) gNext)
    (gSeq (gAsgX (xBin gSubI (xCallM 0 F__law_draw (xHere (xE (fCons (fC (.int 9)) fNil)))) (xE (fC (.int 4)))) (hName 1))
    (gSeq (gIfX (xVal (xBin gEq (xCallM 0 F__law_draw (xHere (xE (fCons (fC (.int 12)) fNil)))) (xE (fC (.int 0))))) (gAsg (fBin gAdd (fBin gMul (fVar 1) (fC (.int 99991))) (fC (.int 7))) (hName 1)) gNext)
    (gRetM 0 (xCall F__law_number (xCons (xE (fVar 1)) (xCons (xBin gIx (xE (fLst (fCons (fC (.int 1)) (fCons (fC (.int 1)) (fCons (fC (.int 1)) (fCons (fC (.int 2)) (fCons (fC (.int 3)) fNil))))))) (xCallM 0 F__law_draw (xHere (xE (fCons (fC (.int 5)) fNil))))) (xE fNil))))))))
def F__law_amount : List D → List D → List D → R (D × List D) := runM 2 0 m__law_amount
abbrev s__law_is_number : Stmt := topS 24
abbrev n__law_is_number : List Str := ["actual", "one"]
theorem sc__law_is_number : FnScope ["actual", "one"] ["actual"] (defScope s__law_is_number) := ⟨rfl, rfl, rfl, by decide +kernel, rfl, by decide +kernel, by decide +kernel⟩
def l__law_is_number_1 : Ev → Fl :=
    (gIfS (bOr (bNot (bTru (fUn (gIsi "int") (fVar 1)))) (bTru (fUn (gIsi "bool") (fVar 1)))) (gRet (fC (.bool false))) gNext)
def m__law_is_number : Ev → Fl :=
    (gSeq (gIfS (bOr (bNot (bTru (fUn (gIsi "tuple") (fVar 0)))) (bVal (fBin gNe (fCall gLen (fCons (fVar 0) fNil)) (fC (.int 2))))) (gRet (fC (.bool false))) gNext)
    (gSeq (gFor (sSeq (fVar 0)) (hName 1) l__law_is_number_1)
    (gRet (fAnd (fBin (gCmp fun i j => decide (j < i)) (fBin gIx (fVar 0) (fC (.int 1))) (fC (.int 0))) (fBin gEq (fCallD F__law_number (fCons (fBin gIx (fVar 0) (fC (.int 0))) (fCons (fBin gIx (fVar 0) (fC (.int 1))) fNil))) (fVar 0))))))
def F__law_is_number : List D → R D := runF 2 m__law_is_number
abbrev s__law_less : Stmt := topS 22
abbrev n__law_less : List Str := ["a", "b"]
theorem sc__law_less : FnScope ["a", "b"] ["a", "b"] (defScope s__law_less) := ⟨rfl, rfl, rfl, by decide +kernel, rfl, by decide +kernel, by decide +kernel⟩
def m__law_less : Ev → Fl :=
    (gRet (fBin (gCmp fun i j => decide (i < j)) (fBin gMul (fBin gIx (fVar 0) (fC (.int 0))) (fBin gIx (fVar 1) (fC (.int 1)))) (fBin gMul (fBin gIx (fVar 1) (fC (.int 0))) (fBin gIx (fVar 0) (fC (.int 1))))))
def F__law_less : List D → R D := runF 2 m__law_less
abbrev s__law_plus : Stmt := topS 19
abbrev n__law_plus : List Str := ["a", "b"]
theorem sc__law_plus : FnScope ["a", "b"] ["a", "b"] (defScope s__law_plus) := ⟨rfl, rfl, rfl, by decide +kernel, rfl, by decide +kernel, by decide +kernel⟩
def m__law_plus : Ev → Fl :=
    (gRet (fCallD F__law_number (fCons (fBin gAdd (fBin gMul (fBin gIx (fVar 0) (fC (.int 0))) (fBin gIx (fVar 1) (fC (.int 1)))) (fBin gMul (fBin gIx (fVar 1) (fC (.int 0))) (fBin gIx (fVar 0) (fC (.int 1))))) (fCons (fBin gMul (fBin gIx (fVar 0) (fC (.int 1))) (fBin gIx (fVar 1) (fC (.int 1)))) fNil))))
def F__law_plus : List D → R D := runF 2 m__law_plus
abbrev s__law_minus : Stmt := topS 21
abbrev n__law_minus : List Str := ["a", "b"]
theorem sc__law_minus : FnScope ["a", "b"] ["a", "b"] (defScope s__law_minus) := ⟨rfl, rfl, rfl, by decide +kernel, rfl, by decide +kernel, by decide +kernel⟩
def m__law_minus : Ev → Fl :=
    (gRet (fCallD F__law_plus (fCons (fVar 0) (fCons (fTup (fCons (fBin gSubI (fC (.int 0)) (fBin gIx (fVar 1) (fC (.int 0)))) (fCons (fBin gIx (fVar 1) (fC (.int 1))) fNil))) fNil))))
def F__law_minus : List D → R D := runF 2 m__law_minus
abbrev s__law_times : Stmt := topS 20
abbrev n__law_times : List Str := ["a", "b"]
theorem sc__law_times : FnScope ["a", "b"] ["a", "b"] (defScope s__law_times) := ⟨rfl, rfl, rfl, by decide +kernel, rfl, by decide +kernel, by decide +kernel⟩
def m__law_times : Ev → Fl :=
    (gRet (fCallD F__law_number (fCons (fBin gMul (fBin gIx (fVar 0) (fC (.int 0))) (fBin gIx (fVar 1) (fC (.int 0)))) (fCons (fBin gMul (fBin gIx (fVar 0) (fC (.int 1))) (fBin gIx (fVar 1) (fC (.int 1)))) fNil))))
def F__law_times : List D → R D := runF 2 m__law_times
abbrev s__law_piece_tells : Stmt := topS 28
abbrev n__law_piece_tells : List Str := ["piece", "x"]
theorem sc__law_piece_tells : FnScope ["piece", "x"] ["piece", "x"] (defScope s__law_piece_tells) := ⟨rfl, rfl, rfl, by decide +kernel, rfl, by decide +kernel, by decide +kernel⟩
def m__law_piece_tells : Ev → Fl :=
    (gRet (fCallD F__law_plus (fCons (fBin gIx (fVar 0) (fC (.int 1))) (fCons (fCallD F__law_times (fCons (fBin gIx (fVar 0) (fC (.int 2))) (fCons (fCallD F__law_minus (fCons (fVar 1) (fCons (fBin gIx (fVar 0) (fC (.int 0))) fNil))) fNil))) fNil))))
def F__law_piece_tells : List D → R D := runF 2 m__law_piece_tells
abbrev s__law_is_line : Stmt := topS 30
abbrev n__law_is_line : List Str := ["pieces", "piece", "place", "later", "one"]
theorem sc__law_is_line : FnScope ["pieces", "piece", "place", "later", "one"] ["pieces"] (defScope s__law_is_line) := ⟨rfl, rfl, rfl, by decide +kernel, rfl, by decide +kernel, by decide +kernel⟩
def l__law_is_line_1 : Ev → Fl :=
    (gSeq (gPar 1 3 (fCons (fBin gIx (fVar 0) (fBin gSubI (fVar 2) (fC (.int 1)))) (fCons (fBin gIx (fVar 0) (fVar 2)) fNil)))
    (gIfS (bOr (bNot (bTru (fCallD F__law_less (fCons (fBin gIx (fVar 1) (fC (.int 0))) (fCons (fBin gIx (fVar 3) (fC (.int 0))) fNil))))) (bOr (bVal (fBin gEq (fBin gIx (fVar 1) (fC (.int 2))) (fBin gIx (fVar 3) (fC (.int 2))))) (bVal (fBin gNe (fCallD F__law_piece_tells (fCons (fVar 1) (fCons (fBin gIx (fVar 3) (fC (.int 0))) fNil))) (fBin gIx (fVar 3) (fC (.int 1))))))) (gRet (fC (.bool false))) gNext))
def l__law_is_line_2 : Ev → Fl :=
    (gIfS (bOr (bNot (bTru (fUn (gIsi "tuple") (fVar 1)))) (bOr (bVal (fBin gNe (fCall gLen (fCons (fVar 1) fNil)) (fC (.int 3)))) (bNot (bTru (fCall gAll (fCons (fLc (sSeq (fVar 1)) (hName 4) bYes (fCallD F__law_is_number (fCons (fVar 4) fNil)) [4]) fNil)))))) (gRet (fC (.bool false))) gNext)
def m__law_is_line : Ev → Fl :=
    (gSeq (gIfS (bOr (bNot (bTru (fUn (gIsi "list") (fVar 0)))) (bVal (fBin gEq (fCall gLen (fCons (fVar 0) fNil)) (fC (.int 0))))) (gRet (fC (.bool false))) gNext)
    (gSeq (gFor (sSeq (fVar 0)) (hName 1) l__law_is_line_2)
    (gSeq (gIfS (bVal (fBin gNe (fBin gIx (fBin gIx (fVar 0) (fC (.int 0))) (fC (.int 0))) (fTup (fCons (fC (.int 0)) (fCons (fC (.int 1)) fNil))))) (gRet (fC (.bool false))) gNext)
    (gSeq (gFor (sRng2 (fCons (fC (.int 1)) (fCons (fCall gLen (fCons (fVar 0) fNil)) fNil))) (hName 2) l__law_is_line_1)
    (gRet (fC (.bool true)))))))
def F__law_is_line : List D → R D := runF 5 m__law_is_line
abbrev s__law_line : Stmt := topS 27
abbrev n__law_line : List Str := ["stream", "pieces", "turn", "start", "value", "slope", "step", "other"]
theorem sc__law_line : FnScope ["stream", "pieces", "turn", "start", "value", "slope", "step", "other"] ["stream"] (defScope s__law_line) := ⟨rfl, rfl, rfl, by decide +kernel, rfl, by decide +kernel, by decide +kernel⟩
def l__law_line_1 : Ev → Fl :=
    (gSeq (gAsgX (xCall F__law_number (xCons (xBin gAdd (xE (fC (.int 1))) (xCallM 0 F__law_draw (xHere (xE (fCons (fC (.int 5)) fNil))))) (xCons (xBin gAdd (xE (fC (.int 1))) (xCallM 0 F__law_draw (xHere (xE (fCons (fC (.int 3)) fNil))))) (xE fNil)))) (hName 6))
    (gSeq (gAsg (fCallD F__law_plus (fCons (fVar 4) (fCons (fCallD F__law_times (fCons (fVar 5) (fCons (fVar 6) fNil))) fNil))) (hName 4))
    (gSeq (gAsg (fCallD F__law_plus (fCons (fVar 3) (fCons (fVar 6) fNil))) (hName 3))
    (gSeq (gAsgX (xCallM 0 F__law_amount (xHere (xE fNil))) (hName 7))
    (gSeq (gIfS (bVal (fBin gEq (fVar 7) (fVar 5))) (gAsg (fCallD F__law_plus (fCons (fVar 7) (fCons (fTup (fCons (fC (.int 1)) (fCons (fC (.int 1)) fNil))) fNil))) (hName 7)) gNext)
    (gSeq (gAsg (fVar 7) (hName 5))
    (gApp 1 (fTup (fCons (fVar 3) (fCons (fVar 4) (fCons (fVar 5) fNil)))))))))))
def m__law_line : Ev → Fl :=
    (gSeq (gPar3X 3 4 5 (xCons (xE (fTup (fCons (fC (.int 0)) (fCons (fC (.int 1)) fNil)))) (xCons (xCallM 0 F__law_amount (xHere (xE fNil))) (xCons (xCallM 0 F__law_amount (xHere (xE fNil))) (xE fNil)))))
    (gSeq (gOwn 1 (fLst (fCons (fTup (fCons (fVar 3) (fCons (fVar 4) (fCons (fVar 5) fNil)))) fNil)))
    (gSeq (gForX (xRng1 (xCons (xCallM 0 F__law_draw (xHere (xE (fCons (fC (.int 4)) fNil)))) (xE fNil))) (hName 2) l__law_line_1)
    (gLet 1 (gRetM 0 (xE (fVar 1)))))))
def F__law_line : List D → List D → List D → R (D × List D) := runM 8 0 m__law_line
abbrev s__law_places : Stmt := topS 31
abbrev n__law_places : List Str := ["lines", "found", "line", "ordered", "one", "halves", "place", "piece", "at", "other"]
theorem sc__law_places : FnScope ["lines", "found", "line", "ordered", "one", "halves", "place", "piece", "at", "other"] ["lines"] (defScope s__law_places) := ⟨rfl, rfl, rfl, by decide +kernel, rfl, by decide +kernel, by decide +kernel⟩
def l__law_places_1 : Ev → Fl :=
    (gApp 5 (fCallD F__law_times (fCons (fCallD F__law_plus (fCons (fBin gIx (fVar 3) (fBin gSubI (fVar 6) (fC (.int 1)))) (fCons (fBin gIx (fVar 3) (fVar 6)) fNil))) (fCons (fTup (fCons (fC (.int 1)) (fCons (fC (.int 2)) fNil))) fNil))))
def l__law_places_2 : Ev → Fl :=
    (gSeq (gAsg (fCall gLen (fCons (fLc (sSeq (fVar 3)) (hName 9) (bTru (fCallD F__law_less (fCons (fVar 9) (fCons (fVar 4) fNil)))) (fVar 9) [9]) fNil)) (hName 8))
    (gAsg (fBin gAdd (fBin gAdd (fSl (fVar 3) oNone (oSome (fVar 8))) (fLst (fCons (fVar 4) fNil))) (fSl (fVar 3) (oSome (fVar 8)) oNone)) (hName 3)))
def l__law_places_3 : Ev → Fl :=
    (gIfS (bLend 1 (bVal (fBin (gInD true) (fBin gIx (fVar 7) (fC (.int 0))) (fVar 1)))) (gApp 1 (fBin gIx (fVar 7) (fC (.int 0)))) gNext)
def l__law_places_4 : Ev → Fl :=
    (gFor (sSeq (fVar 2)) (hName 7) l__law_places_3)
def m__law_places : Ev → Fl :=
    (gSeq (gOwn 1 (fLst fNil))
    (gSeq (gFor (sSeq (fVar 0)) (hName 2) l__law_places_4)
    (gSeq (gAsg (fLst fNil) (hName 3))
    (gSeq (gLet 1 (gFor (sSeq (fVar 1)) (hName 4) l__law_places_2))
    (gSeq (gOwn 5 (fLst fNil))
    (gSeq (gFor (sRng2 (fCons (fC (.int 1)) (fCons (fCall gLen (fCons (fVar 3) fNil)) fNil))) (hName 6) l__law_places_1)
    (gLet 5 (gRet (fBin gAdd (fBin gAdd (fVar 3) (fVar 5)) (fLst (fCons (fCallD F__law_plus (fCons (fBin gIx (fVar 3) (fBin gSubI (fCall gLen (fCons (fVar 3) fNil)) (fC (.int 1)))) (fCons (fTup (fCons (fC (.int 1)) (fCons (fC (.int 1)) fNil))) fNil))) fNil)))))))))))
def F__law_places : List D → R D := runF 10 m__law_places
def l_L__law_places_1 : Ev → Fl :=
    (gApp 5 (fCallD F__law_times (fCons (fCallD F__law_plus (fCons (fBin gIx (fVar 3) (fBin gSubI (fVar 6) (fC (.int 1)))) (fCons (fBin gIx (fVar 3) (fVar 6)) fNil))) (fCons (fTup (fCons (fC (.int 1)) (fCons (fC (.int 2)) fNil))) fNil))))
def l_L__law_places_2 : Ev → Fl :=
    (gSeq (gAsg (fCall gLen (fCons (fLc (sSeq (fVar 3)) (hName 9) (bTru (fCallD F__law_less (fCons (fVar 9) (fCons (fVar 4) fNil)))) (fVar 9) [9]) fNil)) (hName 8))
    (gAsg (fBin gAdd (fBin gAdd (fSl (fVar 3) oNone (oSome (fVar 8))) (fLst (fCons (fVar 4) fNil))) (fSl (fVar 3) (oSome (fVar 8)) oNone)) (hName 3)))
def l_L__law_places_3 : Ev → Fl :=
    (gIfS (bLend 1 (bVal (fBin (gInD true) (fBin gIx (fVar 7) (fC (.int 0))) (fVar 1)))) (gApp 1 (fBin gIx (fVar 7) (fC (.int 0)))) gNext)
def l_L__law_places_4 : Ev → Fl :=
    (gFor (sSeq (fVar 2)) (hName 7) l_L__law_places_3)
def mL__law_places : Ev → Fl :=
    (gSeq (gOwn 1 (fLst fNil))
    (gSeq (gFor (sSeq (fVar 0)) (hName 2) l_L__law_places_4)
    (gSeq (gAsg (fLst fNil) (hName 3))
    (gSeq (gLet 1 (gFor (sSeq (fVar 1)) (hName 4) l_L__law_places_2))
    (gSeq (gOwn 5 (fLst fNil))
    (gSeq (gFor (sRng2 (fCons (fC (.int 1)) (fCons (fCall gLen (fCons (fVar 3) fNil)) fNil))) (hName 6) l_L__law_places_1)
    (gLet 5 (gRetL (fBin gAddL (fBin gAdd (fVar 3) (fVar 5)) (fLst (fCons (fCallD F__law_plus (fCons (fBin gIx (fVar 3) (fBin gSubI (fCall gLen (fCons (fVar 3) fNil)) (fC (.int 1)))) (fCons (fTup (fCons (fC (.int 1)) (fCons (fC (.int 1)) fNil))) fNil))) fNil)))))))))))
def FL__law_places : List D → R (List D) := runL 10 mL__law_places
abbrev s__law_same_starts : Stmt := topS 32
abbrev n__law_same_starts : List Str := ["stream", "line", "found", "value", "place", "slope"]
theorem sc__law_same_starts : FnScope ["stream", "line", "found", "value", "place", "slope"] ["stream", "line"] (defScope s__law_same_starts) := ⟨rfl, rfl, rfl, by decide +kernel, rfl, by decide +kernel, by decide +kernel⟩
def l__law_same_starts_1 : Ev → Fl :=
    (gSeq (gIfS (bVal (fBin (gCmp fun i j => decide (j < i)) (fVar 4) (fC (.int 0)))) (gAsg (fCallD F__law_piece_tells (fCons (fIxO 2 (fBin gSubI (fVar 4) (fC (.int 1)))) (fCons (fBin gIx (fBin gIx (fVar 1) (fVar 4)) (fC (.int 0))) fNil))) (hName 3)) gNext)
    (gSeq (gAsg (fCallD F__law_times (fCons (fTup (fCons (fUn gNeg (fC (.int 1))) (fCons (fC (.int 1)) fNil))) (fCons (fBin gIx (fBin gIx (fVar 1) (fVar 4)) (fC (.int 2))) fNil))) (hName 5))
    (gSeq (gIfX (xAnd (xVal (xBin gEq (xCallM 0 F__law_draw (xHere (xE (fCons (fC (.int 4)) fNil)))) (xE (fC (.int 0))))) (xE (bVal (fBin gEq (fCall gLen (fCons (fVar 1) fNil)) (fC (.int 1)))))) (gAsgX (xCallM 0 F__law_amount (xHere (xE fNil))) (hName 5)) gNext)
    (gApp 2 (fTup (fCons (fBin gIx (fBin gIx (fVar 1) (fVar 4)) (fC (.int 0))) (fCons (fVar 3) (fCons (fVar 5) fNil))))))))
def m__law_same_starts : Ev → Fl :=
    (gSeq (gOwn 2 (fLst fNil))
    (gSeq (gAsgX (xCallM 0 F__law_amount (xHere (xE fNil))) (hName 3))
    (gSeq (gFor (sRng1 (fCons (fCall gLen (fCons (fVar 1) fNil)) fNil)) (hName 4) l__law_same_starts_1)
    (gLet 2 (gRetM 0 (xE (fVar 2)))))))
def F__law_same_starts : List D → List D → List D → R (D × List D) := runM 6 0 m__law_same_starts
abbrev s__law_tells : Stmt := topS 29
abbrev n__law_tells : List Str := ["line", "x", "found", "piece"]
theorem sc__law_tells : FnScope ["line", "x", "found", "piece"] ["line", "x"] (defScope s__law_tells) := ⟨rfl, rfl, rfl, by decide +kernel, rfl, by decide +kernel, by decide +kernel⟩
def l__law_tells_1 : Ev → Fl :=
    (gIfS (bNot (bTru (fCallD F__law_less (fCons (fVar 1) (fCons (fBin gIx (fVar 3) (fC (.int 0))) fNil))))) (gAsg (fVar 3) (hName 2)) gNext)
def m__law_tells : Ev → Fl :=
    (gSeq (gAsg (fBin gIx (fVar 0) (fC (.int 0))) (hName 2))
    (gSeq (gFor (sSeq (fVar 0)) (hName 3) l__law_tells_1)
    (gRet (fCallD F__law_piece_tells (fCons (fVar 2) (fCons (fVar 1) fNil))))))
def F__law_tells : List D → R D := runF 4 m__law_tells
abbrev s_number : Stmt := topS 2
abbrev n_number : List Str := ["n", "d", "common"]
theorem sc_number : FnScope ["n", "d", "common"] ["n", "d"] (defScope s_number) := ⟨rfl, rfl, rfl, by decide +kernel, rfl, by decide +kernel, by decide +kernel⟩
def m_number : Ev → Fl :=
    (gSeq (gAsg (fCall gGcd (fCons (fVar 0) (fCons (fVar 1) fNil))) (hName 2))
    (gSeq (gIfS (bVal (fBin (gCmp fun i j => decide (i < j)) (fVar 1) (fC (.int 0)))) (gAsg (fUn gNeg (fVar 2)) (hName 2)) gNext)
    (gRet (fTup (fCons (fBin gDiv (fVar 0) (fVar 2)) (fCons (fBin gDiv (fVar 1) (fVar 2)) fNil))))))
def F_number : List D → R D := runF 3 m_number
abbrev s_minus : Stmt := topS 5
abbrev n_minus : List Str := ["a", "b"]
theorem sc_minus : FnScope ["a", "b"] ["a", "b"] (defScope s_minus) := ⟨rfl, rfl, rfl, by decide +kernel, rfl, by decide +kernel, by decide +kernel⟩
def m_minus : Ev → Fl :=
    (gRet (fCallD F_number (fCons (fBin gSubI (fBin gMul (fBin gIx (fVar 0) (fC (.int 0))) (fBin gIx (fVar 1) (fC (.int 1)))) (fBin gMul (fBin gIx (fVar 1) (fC (.int 0))) (fBin gIx (fVar 0) (fC (.int 1))))) (fCons (fBin gMul (fBin gIx (fVar 0) (fC (.int 1))) (fBin gIx (fVar 1) (fC (.int 1)))) fNil))))
def F_minus : List D → R D := runF 2 m_minus
abbrev s_plus : Stmt := topS 4
abbrev n_plus : List Str := ["a", "b"]
theorem sc_plus : FnScope ["a", "b"] ["a", "b"] (defScope s_plus) := ⟨rfl, rfl, rfl, by decide +kernel, rfl, by decide +kernel, by decide +kernel⟩
def m_plus : Ev → Fl :=
    (gRet (fCallD F_number (fCons (fBin gAdd (fBin gMul (fBin gIx (fVar 0) (fC (.int 0))) (fBin gIx (fVar 1) (fC (.int 1)))) (fBin gMul (fBin gIx (fVar 1) (fC (.int 0))) (fBin gIx (fVar 0) (fC (.int 1))))) (fCons (fBin gMul (fBin gIx (fVar 0) (fC (.int 1))) (fBin gIx (fVar 1) (fC (.int 1)))) fNil))))
def F_plus : List D → R D := runF 2 m_plus
abbrev s_times : Stmt := topS 6
abbrev n_times : List Str := ["a", "b"]
theorem sc_times : FnScope ["a", "b"] ["a", "b"] (defScope s_times) := ⟨rfl, rfl, rfl, by decide +kernel, rfl, by decide +kernel, by decide +kernel⟩
def m_times : Ev → Fl :=
    (gRet (fCallD F_number (fCons (fBin gMul (fBin gIx (fVar 0) (fC (.int 0))) (fBin gIx (fVar 1) (fC (.int 0)))) (fCons (fBin gMul (fBin gIx (fVar 0) (fC (.int 1))) (fBin gIx (fVar 1) (fC (.int 1)))) fNil))))
def F_times : List D → R D := runF 2 m_times
abbrev s__told : Stmt := topS 8
abbrev n__told : List Str := ["piece", "x", "start", "value", "slope"]
theorem sc__told : FnScope ["piece", "x", "start", "value", "slope"] ["piece", "x"] (defScope s__told) := ⟨rfl, rfl, rfl, by decide +kernel, rfl, by decide +kernel, by decide +kernel⟩
def m__told : Ev → Fl :=
    (gSeq (gAsg (fVar 0) (hTup 3 (hCons (hName 2) (hCons (hName 3) (hCons (hName 4) hNil)))))
    (gRet (fCallD F_plus (fCons (fVar 3) (fCons (fCallD F_times (fCons (fVar 4) (fCons (fCallD F_minus (fCons (fVar 1) (fCons (fVar 2) fNil))) fNil))) fNil)))))
def F__told : List D → R D := runF 5 m__told
abbrev s__from : Stmt := topS 11
abbrev n__from : List Str := ["piece", "start"]
theorem sc__from : FnScope ["piece", "start"] ["piece", "start"] (defScope s__from) := ⟨rfl, rfl, rfl, by decide +kernel, rfl, by decide +kernel, by decide +kernel⟩
def m__from : Ev → Fl :=
    (gRet (fTup (fCons (fVar 1) (fCons (fCallD F__told (fCons (fVar 0) (fCons (fVar 1) fNil))) (fCons (fBin gIx (fVar 0) (fC (.int 2))) fNil)))))
def F__from : List D → R D := runF 2 m__from
abbrev s__cut : Stmt := topS 14
abbrev n__cut : List Str := ["line", "starts", "pieces", "place", "start"]
theorem sc__cut : FnScope ["line", "starts", "pieces", "place", "start"] ["line", "starts"] (defScope s__cut) := ⟨rfl, rfl, rfl, by decide +kernel, rfl, by decide +kernel, by decide +kernel⟩
def l__cut_1 : Ev → Fl :=
    (gSeq (gIfS (bAnd (bVal (fBin (gCmp fun i j => decide (i < j)) (fBin gAdd (fVar 3) (fC (.int 1))) (fCall gLen (fCons (fVar 0) fNil)))) (bVal (fBin gEq (fBin gIx (fBin gIx (fVar 0) (fBin gAdd (fVar 3) (fC (.int 1)))) (fC (.int 0))) (fVar 4)))) (gAsg (fBin gAugA (fVar 3) (fC (.int 1))) (hName 3)) gNext)
    (gApp 2 (fCallD F__from (fCons (fBin gIx (fVar 0) (fVar 3)) (fCons (fVar 4) fNil)))))
def m__cut : Ev → Fl :=
    (gSeq (gOwn 2 (fLst fNil))
    (gSeq (gAsg (fC (.int 0)) (hName 3))
    (gSeq (gFor (sSeq (fVar 1)) (hName 4) l__cut_1)
    (gLet 2 (gRet (fVar 2))))))
def F__cut : List D → R D := runF 5 m__cut
abbrev s_compare : Stmt := topS 3
abbrev n_compare : List Str := ["a", "b", "left", "right"]
theorem sc_compare : FnScope ["a", "b", "left", "right"] ["a", "b"] (defScope s_compare) := ⟨rfl, rfl, rfl, by decide +kernel, rfl, by decide +kernel, by decide +kernel⟩
def m_compare : Ev → Fl :=
    (gSeq (gAsg (fBin gMul (fBin gIx (fVar 0) (fC (.int 0))) (fBin gIx (fVar 1) (fC (.int 1)))) (hName 2))
    (gSeq (gAsg (fBin gMul (fBin gIx (fVar 1) (fC (.int 0))) (fBin gIx (fVar 0) (fC (.int 1)))) (hName 3))
    (gSeq (gIfS (bVal (fBin (gCmp fun i j => decide (i < j)) (fVar 2) (fVar 3))) (gRet (fUn gNeg (fC (.int 1)))) gNext)
    (gSeq (gIfS (bVal (fBin (gCmp fun i j => decide (j < i)) (fVar 2) (fVar 3))) (gRet (fC (.int 1))) gNext)
    (gRet (fC (.int 0)))))))
def F_compare : List D → R D := runF 4 m_compare
abbrev s__starts : Stmt := topS 13
abbrev n__starts : List Str := ["line", "other", "left", "found", "start", "_", "piece"]
theorem sc__starts : FnScope ["line", "other", "left", "found", "start", "_", "piece"] ["line", "other"] (defScope s__starts) := ⟨rfl, rfl, rfl, by decide +kernel, rfl, by decide +kernel, by decide +kernel⟩
def l__starts_1 : Ev → Fl :=
    (gAppX 3 (xPopAt 2 (xE (fCons (fC (.int 0)) fNil))))
def l__starts_2 : Ev → Fl :=
    (gSeq (gWhile (bAnd (bOwn 2) (bVal (fBin (gCmp fun i j => decide (i < j)) (fCallD F_compare (fCons (fIxO 2 (fC (.int 0))) (fCons (fVar 4) fNil))) (fC (.int 0))))) l__starts_1 100000)
    (gSeq (gIfS (bAnd (bOwn 2) (bVal (fBin gEq (fIxO 2 (fC (.int 0))) (fVar 4)))) (gDropX (xPopAt 2 (xE (fCons (fC (.int 0)) fNil)))) gNext)
    (gApp 3 (fVar 4))))
def m__starts : Ev → Fl :=
    (gSeq (gOwn 2 (fLc (sSeq (fVar 1)) (hName 6) bYes (fBin gIx (fVar 6) (fC (.int 0))) [6]))
    (gSeq (gOwn 3 (fLst fNil))
    (gSeq (gFor (sSeq (fVar 0)) (hTup 3 (hCons (hName 4) (hCons (hName 5) (hCons (hName 5) hNil)))) l__starts_2)
    (gLet 2 (gLet 3 (gRet (fBin gAdd (fVar 3) (fVar 2))))))))
def F__starts : List D → R D := runF 7 m__starts
abbrev s__side_by_side : Stmt := topS 12
abbrev n__side_by_side : List Str := ["line", "other", "starts"]
theorem sc__side_by_side : FnScope ["line", "other", "starts"] ["line", "other"] (defScope s__side_by_side) := ⟨rfl, rfl, rfl, by decide +kernel, rfl, by decide +kernel, by decide +kernel⟩
def m__side_by_side : Ev → Fl :=
    (gSeq (gAsg (fCallD F__starts (fCons (fVar 0) (fCons (fVar 1) fNil))) (hName 2))
    (gRet (fListZip (fCons (fCallD F__cut (fCons (fVar 0) (fCons (fVar 2) fNil))) (fCons (fCallD F__cut (fCons (fVar 1) (fCons (fVar 2) fNil))) fNil)))))
def F__side_by_side : List D → R D := runF 3 m__side_by_side
abbrev s_add_lines : Stmt := topS 9
abbrev n_add_lines : List Str := ["line", "other", "one", "two"]
theorem sc_add_lines : FnScope ["line", "other", "one", "two"] ["line", "other"] (defScope s_add_lines) := ⟨rfl, rfl, rfl, by decide +kernel, rfl, by decide +kernel, by decide +kernel⟩
def m_add_lines : Ev → Fl :=
    (gRet (fCallD F__joined (fCons (fLc (sSeq (fCallD F__side_by_side (fCons (fVar 0) (fCons (fVar 1) fNil)))) (hTup 2 (hCons (hName 2) (hCons (hName 3) hNil))) bYes (fTup (fCons (fBin gIx (fVar 2) (fC (.int 0))) (fCons (fCallD F_plus (fCons (fBin gIx (fVar 2) (fC (.int 1))) (fCons (fBin gIx (fVar 3) (fC (.int 1))) fNil))) (fCons (fCallD F_plus (fCons (fBin gIx (fVar 2) (fC (.int 2))) (fCons (fBin gIx (fVar 3) (fC (.int 2))) fNil))) fNil)))) [2, 3]) fNil)))
def F_add_lines : List D → R D := runF 4 m_add_lines
def mL_add_lines : Ev → Fl :=
    (gRetL (fCallL FL__joined (fCons (fLc (sSeq (fCallD F__side_by_side (fCons (fVar 0) (fCons (fVar 1) fNil)))) (hTup 2 (hCons (hName 2) (hCons (hName 3) hNil))) bYes (fTup (fCons (fBin gIx (fVar 2) (fC (.int 0))) (fCons (fCallD F_plus (fCons (fBin gIx (fVar 2) (fC (.int 1))) (fCons (fBin gIx (fVar 3) (fC (.int 1))) fNil))) (fCons (fCallD F_plus (fCons (fBin gIx (fVar 2) (fC (.int 2))) (fCons (fBin gIx (fVar 3) (fC (.int 2))) fNil))) fNil)))) [2, 3]) fNil)))
def FL_add_lines : List D → R (List D) := runL 4 mL_add_lines
abbrev s_scale_line : Stmt := topS 10
abbrev n_scale_line : List Str := ["line", "number", "start", "value", "slope"]
theorem sc_scale_line : FnScope ["line", "number", "start", "value", "slope"] ["line", "number"] (defScope s_scale_line) := ⟨rfl, rfl, rfl, by decide +kernel, rfl, by decide +kernel, by decide +kernel⟩
def m_scale_line : Ev → Fl :=
    (gRet (fCallD F__joined (fCons (fLc (sSeq (fVar 0)) (hTup 3 (hCons (hName 2) (hCons (hName 3) (hCons (hName 4) hNil)))) bYes (fTup (fCons (fVar 2) (fCons (fCallD F_times (fCons (fVar 3) (fCons (fVar 1) fNil))) (fCons (fCallD F_times (fCons (fVar 4) (fCons (fVar 1) fNil))) fNil)))) [2, 3, 4]) fNil)))
def F_scale_line : List D → R D := runF 5 m_scale_line
def mL_scale_line : Ev → Fl :=
    (gRetL (fCallL FL__joined (fCons (fLc (sSeq (fVar 0)) (hTup 3 (hCons (hName 2) (hCons (hName 3) (hCons (hName 4) hNil)))) bYes (fTup (fCons (fVar 2) (fCons (fCallD F_times (fCons (fVar 3) (fCons (fVar 1) fNil))) (fCons (fCallD F_times (fCons (fVar 4) (fCons (fVar 1) fNil))) fNil)))) [2, 3, 4]) fNil)))
def FL_scale_line : List D → R (List D) := runL 5 mL_scale_line
abbrev s_law : Stmt := topS 33
abbrev n_law : List Str := ["script", "stream", "by", "kept", "found", "times_v", "x", "line", "other"]
theorem sc_law : FnScope ["script", "stream", "by", "kept", "found", "times_v", "x", "line", "other"] ["script"] (defScope s_law) := ⟨rfl, rfl, rfl, by decide +kernel, rfl, by decide +kernel, by decide +kernel⟩
def l_law_1 : Ev → Fl :=
    (gIfS (bLend 5 (bVal (fBin gNe (fCallD F__law_tells (fCons (fVar 5) (fCons (fVar 6) fNil))) (fCallD F__law_times (fCons (fVar 2) (fCons (fCallD F__law_tells (fCons (fVar 7) (fCons (fVar 6) fNil))) fNil)))))) (gRet (fC (.bool false))) gNext)
def l_law_2 : Ev → Fl :=
    (gIfS (bLend 4 (bVal (fBin gNe (fCallD F__law_tells (fCons (fVar 4) (fCons (fVar 6) fNil))) (fCallD F__law_plus (fCons (fCallD F__law_tells (fCons (fVar 7) (fCons (fVar 6) fNil))) (fCons (fCallD F__law_tells (fCons (fVar 8) (fCons (fVar 6) fNil))) fNil)))))) (gRet (fC (.bool false))) gNext)
def m_law : Ev → Fl :=
    (gSeq (gOwn 1 (fLst (fCons (fCall gList (fCons (fVar 0) fNil)) (fCons (fC (.int 0)) (fCons (fC (.int 0)) fNil)))))
    (gSeq (gParX 7 8 (xCons (xCallM 1 F__law_line (xHere (xE fNil))) (xCons (xCallM 1 F__law_line (xHere (xE fNil))) (xE fNil))))
    (gSeq (gIfX (xVal (xBin gEq (xCallM 1 F__law_draw (xHere (xE (fCons (fC (.int 4)) fNil)))) (xE (fC (.int 0))))) (gAsgX (xCallM 1 F__law_same_starts (xHere (xE (fCons (fVar 7) fNil)))) (hName 8)) gNext)
    (gSeq (gAsgX (xCallM 1 F__law_amount (xHere (xE fNil))) (hName 2))
    (gSeq (gAsg (fCall gRepr (fCons (fTup (fCons (fVar 7) (fCons (fVar 8) fNil))) fNil)) (hName 3))
    (gSeq (gOwn 4 (fCallL FL_add_lines (fCons (fVar 7) (fCons (fVar 8) fNil))))
    (gSeq (gOwn 5 (fCallL FL_scale_line (fCons (fVar 7) (fCons (fVar 2) fNil))))
    (gSeq (gIfS (bLend 5 (bLend 4 (bOr (bNot (bTru (fCallD F__law_is_line (fCons (fVar 4) fNil)))) (bOr (bNot (bTru (fCallD F__law_is_line (fCons (fVar 5) fNil)))) (bVal (fBin gNeS (fCall gRepr (fCons (fTup (fCons (fVar 7) (fCons (fVar 8) fNil))) fNil)) (fVar 3))))))) (gRet (fC (.bool false))) gNext)
    (gSeq (gFor (sLendL 4 (fCallL FL__law_places (fCons (fLst (fCons (fVar 7) (fCons (fVar 8) (fCons (fVar 4) fNil)))) fNil))) (hName 6) l_law_2)
    (gSeq (gFor (sLendL 5 (fCallL FL__law_places (fCons (fLst (fCons (fVar 7) (fCons (fVar 5) fNil))) fNil))) (hName 6) l_law_1)
    (gSeq (gIfS (bLend 4 (bVal (fBin gNe (fCallD F_add_lines (fCons (fVar 8) (fCons (fVar 7) fNil))) (fVar 4)))) (gRet (fC (.bool false))) gNext)
    (gSeq (gClr 4)
    (gSeq (gClr 5)
    (gRet (fBin gEqS (fCall gRepr (fCons (fTup (fCons (fVar 7) (fCons (fVar 8) fNil))) fNil)) (fVar 3))))))))))))))))
def F_law : List D → R D := runF 9 m_law
section
variable {P : Program} {w : World} {K : PySem.W.Frag} {mg : Str → Option Value} {base : Heap}
set_option maxHeartbeats 16000000 in
theorem ok__joined {a__joined : Addr} {fd__joined : FuncData} (D__joined : Dn K mg "_joined" s__joined ["pieces"] a__joined fd__joined) :
    FnOk P w K mg base (L2N.CX P w) 1 a__joined fd__joined ["pieces"] (spD K mg 1 F__joined) := by
  refine def_ok (G := m__joined) D__joined.fn sc__joined rfl fun cdv A outer s H E X hX hr po tk => ?_
  subst hX
  have nd := sc__joined.nd
  exact ⟨_, (ss_cons (s_own 1 nd (l_sl (j_var 0) o_none (o_some j_int)))
      (ss_cons (s_for po rfl (i_seq (j_sl (j_var 0) (o_some j_int) o_none)) (g_name 2 nd) (ss_one (s_if (t_ne hr.units (j_ix (j_var 2) j_int) (j_ix (j_ixO 1 (j_neg j_int)) j_int)) (ss_one (s_app 1 (j_var 2))) ss_nil)))
      (ss_one (s_let 1 (s_ret (j_var 1))))))⟩
set_option maxHeartbeats 16000000 in
theorem okL__joined {a__joined : Addr} {fd__joined : FuncData} (D__joined : Dn K mg "_joined" s__joined ["pieces"] a__joined fd__joined) :
    FnOk P w K mg base (L2N.CX P w) 1 a__joined fd__joined ["pieces"] (spL K mg 1 FL__joined) := by
  refine def_okL (G := mL__joined) D__joined.fn sc__joined rfl fun cdv A outer s H E X hX hr po tk => ?_
  subst hX
  have nd := sc__joined.nd
  exact ⟨_, (ss_cons (s_own 1 nd (l_sl (j_var 0) o_none (o_some j_int)))
      (ss_cons (s_for po rfl (i_seq (j_sl (j_var 0) (o_some j_int) o_none)) (g_name 2 nd) (ss_one (s_if (t_ne hr.units (j_ix (j_var 2) j_int) (j_ix (j_ixO 1 (j_neg j_int)) j_int)) (ss_one (s_app 1 (j_var 2))) ss_nil)))
      (ss_one (s_retO 1))))⟩
set_option maxHeartbeats 16000000 in
theorem ok__law_draw {a__law_draw : Addr} {fd__law_draw : FuncData} (D__law_draw : Dn K mg "_law_draw" s__law_draw ["stream", "many"] a__law_draw fd__law_draw) (z_int : mg "int" = none) (z_len : mg "len" = none) :
    FnOk P w K mg base (L2N.CX P w) 1 a__law_draw fd__law_draw ["stream", "many"] (spM K 0 2 F__law_draw) := by
  refine def_okM (G := m__law_draw) D__law_draw.fn sc__law_draw rfl fun cdv A outer s H E X hX hr po tk => ?_
  subst hX
  have nd := sc__law_draw.nd
  exact ⟨_, (ss_cons (s_if (t_lt (j_ixO 0 j_int) (j_var 1)) (ss_cons (s_set 3 nd j_int)
      (ss_cons (s_if (t_lt (j_ixO 0 j_int) (j_len z_len (a_cons (j_ixO 0 j_int) a_nil))) (ss_one (s_set 3 nd (j_ix (j_ixO 0 j_int) (j_ixO 0 j_int)))) ss_nil)
      (ss_cons (s_put 0 (j_add (j_ixO 0 j_int) j_int) j_int)
      (ss_cons (s_put 0 (j_var 3) j_int)
      (ss_one (s_if (t_lt (j_var 3) (j_pow j_int j_int)) (ss_cons (s_set 4 nd (j_mod (j_intc z_int (a_cons (j_add (j_mul (j_var 3) j_int) (j_mul (j_ixO 0 j_int) j_int)) a_nil)) j_int))
      (ss_cons (s_set 5 nd (j_mod (j_intc z_int (a_cons (j_add (j_add (j_mul (j_var 4) j_int) (j_mul (j_var 3) j_int)) j_int) a_nil)) j_int))
      (ss_one (s_put 0 (j_add (j_add (j_mul (j_var 5) j_int) (j_var 4)) (j_pow j_int j_int)) j_int)))) ss_nil)))))) ss_nil)
      (ss_cons (s_set 2 nd (j_mod (j_intc z_int (a_cons (j_ixO 0 j_int) a_nil)) (j_var 1)))
      (ss_cons (s_put 0 (j_div (j_intc z_int (a_cons (j_ixO 0 j_int) a_nil)) (j_var 1)) j_int)
      (ss_one (xs_retM 0 (x_of (j_var 2)))))))⟩
set_option maxHeartbeats 16000000 in
theorem ok__law_number {a__law_number : Addr} {fd__law_number : FuncData} (D__law_number : Dn K mg "_law_number" s__law_number ["n", "d"] a__law_number fd__law_number) (z_abs : mg "abs" = none) (z_int : mg "int" = none) :
    FnOk P w K mg base (L2N.CX P w) 1 a__law_number fd__law_number ["n", "d"] (spD K mg 2 F__law_number) := by
  refine def_ok (G := m__law_number) D__law_number.fn sc__law_number rfl fun cdv A outer s H E X hX hr po tk => ?_
  subst hX
  have nd := sc__law_number.nd
  exact ⟨_, (ss_cons (s_if (t_lt (j_var 1) j_int) (ss_one (s_par 0 1 rfl nd (a_cons (j_sub j_int (j_var 0)) (a_cons (j_sub j_int (j_var 1)) a_nil)))) ss_nil)
      (ss_cons (s_par 2 3 rfl nd (a_cons (j_abs z_abs (a_cons (j_var 0) a_nil)) (a_cons (j_var 1) a_nil)))
      (ss_cons (s_while 100000 po (t_ne hr.units (j_var 3) j_int) (ss_one (s_par 2 3 rfl nd (a_cons (j_var 3) (a_cons (j_mod (j_intc z_int (a_cons (j_var 2) a_nil)) (j_var 3)) a_nil)))))
      (ss_one (s_ret (j_tup (a_cons (j_div (j_var 0) (j_var 2)) (a_cons (j_div (j_var 1) (j_var 2)) a_nil))))))))⟩
set_option maxHeartbeats 16000000 in
theorem ok__law_amount {a__law_amount : Addr} {fd__law_amount : FuncData} {a__law_draw : Addr} {fd__law_draw : FuncData} {a__law_number : Addr} {fd__law_number : FuncData} (D__law_amount : Dn K mg "_law_amount" s__law_amount ["stream"] a__law_amount fd__law_amount)
    (D__law_draw : Dn K mg "_law_draw" s__law_draw ["stream", "many"] a__law_draw fd__law_draw) (G__law_draw : FnOk P w K mg base (L2N.CX P w) 1 a__law_draw fd__law_draw ["stream", "many"] (spM K 0 2 F__law_draw))
    (D__law_number : Dn K mg "_law_number" s__law_number ["n", "d"] a__law_number fd__law_number) (G__law_number : FnOk P w K mg base (L2N.CX P w) 1 a__law_number fd__law_number ["n", "d"] (spD K mg 2 F__law_number)) :
    FnOk P w K mg base (L2N.CX P w) 2 a__law_amount fd__law_amount ["stream"] (spM K 0 1 F__law_amount) := by
  refine def_okM (G := m__law_amount) D__law_amount.fn sc__law_amount rfl fun cdv A outer s H E X hX hr po tk => ?_
  subst hX
  have nd := sc__law_amount.nd
  exact ⟨_, (ss_cons (xs_if (xt_eq hr.units (x_callM tk G__law_draw (hr.mono (by decide)) D__law_draw.gl D__law_draw.fn.kp D__law_draw.bd (xh_here 0 (xa_of (a_cons j_int a_nil))) (xhere_n (xe_n (cons_n nil_n)))) (x_of j_int)) (ss_one (xs_retM 0 (x_of (j_tup (a_cons j_int (a_cons j_int a_nil)))))) ss_nil)
      (ss_cons (xs_set 1 nd (x_sub (x_callM tk G__law_draw (hr.mono (by decide)) D__law_draw.gl D__law_draw.fn.kp D__law_draw.bd (xh_here 0 (xa_of (a_cons j_int a_nil))) (xhere_n (xe_n (cons_n nil_n)))) (x_of j_int)))
      (ss_cons (xs_if (xt_eq hr.units (x_callM tk G__law_draw (hr.mono (by decide)) D__law_draw.gl D__law_draw.fn.kp D__law_draw.bd (xh_here 0 (xa_of (a_cons j_int a_nil))) (xhere_n (xe_n (cons_n nil_n)))) (x_of j_int)) (ss_one (s_set 1 nd (j_add (j_mul (j_var 1) j_int) j_int))) ss_nil)
      (ss_one (xs_retM 0 (x_call tk G__law_number (hr.mono (by decide)) D__law_number.gl D__law_number.fn.kp D__law_number.bd (xa_cons (x_of (j_var 1)) (xa_cons (x_ix (x_of (jl_e (l_lst (a_cons j_int (a_cons j_int (a_cons j_int (a_cons j_int (a_cons j_int a_nil)))))))) (x_callM tk G__law_draw (hr.mono (by decide)) D__law_draw.gl D__law_draw.fn.kp D__law_draw.bd (xh_here 0 (xa_of (a_cons j_int a_nil))) (xhere_n (xe_n (cons_n nil_n))))) (xa_of a_nil))) (xcons_n (xcons_n (xe_n nil_n)))))))))⟩
set_option maxHeartbeats 16000000 in
theorem ok__law_is_number {a__law_is_number : Addr} {fd__law_is_number : FuncData} {a__law_number : Addr} {fd__law_number : FuncData} (D__law_is_number : Dn K mg "_law_is_number" s__law_is_number ["actual"] a__law_is_number fd__law_is_number)
    (D__law_number : Dn K mg "_law_number" s__law_number ["n", "d"] a__law_number fd__law_number) (G__law_number : FnOk P w K mg base (L2N.CX P w) 1 a__law_number fd__law_number ["n", "d"] (spD K mg 2 F__law_number)) (z_bool : mg "bool" = none) (z_int : mg "int" = none) (z_isinstance : mg "isinstance" = none) (z_len : mg "len" = none) (z_tuple : mg "tuple" = none) :
    FnOk P w K mg base (L2N.CX P w) 2 a__law_is_number fd__law_is_number ["actual"] (spD K mg 1 F__law_is_number) := by
  refine def_ok (G := m__law_is_number) D__law_is_number.fn sc__law_is_number rfl fun cdv A outer s H E X hX hr po tk => ?_
  subst hX
  have nd := sc__law_is_number.nd
  exact ⟨_, (ss_cons (s_if (t_w (w_or (t_not (t_tru (j_isi "tuple" z_isinstance z_tuple (j_var 0) (by decide +kernel)))) (w_or1 (t_ne hr.units (j_len z_len (a_cons (j_var 0) a_nil)) j_int)))) (ss_one (s_ret j_bl)) ss_nil)
      (ss_cons (s_for po rfl (i_seq (j_var 0)) (g_name 1 nd) (ss_one (s_if (t_w (w_or (t_not (t_tru (j_isi "int" z_isinstance z_int (j_var 1) (by decide +kernel)))) (w_or1 (t_tru (j_isi "bool" z_isinstance z_bool (j_var 1) (by decide +kernel)))))) (ss_one (s_ret j_bl)) ss_nil)))
      (ss_one (s_ret (j_and (j_gt (j_ix (j_var 0) j_int) j_int) (j_one (j_eq hr.units (j_call tk G__law_number (hr.mono (by decide)) D__law_number.gl D__law_number.fn.kp D__law_number.bd (a_cons (j_ix (j_var 0) j_int) (a_cons (j_ix (j_var 0) j_int) a_nil)) (cons_n (cons_n nil_n))) (j_var 0))))))))⟩
set_option maxHeartbeats 16000000 in
theorem ok__law_less {a__law_less : Addr} {fd__law_less : FuncData} (D__law_less : Dn K mg "_law_less" s__law_less ["a", "b"] a__law_less fd__law_less) :
    FnOk P w K mg base (L2N.CX P w) 1 a__law_less fd__law_less ["a", "b"] (spD K mg 2 F__law_less) := by
  refine def_ok (G := m__law_less) D__law_less.fn sc__law_less rfl fun cdv A outer s H E X hX hr po tk => ?_
  subst hX
  have nd := sc__law_less.nd
  exact ⟨_, (ss_one (s_ret (j_lt (j_mul (j_ix (j_var 0) j_int) (j_ix (j_var 1) j_int)) (j_mul (j_ix (j_var 1) j_int) (j_ix (j_var 0) j_int)))))⟩
set_option maxHeartbeats 16000000 in
theorem ok__law_plus {a__law_plus : Addr} {fd__law_plus : FuncData} {a__law_number : Addr} {fd__law_number : FuncData} (D__law_plus : Dn K mg "_law_plus" s__law_plus ["a", "b"] a__law_plus fd__law_plus)
    (D__law_number : Dn K mg "_law_number" s__law_number ["n", "d"] a__law_number fd__law_number) (G__law_number : FnOk P w K mg base (L2N.CX P w) 1 a__law_number fd__law_number ["n", "d"] (spD K mg 2 F__law_number)) :
    FnOk P w K mg base (L2N.CX P w) 2 a__law_plus fd__law_plus ["a", "b"] (spD K mg 2 F__law_plus) := by
  refine def_ok (G := m__law_plus) D__law_plus.fn sc__law_plus rfl fun cdv A outer s H E X hX hr po tk => ?_
  subst hX
  have nd := sc__law_plus.nd
  exact ⟨_, (ss_one (s_ret (j_call tk G__law_number (hr.mono (by decide)) D__law_number.gl D__law_number.fn.kp D__law_number.bd (a_cons (j_add (j_mul (j_ix (j_var 0) j_int) (j_ix (j_var 1) j_int)) (j_mul (j_ix (j_var 1) j_int) (j_ix (j_var 0) j_int))) (a_cons (j_mul (j_ix (j_var 0) j_int) (j_ix (j_var 1) j_int)) a_nil)) (cons_n (cons_n nil_n)))))⟩
set_option maxHeartbeats 16000000 in
theorem ok__law_minus {a__law_minus : Addr} {fd__law_minus : FuncData} {a__law_plus : Addr} {fd__law_plus : FuncData} (D__law_minus : Dn K mg "_law_minus" s__law_minus ["a", "b"] a__law_minus fd__law_minus)
    (D__law_plus : Dn K mg "_law_plus" s__law_plus ["a", "b"] a__law_plus fd__law_plus) (G__law_plus : FnOk P w K mg base (L2N.CX P w) 2 a__law_plus fd__law_plus ["a", "b"] (spD K mg 2 F__law_plus)) :
    FnOk P w K mg base (L2N.CX P w) 3 a__law_minus fd__law_minus ["a", "b"] (spD K mg 2 F__law_minus) := by
  refine def_ok (G := m__law_minus) D__law_minus.fn sc__law_minus rfl fun cdv A outer s H E X hX hr po tk => ?_
  subst hX
  have nd := sc__law_minus.nd
  exact ⟨_, (ss_one (s_ret (j_call tk G__law_plus (hr.mono (by decide)) D__law_plus.gl D__law_plus.fn.kp D__law_plus.bd (a_cons (j_var 0) (a_cons (j_tup (a_cons (j_sub j_int (j_ix (j_var 1) j_int)) (a_cons (j_ix (j_var 1) j_int) a_nil))) a_nil)) (cons_n (cons_n nil_n)))))⟩
set_option maxHeartbeats 16000000 in
theorem ok__law_times {a__law_times : Addr} {fd__law_times : FuncData} {a__law_number : Addr} {fd__law_number : FuncData} (D__law_times : Dn K mg "_law_times" s__law_times ["a", "b"] a__law_times fd__law_times)
    (D__law_number : Dn K mg "_law_number" s__law_number ["n", "d"] a__law_number fd__law_number) (G__law_number : FnOk P w K mg base (L2N.CX P w) 1 a__law_number fd__law_number ["n", "d"] (spD K mg 2 F__law_number)) :
    FnOk P w K mg base (L2N.CX P w) 2 a__law_times fd__law_times ["a", "b"] (spD K mg 2 F__law_times) := by
  refine def_ok (G := m__law_times) D__law_times.fn sc__law_times rfl fun cdv A outer s H E X hX hr po tk => ?_
  subst hX
  have nd := sc__law_times.nd
  exact ⟨_, (ss_one (s_ret (j_call tk G__law_number (hr.mono (by decide)) D__law_number.gl D__law_number.fn.kp D__law_number.bd (a_cons (j_mul (j_ix (j_var 0) j_int) (j_ix (j_var 1) j_int)) (a_cons (j_mul (j_ix (j_var 0) j_int) (j_ix (j_var 1) j_int)) a_nil)) (cons_n (cons_n nil_n)))))⟩
set_option maxHeartbeats 16000000 in
theorem ok__law_piece_tells {a__law_piece_tells : Addr} {fd__law_piece_tells : FuncData} {a__law_minus : Addr} {fd__law_minus : FuncData} {a__law_plus : Addr} {fd__law_plus : FuncData} {a__law_times : Addr} {fd__law_times : FuncData} (D__law_piece_tells : Dn K mg "_law_piece_tells" s__law_piece_tells ["piece", "x"] a__law_piece_tells fd__law_piece_tells)
    (D__law_minus : Dn K mg "_law_minus" s__law_minus ["a", "b"] a__law_minus fd__law_minus) (G__law_minus : FnOk P w K mg base (L2N.CX P w) 3 a__law_minus fd__law_minus ["a", "b"] (spD K mg 2 F__law_minus))
    (D__law_plus : Dn K mg "_law_plus" s__law_plus ["a", "b"] a__law_plus fd__law_plus) (G__law_plus : FnOk P w K mg base (L2N.CX P w) 2 a__law_plus fd__law_plus ["a", "b"] (spD K mg 2 F__law_plus))
    (D__law_times : Dn K mg "_law_times" s__law_times ["a", "b"] a__law_times fd__law_times) (G__law_times : FnOk P w K mg base (L2N.CX P w) 2 a__law_times fd__law_times ["a", "b"] (spD K mg 2 F__law_times)) :
    FnOk P w K mg base (L2N.CX P w) 4 a__law_piece_tells fd__law_piece_tells ["piece", "x"] (spD K mg 2 F__law_piece_tells) := by
  refine def_ok (G := m__law_piece_tells) D__law_piece_tells.fn sc__law_piece_tells rfl fun cdv A outer s H E X hX hr po tk => ?_
  subst hX
  have nd := sc__law_piece_tells.nd
  exact ⟨_, (ss_one (s_ret (j_call tk G__law_plus (hr.mono (by decide)) D__law_plus.gl D__law_plus.fn.kp D__law_plus.bd (a_cons (j_ix (j_var 0) j_int) (a_cons (j_call tk G__law_times (hr.mono (by decide)) D__law_times.gl D__law_times.fn.kp D__law_times.bd (a_cons (j_ix (j_var 0) j_int) (a_cons (j_call tk G__law_minus (hr.mono (by decide)) D__law_minus.gl D__law_minus.fn.kp D__law_minus.bd (a_cons (j_var 1) (a_cons (j_ix (j_var 0) j_int) a_nil)) (cons_n (cons_n nil_n))) a_nil)) (cons_n (cons_n nil_n))) a_nil)) (cons_n (cons_n nil_n)))))⟩
set_option maxHeartbeats 16000000 in
theorem ok__law_is_line {a__law_is_line : Addr} {fd__law_is_line : FuncData} {a__law_is_number : Addr} {fd__law_is_number : FuncData} {a__law_less : Addr} {fd__law_less : FuncData} {a__law_piece_tells : Addr} {fd__law_piece_tells : FuncData} (D__law_is_line : Dn K mg "_law_is_line" s__law_is_line ["pieces"] a__law_is_line fd__law_is_line)
    (D__law_is_number : Dn K mg "_law_is_number" s__law_is_number ["actual"] a__law_is_number fd__law_is_number) (G__law_is_number : FnOk P w K mg base (L2N.CX P w) 2 a__law_is_number fd__law_is_number ["actual"] (spD K mg 1 F__law_is_number))
    (D__law_less : Dn K mg "_law_less" s__law_less ["a", "b"] a__law_less fd__law_less) (G__law_less : FnOk P w K mg base (L2N.CX P w) 1 a__law_less fd__law_less ["a", "b"] (spD K mg 2 F__law_less))
    (D__law_piece_tells : Dn K mg "_law_piece_tells" s__law_piece_tells ["piece", "x"] a__law_piece_tells fd__law_piece_tells) (G__law_piece_tells : FnOk P w K mg base (L2N.CX P w) 4 a__law_piece_tells fd__law_piece_tells ["piece", "x"] (spD K mg 2 F__law_piece_tells)) (z_all : mg "all" = none) (z_isinstance : mg "isinstance" = none) (z_len : mg "len" = none) (z_list : mg "list" = none) (z_range : mg "range" = none) (z_tuple : mg "tuple" = none) :
    FnOk P w K mg base (L2N.CX P w) 5 a__law_is_line fd__law_is_line ["pieces"] (spD K mg 1 F__law_is_line) := by
  refine def_ok (G := m__law_is_line) D__law_is_line.fn sc__law_is_line rfl fun cdv A outer s H E X hX hr po tk => ?_
  subst hX
  have nd := sc__law_is_line.nd
  exact ⟨_, (ss_cons (s_if (t_w (w_or (t_not (t_tru (j_isi "list" z_isinstance z_list (j_var 0) (by decide +kernel)))) (w_or1 (t_eq hr.units (j_len z_len (a_cons (j_var 0) a_nil)) j_int)))) (ss_one (s_ret j_bl)) ss_nil)
      (ss_cons (s_for po rfl (i_seq (j_var 0)) (g_name 1 nd) (ss_one (s_if (t_w (w_or (t_not (t_tru (j_isi "tuple" z_isinstance z_tuple (j_var 1) (by decide +kernel)))) (w_or (t_ne hr.units (j_len z_len (a_cons (j_var 1) a_nil)) j_int) (w_or1 (t_not (t_tru (j_all rfl z_all (a_cons (jl_e (l_lcC (own := [(Str.ofString "one", 4)]) rfl nd (c_of (i_seq (j_var 1))) (by show blkC n__law_is_line (defScope s__law_is_line) _ _ = true; decide +kernel) (fun _ _ _ _ _ => (gw_name 4 nd)) (fun _ _ _ _ _ => ts_nil) (fun _ _ _ _ _ => (j_callB G__law_is_number (hr.mono (by decide)) D__law_is_number.gl D__law_is_number.fn.kp D__law_is_number.bd (a_cons (j_var 4) a_nil) (cons_n nil_n))))) a_nil)))))))) (ss_one (s_ret j_bl)) ss_nil)))
      (ss_cons (s_if (t_ne hr.units (j_ix (j_ix (j_var 0) j_int) j_int) (j_tup (a_cons j_int (a_cons j_int a_nil)))) (ss_one (s_ret j_bl)) ss_nil)
      (ss_cons (s_for po rfl (i_rng2 z_range (a_cons j_int (a_cons (j_len z_len (a_cons (j_var 0) a_nil)) a_nil))) (g_name 2 nd) (ss_cons (s_par 1 3 rfl nd (a_cons (j_ix (j_var 0) (j_sub (j_var 2) j_int)) (a_cons (j_ix (j_var 0) (j_var 2)) a_nil)))
      (ss_one (s_if (t_w (w_or (t_not (t_tru (j_call tk G__law_less (hr.mono (by decide)) D__law_less.gl D__law_less.fn.kp D__law_less.bd (a_cons (j_ix (j_var 1) j_int) (a_cons (j_ix (j_var 3) j_int) a_nil)) (cons_n (cons_n nil_n))))) (w_or (t_eq hr.units (j_ix (j_var 1) j_int) (j_ix (j_var 3) j_int)) (w_or1 (t_ne hr.units (j_call tk G__law_piece_tells (hr.mono (by decide)) D__law_piece_tells.gl D__law_piece_tells.fn.kp D__law_piece_tells.bd (a_cons (j_var 1) (a_cons (j_ix (j_var 3) j_int) a_nil)) (cons_n (cons_n nil_n))) (j_ix (j_var 3) j_int)))))) (ss_one (s_ret j_bl)) ss_nil))))
      (ss_one (s_ret j_bl))))))⟩
set_option maxHeartbeats 16000000 in
theorem ok__law_line {a__law_line : Addr} {fd__law_line : FuncData} {a__law_amount : Addr} {fd__law_amount : FuncData} {a__law_draw : Addr} {fd__law_draw : FuncData} {a__law_number : Addr} {fd__law_number : FuncData} {a__law_plus : Addr} {fd__law_plus : FuncData} {a__law_times : Addr} {fd__law_times : FuncData} (D__law_line : Dn K mg "_law_line" s__law_line ["stream"] a__law_line fd__law_line)
    (D__law_amount : Dn K mg "_law_amount" s__law_amount ["stream"] a__law_amount fd__law_amount) (G__law_amount : FnOk P w K mg base (L2N.CX P w) 2 a__law_amount fd__law_amount ["stream"] (spM K 0 1 F__law_amount))
    (D__law_draw : Dn K mg "_law_draw" s__law_draw ["stream", "many"] a__law_draw fd__law_draw) (G__law_draw : FnOk P w K mg base (L2N.CX P w) 1 a__law_draw fd__law_draw ["stream", "many"] (spM K 0 2 F__law_draw))
    (D__law_number : Dn K mg "_law_number" s__law_number ["n", "d"] a__law_number fd__law_number) (G__law_number : FnOk P w K mg base (L2N.CX P w) 1 a__law_number fd__law_number ["n", "d"] (spD K mg 2 F__law_number))
    (D__law_plus : Dn K mg "_law_plus" s__law_plus ["a", "b"] a__law_plus fd__law_plus) (G__law_plus : FnOk P w K mg base (L2N.CX P w) 2 a__law_plus fd__law_plus ["a", "b"] (spD K mg 2 F__law_plus))
    (D__law_times : Dn K mg "_law_times" s__law_times ["a", "b"] a__law_times fd__law_times) (G__law_times : FnOk P w K mg base (L2N.CX P w) 2 a__law_times fd__law_times ["a", "b"] (spD K mg 2 F__law_times)) (z_range : mg "range" = none) :
    FnOk P w K mg base (L2N.CX P w) 3 a__law_line fd__law_line ["stream"] (spM K 0 1 F__law_line) := by
  refine def_okM (G := m__law_line) D__law_line.fn sc__law_line rfl fun cdv A outer s H E X hX hr po tk => ?_
  subst hX
  have nd := sc__law_line.nd
  exact ⟨_, (ss_cons (xs_par3 3 4 5 rfl nd (xa_cons (x_of (j_tup (a_cons j_int (a_cons j_int a_nil)))) (xa_cons (x_callM tk G__law_amount (hr.mono (by decide)) D__law_amount.gl D__law_amount.fn.kp D__law_amount.bd (xh_here 0 (xa_of a_nil)) (xhere_n (xe_n nil_n))) (xa_cons (x_callM tk G__law_amount (hr.mono (by decide)) D__law_amount.gl D__law_amount.fn.kp D__law_amount.bd (xh_here 0 (xa_of a_nil)) (xhere_n (xe_n nil_n))) (xa_of a_nil)))))
      (ss_cons (s_own 1 nd (l_lst (a_cons (j_tup (a_cons (j_var 3) (a_cons (j_var 4) (a_cons (j_var 5) a_nil)))) a_nil)))
      (ss_cons (xs_for po rfl (xi_rng1 z_range (xa_cons (x_callM tk G__law_draw (hr.mono (by decide)) D__law_draw.gl D__law_draw.fn.kp D__law_draw.bd (xh_here 0 (xa_of (a_cons j_int a_nil))) (xhere_n (xe_n (cons_n nil_n)))) (xa_of a_nil))) (g_name 2 nd) (ss_cons (xs_set 6 nd (x_call tk G__law_number (hr.mono (by decide)) D__law_number.gl D__law_number.fn.kp D__law_number.bd (xa_cons (x_add (x_of j_int) (x_callM tk G__law_draw (hr.mono (by decide)) D__law_draw.gl D__law_draw.fn.kp D__law_draw.bd (xh_here 0 (xa_of (a_cons j_int a_nil))) (xhere_n (xe_n (cons_n nil_n))))) (xa_cons (x_add (x_of j_int) (x_callM tk G__law_draw (hr.mono (by decide)) D__law_draw.gl D__law_draw.fn.kp D__law_draw.bd (xh_here 0 (xa_of (a_cons j_int a_nil))) (xhere_n (xe_n (cons_n nil_n))))) (xa_of a_nil))) (xcons_n (xcons_n (xe_n nil_n)))))
      (ss_cons (s_set 4 nd (j_call tk G__law_plus (hr.mono (by decide)) D__law_plus.gl D__law_plus.fn.kp D__law_plus.bd (a_cons (j_var 4) (a_cons (j_call tk G__law_times (hr.mono (by decide)) D__law_times.gl D__law_times.fn.kp D__law_times.bd (a_cons (j_var 5) (a_cons (j_var 6) a_nil)) (cons_n (cons_n nil_n))) a_nil)) (cons_n (cons_n nil_n))))
      (ss_cons (s_set 3 nd (j_call tk G__law_plus (hr.mono (by decide)) D__law_plus.gl D__law_plus.fn.kp D__law_plus.bd (a_cons (j_var 3) (a_cons (j_var 6) a_nil)) (cons_n (cons_n nil_n))))
      (ss_cons (xs_set 7 nd (x_callM tk G__law_amount (hr.mono (by decide)) D__law_amount.gl D__law_amount.fn.kp D__law_amount.bd (xh_here 0 (xa_of a_nil)) (xhere_n (xe_n nil_n))))
      (ss_cons (s_if (t_eq hr.units (j_var 7) (j_var 5)) (ss_one (s_set 7 nd (j_call tk G__law_plus (hr.mono (by decide)) D__law_plus.gl D__law_plus.fn.kp D__law_plus.bd (a_cons (j_var 7) (a_cons (j_tup (a_cons j_int (a_cons j_int a_nil))) a_nil)) (cons_n (cons_n nil_n))))) ss_nil)
      (ss_cons (s_set 5 nd (j_var 7))
      (ss_one (s_app 1 (j_tup (a_cons (j_var 3) (a_cons (j_var 4) (a_cons (j_var 5) a_nil)))))))))))))
      (ss_one (s_let 1 (xs_retM 0 (x_of (j_var 1))))))))⟩
set_option maxHeartbeats 16000000 in
theorem ok__law_places {a__law_places : Addr} {fd__law_places : FuncData} {a__law_less : Addr} {fd__law_less : FuncData} {a__law_plus : Addr} {fd__law_plus : FuncData} {a__law_times : Addr} {fd__law_times : FuncData} (D__law_places : Dn K mg "_law_places" s__law_places ["lines"] a__law_places fd__law_places)
    (D__law_less : Dn K mg "_law_less" s__law_less ["a", "b"] a__law_less fd__law_less) (G__law_less : FnOk P w K mg base (L2N.CX P w) 1 a__law_less fd__law_less ["a", "b"] (spD K mg 2 F__law_less))
    (D__law_plus : Dn K mg "_law_plus" s__law_plus ["a", "b"] a__law_plus fd__law_plus) (G__law_plus : FnOk P w K mg base (L2N.CX P w) 2 a__law_plus fd__law_plus ["a", "b"] (spD K mg 2 F__law_plus))
    (D__law_times : Dn K mg "_law_times" s__law_times ["a", "b"] a__law_times fd__law_times) (G__law_times : FnOk P w K mg base (L2N.CX P w) 2 a__law_times fd__law_times ["a", "b"] (spD K mg 2 F__law_times)) (z_len : mg "len" = none) (z_range : mg "range" = none) :
    FnOk P w K mg base (L2N.CX P w) 3 a__law_places fd__law_places ["lines"] (spD K mg 1 F__law_places) := by
  refine def_ok (G := m__law_places) D__law_places.fn sc__law_places rfl fun cdv A outer s H E X hX hr po tk => ?_
  subst hX
  have nd := sc__law_places.nd
  exact ⟨_, (ss_cons (s_own 1 nd (l_lst a_nil))
      (ss_cons (s_for po rfl (i_seq (j_var 0)) (g_name 2 nd) (ss_one (s_for po rfl (i_seq (j_var 2)) (g_name 7 nd) (ss_one (s_if (t_lend 1 (t_notInD (room65 hr) (j_ix (j_var 7) j_int) (j_var 1))) (ss_one (s_app 1 (j_ix (j_var 7) j_int))) ss_nil)))))
      (ss_cons (s_set 3 nd (jl_e (l_lst a_nil)))
      (ss_cons (s_let 1 (s_for po rfl (i_seq (j_var 1)) (g_name 4 nd) (ss_cons (s_set 8 nd (j_len z_len (a_cons (jl_e (l_lcC (own := [(Str.ofString "other", 9)]) rfl nd (c_of (i_seq (j_var 3))) (by show blkC n__law_places (defScope s__law_places) _ _ = true; decide +kernel) (fun _ _ _ _ _ => (gw_name 9 nd)) (fun _ _ _ _ _ => (ts_one (t_tru (j_callB G__law_less (hr.mono (by decide)) D__law_less.gl D__law_less.fn.kp D__law_less.bd (a_cons (j_var 9) (a_cons (j_var 4) a_nil)) (cons_n (cons_n nil_n)))))) (fun _ _ _ _ _ => (j_var 9)))) a_nil)))
      (ss_one (s_set 3 nd (j_add (j_add (j_sl (j_var 3) o_none (o_some (j_var 8))) (jl_e (l_lst (a_cons (j_var 4) a_nil)))) (j_sl (j_var 3) (o_some (j_var 8)) o_none)))))))
      (ss_cons (s_own 5 nd (l_lst a_nil))
      (ss_cons (s_for po rfl (i_rng2 z_range (a_cons j_int (a_cons (j_len z_len (a_cons (j_var 3) a_nil)) a_nil))) (g_name 6 nd) (ss_one (s_app 5 (j_call tk G__law_times (hr.mono (by decide)) D__law_times.gl D__law_times.fn.kp D__law_times.bd (a_cons (j_call tk G__law_plus (hr.mono (by decide)) D__law_plus.gl D__law_plus.fn.kp D__law_plus.bd (a_cons (j_ix (j_var 3) (j_sub (j_var 6) j_int)) (a_cons (j_ix (j_var 3) (j_var 6)) a_nil)) (cons_n (cons_n nil_n))) (a_cons (j_tup (a_cons j_int (a_cons j_int a_nil))) a_nil)) (cons_n (cons_n nil_n))))))
      (ss_one (s_let 5 (s_ret (j_add (j_add (j_var 3) (j_var 5)) (jl_e (l_lst (a_cons (j_call tk G__law_plus (hr.mono (by decide)) D__law_plus.gl D__law_plus.fn.kp D__law_plus.bd (a_cons (j_ix (j_var 3) (j_sub (j_len z_len (a_cons (j_var 3) a_nil)) j_int)) (a_cons (j_tup (a_cons j_int (a_cons j_int a_nil))) a_nil)) (cons_n (cons_n nil_n))) a_nil)))))))))))))⟩
set_option maxHeartbeats 16000000 in
theorem okL__law_places {a__law_places : Addr} {fd__law_places : FuncData} {a__law_less : Addr} {fd__law_less : FuncData} {a__law_plus : Addr} {fd__law_plus : FuncData} {a__law_times : Addr} {fd__law_times : FuncData} (D__law_places : Dn K mg "_law_places" s__law_places ["lines"] a__law_places fd__law_places)
    (D__law_less : Dn K mg "_law_less" s__law_less ["a", "b"] a__law_less fd__law_less) (G__law_less : FnOk P w K mg base (L2N.CX P w) 1 a__law_less fd__law_less ["a", "b"] (spD K mg 2 F__law_less))
    (D__law_plus : Dn K mg "_law_plus" s__law_plus ["a", "b"] a__law_plus fd__law_plus) (G__law_plus : FnOk P w K mg base (L2N.CX P w) 2 a__law_plus fd__law_plus ["a", "b"] (spD K mg 2 F__law_plus))
    (D__law_times : Dn K mg "_law_times" s__law_times ["a", "b"] a__law_times fd__law_times) (G__law_times : FnOk P w K mg base (L2N.CX P w) 2 a__law_times fd__law_times ["a", "b"] (spD K mg 2 F__law_times)) (z_len : mg "len" = none) (z_range : mg "range" = none) :
    FnOk P w K mg base (L2N.CX P w) 3 a__law_places fd__law_places ["lines"] (spL K mg 1 FL__law_places) := by
  refine def_okL (G := mL__law_places) D__law_places.fn sc__law_places rfl fun cdv A outer s H E X hX hr po tk => ?_
  subst hX
  have nd := sc__law_places.nd
  exact ⟨_, (ss_cons (s_own 1 nd (l_lst a_nil))
      (ss_cons (s_for po rfl (i_seq (j_var 0)) (g_name 2 nd) (ss_one (s_for po rfl (i_seq (j_var 2)) (g_name 7 nd) (ss_one (s_if (t_lend 1 (t_notInD (room65 hr) (j_ix (j_var 7) j_int) (j_var 1))) (ss_one (s_app 1 (j_ix (j_var 7) j_int))) ss_nil)))))
      (ss_cons (s_set 3 nd (jl_e (l_lst a_nil)))
      (ss_cons (s_let 1 (s_for po rfl (i_seq (j_var 1)) (g_name 4 nd) (ss_cons (s_set 8 nd (j_len z_len (a_cons (jl_e (l_lcC (own := [(Str.ofString "other", 9)]) rfl nd (c_of (i_seq (j_var 3))) (by show blkC n__law_places (defScope s__law_places) _ _ = true; decide +kernel) (fun _ _ _ _ _ => (gw_name 9 nd)) (fun _ _ _ _ _ => (ts_one (t_tru (j_callB G__law_less (hr.mono (by decide)) D__law_less.gl D__law_less.fn.kp D__law_less.bd (a_cons (j_var 9) (a_cons (j_var 4) a_nil)) (cons_n (cons_n nil_n)))))) (fun _ _ _ _ _ => (j_var 9)))) a_nil)))
      (ss_one (s_set 3 nd (j_add (j_add (j_sl (j_var 3) o_none (o_some (j_var 8))) (jl_e (l_lst (a_cons (j_var 4) a_nil)))) (j_sl (j_var 3) (o_some (j_var 8)) o_none)))))))
      (ss_cons (s_own 5 nd (l_lst a_nil))
      (ss_cons (s_for po rfl (i_rng2 z_range (a_cons j_int (a_cons (j_len z_len (a_cons (j_var 3) a_nil)) a_nil))) (g_name 6 nd) (ss_one (s_app 5 (j_call tk G__law_times (hr.mono (by decide)) D__law_times.gl D__law_times.fn.kp D__law_times.bd (a_cons (j_call tk G__law_plus (hr.mono (by decide)) D__law_plus.gl D__law_plus.fn.kp D__law_plus.bd (a_cons (j_ix (j_var 3) (j_sub (j_var 6) j_int)) (a_cons (j_ix (j_var 3) (j_var 6)) a_nil)) (cons_n (cons_n nil_n))) (a_cons (j_tup (a_cons j_int (a_cons j_int a_nil))) a_nil)) (cons_n (cons_n nil_n))))))
      (ss_one (s_let 5 (s_retL (l_add (j_add (j_var 3) (j_var 5)) (jl_e (l_lst (a_cons (j_call tk G__law_plus (hr.mono (by decide)) D__law_plus.gl D__law_plus.fn.kp D__law_plus.bd (a_cons (j_ix (j_var 3) (j_sub (j_len z_len (a_cons (j_var 3) a_nil)) j_int)) (a_cons (j_tup (a_cons j_int (a_cons j_int a_nil))) a_nil)) (cons_n (cons_n nil_n))) a_nil)))))))))))))⟩
set_option maxHeartbeats 16000000 in
theorem ok__law_same_starts {a__law_same_starts : Addr} {fd__law_same_starts : FuncData} {a__law_amount : Addr} {fd__law_amount : FuncData} {a__law_draw : Addr} {fd__law_draw : FuncData} {a__law_piece_tells : Addr} {fd__law_piece_tells : FuncData} {a__law_times : Addr} {fd__law_times : FuncData} (D__law_same_starts : Dn K mg "_law_same_starts" s__law_same_starts ["stream", "line"] a__law_same_starts fd__law_same_starts)
    (D__law_amount : Dn K mg "_law_amount" s__law_amount ["stream"] a__law_amount fd__law_amount) (G__law_amount : FnOk P w K mg base (L2N.CX P w) 2 a__law_amount fd__law_amount ["stream"] (spM K 0 1 F__law_amount))
    (D__law_draw : Dn K mg "_law_draw" s__law_draw ["stream", "many"] a__law_draw fd__law_draw) (G__law_draw : FnOk P w K mg base (L2N.CX P w) 1 a__law_draw fd__law_draw ["stream", "many"] (spM K 0 2 F__law_draw))
    (D__law_piece_tells : Dn K mg "_law_piece_tells" s__law_piece_tells ["piece", "x"] a__law_piece_tells fd__law_piece_tells) (G__law_piece_tells : FnOk P w K mg base (L2N.CX P w) 4 a__law_piece_tells fd__law_piece_tells ["piece", "x"] (spD K mg 2 F__law_piece_tells))
    (D__law_times : Dn K mg "_law_times" s__law_times ["a", "b"] a__law_times fd__law_times) (G__law_times : FnOk P w K mg base (L2N.CX P w) 2 a__law_times fd__law_times ["a", "b"] (spD K mg 2 F__law_times)) (z_len : mg "len" = none) (z_range : mg "range" = none) :
    FnOk P w K mg base (L2N.CX P w) 5 a__law_same_starts fd__law_same_starts ["stream", "line"] (spM K 0 2 F__law_same_starts) := by
  refine def_okM (G := m__law_same_starts) D__law_same_starts.fn sc__law_same_starts rfl fun cdv A outer s H E X hX hr po tk => ?_
  subst hX
  have nd := sc__law_same_starts.nd
  exact ⟨_, (ss_cons (s_own 2 nd (l_lst a_nil))
      (ss_cons (xs_set 3 nd (x_callM tk G__law_amount (hr.mono (by decide)) D__law_amount.gl D__law_amount.fn.kp D__law_amount.bd (xh_here 0 (xa_of a_nil)) (xhere_n (xe_n nil_n))))
      (ss_cons (s_for po rfl (i_rng1 z_range (a_cons (j_len z_len (a_cons (j_var 1) a_nil)) a_nil)) (g_name 4 nd) (ss_cons (s_if (t_gt (j_var 4) j_int) (ss_one (s_set 3 nd (j_call tk G__law_piece_tells (hr.mono (by decide)) D__law_piece_tells.gl D__law_piece_tells.fn.kp D__law_piece_tells.bd (a_cons (j_ixO 2 (j_sub (j_var 4) j_int)) (a_cons (j_ix (j_ix (j_var 1) (j_var 4)) j_int) a_nil)) (cons_n (cons_n nil_n))))) ss_nil)
      (ss_cons (s_set 5 nd (j_call tk G__law_times (hr.mono (by decide)) D__law_times.gl D__law_times.fn.kp D__law_times.bd (a_cons (j_tup (a_cons (j_neg j_int) (a_cons j_int a_nil))) (a_cons (j_ix (j_ix (j_var 1) (j_var 4)) j_int) a_nil)) (cons_n (cons_n nil_n))))
      (ss_cons (xs_if (xt_w (xw_and (xt_eq hr.units (x_callM tk G__law_draw (hr.mono (by decide)) D__law_draw.gl D__law_draw.fn.kp D__law_draw.bd (xh_here 0 (xa_of (a_cons j_int a_nil))) (xhere_n (xe_n (cons_n nil_n)))) (x_of j_int)) (xw_and1 (xt_of (t_eq hr.units (j_len z_len (a_cons (j_var 1) a_nil)) j_int))))) (ss_one (xs_set 5 nd (x_callM tk G__law_amount (hr.mono (by decide)) D__law_amount.gl D__law_amount.fn.kp D__law_amount.bd (xh_here 0 (xa_of a_nil)) (xhere_n (xe_n nil_n))))) ss_nil)
      (ss_one (s_app 2 (j_tup (a_cons (j_ix (j_ix (j_var 1) (j_var 4)) j_int) (a_cons (j_var 3) (a_cons (j_var 5) a_nil))))))))))
      (ss_one (s_let 2 (xs_retM 0 (x_of (j_var 2))))))))⟩
set_option maxHeartbeats 16000000 in
theorem ok__law_tells {a__law_tells : Addr} {fd__law_tells : FuncData} {a__law_less : Addr} {fd__law_less : FuncData} {a__law_piece_tells : Addr} {fd__law_piece_tells : FuncData} (D__law_tells : Dn K mg "_law_tells" s__law_tells ["line", "x"] a__law_tells fd__law_tells)
    (D__law_less : Dn K mg "_law_less" s__law_less ["a", "b"] a__law_less fd__law_less) (G__law_less : FnOk P w K mg base (L2N.CX P w) 1 a__law_less fd__law_less ["a", "b"] (spD K mg 2 F__law_less))
    (D__law_piece_tells : Dn K mg "_law_piece_tells" s__law_piece_tells ["piece", "x"] a__law_piece_tells fd__law_piece_tells) (G__law_piece_tells : FnOk P w K mg base (L2N.CX P w) 4 a__law_piece_tells fd__law_piece_tells ["piece", "x"] (spD K mg 2 F__law_piece_tells)) :
    FnOk P w K mg base (L2N.CX P w) 5 a__law_tells fd__law_tells ["line", "x"] (spD K mg 2 F__law_tells) := by
  refine def_ok (G := m__law_tells) D__law_tells.fn sc__law_tells rfl fun cdv A outer s H E X hX hr po tk => ?_
  subst hX
  have nd := sc__law_tells.nd
  exact ⟨_, (ss_cons (s_set 2 nd (j_ix (j_var 0) j_int))
      (ss_cons (s_for po rfl (i_seq (j_var 0)) (g_name 3 nd) (ss_one (s_if (t_not (t_tru (j_call tk G__law_less (hr.mono (by decide)) D__law_less.gl D__law_less.fn.kp D__law_less.bd (a_cons (j_var 1) (a_cons (j_ix (j_var 3) j_int) a_nil)) (cons_n (cons_n nil_n))))) (ss_one (s_set 2 nd (j_var 3))) ss_nil)))
      (ss_one (s_ret (j_call tk G__law_piece_tells (hr.mono (by decide)) D__law_piece_tells.gl D__law_piece_tells.fn.kp D__law_piece_tells.bd (a_cons (j_var 2) (a_cons (j_var 1) a_nil)) (cons_n (cons_n nil_n)))))))⟩
set_option maxHeartbeats 16000000 in
theorem ok_number {a_number : Addr} {fd_number : FuncData} (D_number : Dn K mg "number" s_number ["n", "d"] a_number fd_number) (z_gcd : mg "gcd" = some (.builtin "math.gcd")) :
    FnOk P w K mg base (L2N.CX P w) 1 a_number fd_number ["n", "d"] (spD K mg 2 F_number) := by
  refine def_ok (G := m_number) D_number.fn sc_number rfl fun cdv A outer s H E X hX hr po tk => ?_
  subst hX
  have nd := sc_number.nd
  exact ⟨_, (ss_cons (s_set 2 nd (j_gcd z_gcd (a_cons (j_var 0) (a_cons (j_var 1) a_nil))))
      (ss_cons (s_if (t_lt (j_var 1) j_int) (ss_one (s_set 2 nd (j_neg (j_var 2)))) ss_nil)
      (ss_one (s_ret (j_tup (a_cons (j_div (j_var 0) (j_var 2)) (a_cons (j_div (j_var 1) (j_var 2)) a_nil)))))))⟩
set_option maxHeartbeats 16000000 in
theorem ok_minus {a_minus : Addr} {fd_minus : FuncData} {a_number : Addr} {fd_number : FuncData} (D_minus : Dn K mg "minus" s_minus ["a", "b"] a_minus fd_minus)
    (D_number : Dn K mg "number" s_number ["n", "d"] a_number fd_number) (G_number : FnOk P w K mg base (L2N.CX P w) 1 a_number fd_number ["n", "d"] (spD K mg 2 F_number)) :
    FnOk P w K mg base (L2N.CX P w) 2 a_minus fd_minus ["a", "b"] (spD K mg 2 F_minus) := by
  refine def_ok (G := m_minus) D_minus.fn sc_minus rfl fun cdv A outer s H E X hX hr po tk => ?_
  subst hX
  have nd := sc_minus.nd
  exact ⟨_, (ss_one (s_ret (j_call tk G_number (hr.mono (by decide)) D_number.gl D_number.fn.kp D_number.bd (a_cons (j_sub (j_mul (j_ix (j_var 0) j_int) (j_ix (j_var 1) j_int)) (j_mul (j_ix (j_var 1) j_int) (j_ix (j_var 0) j_int))) (a_cons (j_mul (j_ix (j_var 0) j_int) (j_ix (j_var 1) j_int)) a_nil)) (cons_n (cons_n nil_n)))))⟩
set_option maxHeartbeats 16000000 in
theorem ok_plus {a_plus : Addr} {fd_plus : FuncData} {a_number : Addr} {fd_number : FuncData} (D_plus : Dn K mg "plus" s_plus ["a", "b"] a_plus fd_plus)
    (D_number : Dn K mg "number" s_number ["n", "d"] a_number fd_number) (G_number : FnOk P w K mg base (L2N.CX P w) 1 a_number fd_number ["n", "d"] (spD K mg 2 F_number)) :
    FnOk P w K mg base (L2N.CX P w) 2 a_plus fd_plus ["a", "b"] (spD K mg 2 F_plus) := by
  refine def_ok (G := m_plus) D_plus.fn sc_plus rfl fun cdv A outer s H E X hX hr po tk => ?_
  subst hX
  have nd := sc_plus.nd
  exact ⟨_, (ss_one (s_ret (j_call tk G_number (hr.mono (by decide)) D_number.gl D_number.fn.kp D_number.bd (a_cons (j_add (j_mul (j_ix (j_var 0) j_int) (j_ix (j_var 1) j_int)) (j_mul (j_ix (j_var 1) j_int) (j_ix (j_var 0) j_int))) (a_cons (j_mul (j_ix (j_var 0) j_int) (j_ix (j_var 1) j_int)) a_nil)) (cons_n (cons_n nil_n)))))⟩
set_option maxHeartbeats 16000000 in
theorem ok_times {a_times : Addr} {fd_times : FuncData} {a_number : Addr} {fd_number : FuncData} (D_times : Dn K mg "times" s_times ["a", "b"] a_times fd_times)
    (D_number : Dn K mg "number" s_number ["n", "d"] a_number fd_number) (G_number : FnOk P w K mg base (L2N.CX P w) 1 a_number fd_number ["n", "d"] (spD K mg 2 F_number)) :
    FnOk P w K mg base (L2N.CX P w) 2 a_times fd_times ["a", "b"] (spD K mg 2 F_times) := by
  refine def_ok (G := m_times) D_times.fn sc_times rfl fun cdv A outer s H E X hX hr po tk => ?_
  subst hX
  have nd := sc_times.nd
  exact ⟨_, (ss_one (s_ret (j_call tk G_number (hr.mono (by decide)) D_number.gl D_number.fn.kp D_number.bd (a_cons (j_mul (j_ix (j_var 0) j_int) (j_ix (j_var 1) j_int)) (a_cons (j_mul (j_ix (j_var 0) j_int) (j_ix (j_var 1) j_int)) a_nil)) (cons_n (cons_n nil_n)))))⟩
set_option maxHeartbeats 16000000 in
theorem ok__told {a__told : Addr} {fd__told : FuncData} {a_minus : Addr} {fd_minus : FuncData} {a_plus : Addr} {fd_plus : FuncData} {a_times : Addr} {fd_times : FuncData} (D__told : Dn K mg "_told" s__told ["piece", "x"] a__told fd__told)
    (D_minus : Dn K mg "minus" s_minus ["a", "b"] a_minus fd_minus) (G_minus : FnOk P w K mg base (L2N.CX P w) 2 a_minus fd_minus ["a", "b"] (spD K mg 2 F_minus))
    (D_plus : Dn K mg "plus" s_plus ["a", "b"] a_plus fd_plus) (G_plus : FnOk P w K mg base (L2N.CX P w) 2 a_plus fd_plus ["a", "b"] (spD K mg 2 F_plus))
    (D_times : Dn K mg "times" s_times ["a", "b"] a_times fd_times) (G_times : FnOk P w K mg base (L2N.CX P w) 2 a_times fd_times ["a", "b"] (spD K mg 2 F_times)) :
    FnOk P w K mg base (L2N.CX P w) 3 a__told fd__told ["piece", "x"] (spD K mg 2 F__told) := by
  refine def_ok (G := m__told) D__told.fn sc__told rfl fun cdv A outer s H E X hX hr po tk => ?_
  subst hX
  have nd := sc__told.nd
  exact ⟨_, (ss_cons (s_asg (j_var 0) (g_tup 3 rfl (g_cons (g_name 2 nd) (g_cons (g_name 3 nd) (g_cons (g_name 4 nd) g_nil)))))
      (ss_one (s_ret (j_call tk G_plus (hr.mono (by decide)) D_plus.gl D_plus.fn.kp D_plus.bd (a_cons (j_var 3) (a_cons (j_call tk G_times (hr.mono (by decide)) D_times.gl D_times.fn.kp D_times.bd (a_cons (j_var 4) (a_cons (j_call tk G_minus (hr.mono (by decide)) D_minus.gl D_minus.fn.kp D_minus.bd (a_cons (j_var 1) (a_cons (j_var 2) a_nil)) (cons_n (cons_n nil_n))) a_nil)) (cons_n (cons_n nil_n))) a_nil)) (cons_n (cons_n nil_n))))))⟩
set_option maxHeartbeats 16000000 in
theorem ok__from {a__from : Addr} {fd__from : FuncData} {a__told : Addr} {fd__told : FuncData} (D__from : Dn K mg "_from" s__from ["piece", "start"] a__from fd__from)
    (D__told : Dn K mg "_told" s__told ["piece", "x"] a__told fd__told) (G__told : FnOk P w K mg base (L2N.CX P w) 3 a__told fd__told ["piece", "x"] (spD K mg 2 F__told)) :
    FnOk P w K mg base (L2N.CX P w) 4 a__from fd__from ["piece", "start"] (spD K mg 2 F__from) := by
  refine def_ok (G := m__from) D__from.fn sc__from rfl fun cdv A outer s H E X hX hr po tk => ?_
  subst hX
  have nd := sc__from.nd
  exact ⟨_, (ss_one (s_ret (j_tup (a_cons (j_var 1) (a_cons (j_call tk G__told (hr.mono (by decide)) D__told.gl D__told.fn.kp D__told.bd (a_cons (j_var 0) (a_cons (j_var 1) a_nil)) (cons_n (cons_n nil_n))) (a_cons (j_ix (j_var 0) j_int) a_nil))))))⟩
set_option maxHeartbeats 16000000 in
theorem ok__cut {a__cut : Addr} {fd__cut : FuncData} {a__from : Addr} {fd__from : FuncData} (D__cut : Dn K mg "_cut" s__cut ["line", "starts"] a__cut fd__cut)
    (D__from : Dn K mg "_from" s__from ["piece", "start"] a__from fd__from) (G__from : FnOk P w K mg base (L2N.CX P w) 4 a__from fd__from ["piece", "start"] (spD K mg 2 F__from)) (z_len : mg "len" = none) :
    FnOk P w K mg base (L2N.CX P w) 5 a__cut fd__cut ["line", "starts"] (spD K mg 2 F__cut) := by
  refine def_ok (G := m__cut) D__cut.fn sc__cut rfl fun cdv A outer s H E X hX hr po tk => ?_
  subst hX
  have nd := sc__cut.nd
  exact ⟨_, (ss_cons (s_own 2 nd (l_lst a_nil))
      (ss_cons (s_set 3 nd j_int)
      (ss_cons (s_for po rfl (i_seq (j_var 1)) (g_name 4 nd) (ss_cons (s_if (t_w (w_and (t_lt (j_add (j_var 3) j_int) (j_len z_len (a_cons (j_var 0) a_nil))) (w_and1 (t_eq hr.units (j_ix (j_ix (j_var 0) (j_add (j_var 3) j_int)) j_int) (j_var 4))))) (ss_one (s_aug 3 nd j_int)) ss_nil)
      (ss_one (s_app 2 (j_call tk G__from (hr.mono (by decide)) D__from.gl D__from.fn.kp D__from.bd (a_cons (j_ix (j_var 0) (j_var 3)) (a_cons (j_var 4) a_nil)) (cons_n (cons_n nil_n)))))))
      (ss_one (s_let 2 (s_ret (j_var 2)))))))⟩
set_option maxHeartbeats 16000000 in
theorem ok_compare {a_compare : Addr} {fd_compare : FuncData} (D_compare : Dn K mg "compare" s_compare ["a", "b"] a_compare fd_compare) :
    FnOk P w K mg base (L2N.CX P w) 1 a_compare fd_compare ["a", "b"] (spD K mg 2 F_compare) := by
  refine def_ok (G := m_compare) D_compare.fn sc_compare rfl fun cdv A outer s H E X hX hr po tk => ?_
  subst hX
  have nd := sc_compare.nd
  exact ⟨_, (ss_cons (s_set 2 nd (j_mul (j_ix (j_var 0) j_int) (j_ix (j_var 1) j_int)))
      (ss_cons (s_set 3 nd (j_mul (j_ix (j_var 1) j_int) (j_ix (j_var 0) j_int)))
      (ss_cons (s_if (t_lt (j_var 2) (j_var 3)) (ss_one (s_ret (j_neg j_int))) ss_nil)
      (ss_cons (s_if (t_gt (j_var 2) (j_var 3)) (ss_one (s_ret j_int)) ss_nil)
      (ss_one (s_ret j_int))))))⟩
set_option maxHeartbeats 16000000 in
theorem ok__starts {a__starts : Addr} {fd__starts : FuncData} {a_compare : Addr} {fd_compare : FuncData} (D__starts : Dn K mg "_starts" s__starts ["line", "other"] a__starts fd__starts)
    (D_compare : Dn K mg "compare" s_compare ["a", "b"] a_compare fd_compare) (G_compare : FnOk P w K mg base (L2N.CX P w) 1 a_compare fd_compare ["a", "b"] (spD K mg 2 F_compare)) :
    FnOk P w K mg base (L2N.CX P w) 2 a__starts fd__starts ["line", "other"] (spD K mg 2 F__starts) := by
  refine def_ok (G := m__starts) D__starts.fn sc__starts rfl fun cdv A outer s H E X hX hr po tk => ?_
  subst hX
  have nd := sc__starts.nd
  exact ⟨_, (ss_cons (s_lcO (s_lcPC (own := [(Str.ofString "piece", 6)]) 2 rfl nd (c_of (i_seq (j_var 1))) (by show blkC n__starts (defScope s__starts) _ _ = true; decide +kernel) (fun _ _ _ _ _ => (gw_name 6 nd)) (fun _ _ _ _ _ => ts_nil) (fun _ _ _ _ _ => (j_ix (j_var 6) j_int))))
      (ss_cons (s_own 3 nd (l_lst a_nil))
      (ss_cons (s_for po rfl (i_seq (j_var 0)) (g_tup 3 rfl (g_cons (g_name 4 nd) (g_cons (g_name 5 nd) (g_cons (g_name 5 nd) g_nil)))) (ss_cons (s_while 100000 po (t_w (w_and (t_own 2) (w_and1 (t_lt (j_call tk G_compare (hr.mono (by decide)) D_compare.gl D_compare.fn.kp D_compare.bd (a_cons (j_ixO 2 j_int) (a_cons (j_var 4) a_nil)) (cons_n (cons_n nil_n))) j_int)))) (ss_one (xs_app 3 (x_popAt 2 (xa_of (a_cons j_int a_nil))))))
      (ss_cons (s_if (t_w (w_and (t_own 2) (w_and1 (t_eq hr.units (j_ixO 2 j_int) (j_var 4))))) (ss_one (xs_expr (x_popAt 2 (xa_of (a_cons j_int a_nil))))) ss_nil)
      (ss_one (s_app 3 (j_var 4))))))
      (ss_one (s_let 2 (s_let 3 (s_ret (j_add (j_var 3) (j_var 2)))))))))⟩
set_option maxHeartbeats 16000000 in
theorem ok__side_by_side {a__side_by_side : Addr} {fd__side_by_side : FuncData} {a__cut : Addr} {fd__cut : FuncData} {a__starts : Addr} {fd__starts : FuncData} (D__side_by_side : Dn K mg "_side_by_side" s__side_by_side ["line", "other"] a__side_by_side fd__side_by_side)
    (D__cut : Dn K mg "_cut" s__cut ["line", "starts"] a__cut fd__cut) (G__cut : FnOk P w K mg base (L2N.CX P w) 5 a__cut fd__cut ["line", "starts"] (spD K mg 2 F__cut))
    (D__starts : Dn K mg "_starts" s__starts ["line", "other"] a__starts fd__starts) (G__starts : FnOk P w K mg base (L2N.CX P w) 2 a__starts fd__starts ["line", "other"] (spD K mg 2 F__starts)) (z_list : mg "list" = none) (z_zip : mg "zip" = none) :
    FnOk P w K mg base (L2N.CX P w) 6 a__side_by_side fd__side_by_side ["line", "other"] (spD K mg 2 F__side_by_side) := by
  refine def_ok (G := m__side_by_side) D__side_by_side.fn sc__side_by_side rfl fun cdv A outer s H E X hX hr po tk => ?_
  subst hX
  have nd := sc__side_by_side.nd
  exact ⟨_, (ss_cons (s_set 2 nd (j_call tk G__starts (hr.mono (by decide)) D__starts.gl D__starts.fn.kp D__starts.bd (a_cons (j_var 0) (a_cons (j_var 1) a_nil)) (cons_n (cons_n nil_n))))
      (ss_one (s_ret (jl_e (l_listZip rfl z_list z_zip (a_cons (j_call tk G__cut (hr.mono (by decide)) D__cut.gl D__cut.fn.kp D__cut.bd (a_cons (j_var 0) (a_cons (j_var 2) a_nil)) (cons_n (cons_n nil_n))) (a_cons (j_call tk G__cut (hr.mono (by decide)) D__cut.gl D__cut.fn.kp D__cut.bd (a_cons (j_var 1) (a_cons (j_var 2) a_nil)) (cons_n (cons_n nil_n))) a_nil)))))))⟩
set_option maxHeartbeats 16000000 in
theorem ok_add_lines {a_add_lines : Addr} {fd_add_lines : FuncData} {a__joined : Addr} {fd__joined : FuncData} {a__side_by_side : Addr} {fd__side_by_side : FuncData} {a_plus : Addr} {fd_plus : FuncData} (D_add_lines : Dn K mg "add_lines" s_add_lines ["line", "other"] a_add_lines fd_add_lines)
    (D__joined : Dn K mg "_joined" s__joined ["pieces"] a__joined fd__joined) (G__joined : FnOk P w K mg base (L2N.CX P w) 1 a__joined fd__joined ["pieces"] (spD K mg 1 F__joined))
    (D__side_by_side : Dn K mg "_side_by_side" s__side_by_side ["line", "other"] a__side_by_side fd__side_by_side) (G__side_by_side : FnOk P w K mg base (L2N.CX P w) 6 a__side_by_side fd__side_by_side ["line", "other"] (spD K mg 2 F__side_by_side))
    (D_plus : Dn K mg "plus" s_plus ["a", "b"] a_plus fd_plus) (G_plus : FnOk P w K mg base (L2N.CX P w) 2 a_plus fd_plus ["a", "b"] (spD K mg 2 F_plus)) :
    FnOk P w K mg base (L2N.CX P w) 7 a_add_lines fd_add_lines ["line", "other"] (spD K mg 2 F_add_lines) := by
  refine def_ok (G := m_add_lines) D_add_lines.fn sc_add_lines rfl fun cdv A outer s H E X hX hr po tk => ?_
  subst hX
  have nd := sc_add_lines.nd
  exact ⟨_, (ss_one (s_ret (j_call tk G__joined (hr.mono (by decide)) D__joined.gl D__joined.fn.kp D__joined.bd (a_cons (jl_e (l_lcC (own := [(Str.ofString "one", 2), (Str.ofString "two", 3)]) rfl nd (c_of (i_seq (j_call tk G__side_by_side (hr.mono (by decide)) D__side_by_side.gl D__side_by_side.fn.kp D__side_by_side.bd (a_cons (j_var 0) (a_cons (j_var 1) a_nil)) (cons_n (cons_n nil_n))))) (by show blkC n_add_lines (defScope s_add_lines) _ _ = true; decide +kernel) (fun _ _ _ _ _ => (gw_tup 2 rfl (gw_cons (gw_name 2 nd) (gw_cons (gw_name 3 nd) gw_nil)))) (fun _ _ _ _ _ => ts_nil) (fun _ _ _ _ _ => (j_tup (a_cons (j_ix (j_var 2) j_int) (a_cons (j_callB G_plus (hr.mono (by decide)) D_plus.gl D_plus.fn.kp D_plus.bd (a_cons (j_ix (j_var 2) j_int) (a_cons (j_ix (j_var 3) j_int) a_nil)) (cons_n (cons_n nil_n))) (a_cons (j_callB G_plus (hr.mono (by decide)) D_plus.gl D_plus.fn.kp D_plus.bd (a_cons (j_ix (j_var 2) j_int) (a_cons (j_ix (j_var 3) j_int) a_nil)) (cons_n (cons_n nil_n))) a_nil))))))) a_nil) (cons_n nil_n))))⟩
set_option maxHeartbeats 16000000 in
theorem okL_add_lines {a_add_lines : Addr} {fd_add_lines : FuncData} {a__joined : Addr} {fd__joined : FuncData} {a__side_by_side : Addr} {fd__side_by_side : FuncData} {a_plus : Addr} {fd_plus : FuncData} (D_add_lines : Dn K mg "add_lines" s_add_lines ["line", "other"] a_add_lines fd_add_lines)
    (D__joined : Dn K mg "_joined" s__joined ["pieces"] a__joined fd__joined) (G__joined : FnOk P w K mg base (L2N.CX P w) 1 a__joined fd__joined ["pieces"] (spD K mg 1 F__joined))
    (D__side_by_side : Dn K mg "_side_by_side" s__side_by_side ["line", "other"] a__side_by_side fd__side_by_side) (G__side_by_side : FnOk P w K mg base (L2N.CX P w) 6 a__side_by_side fd__side_by_side ["line", "other"] (spD K mg 2 F__side_by_side))
    (D_plus : Dn K mg "plus" s_plus ["a", "b"] a_plus fd_plus) (G_plus : FnOk P w K mg base (L2N.CX P w) 2 a_plus fd_plus ["a", "b"] (spD K mg 2 F_plus)) (GL__joined : FnOk P w K mg base (L2N.CX P w) 1 a__joined fd__joined ["pieces"] (spL K mg 1 FL__joined)) :
    FnOk P w K mg base (L2N.CX P w) 7 a_add_lines fd_add_lines ["line", "other"] (spL K mg 2 FL_add_lines) := by
  refine def_okL (G := mL_add_lines) D_add_lines.fn sc_add_lines rfl fun cdv A outer s H E X hX hr po tk => ?_
  subst hX
  have nd := sc_add_lines.nd
  exact ⟨_, (ss_one (s_retL (l_call tk GL__joined (hr.mono (by decide)) D__joined.gl D__joined.fn.kp D__joined.bd (a_cons (jl_e (l_lcC (own := [(Str.ofString "one", 2), (Str.ofString "two", 3)]) rfl nd (c_of (i_seq (j_call tk G__side_by_side (hr.mono (by decide)) D__side_by_side.gl D__side_by_side.fn.kp D__side_by_side.bd (a_cons (j_var 0) (a_cons (j_var 1) a_nil)) (cons_n (cons_n nil_n))))) (by show blkC n_add_lines (defScope s_add_lines) _ _ = true; decide +kernel) (fun _ _ _ _ _ => (gw_tup 2 rfl (gw_cons (gw_name 2 nd) (gw_cons (gw_name 3 nd) gw_nil)))) (fun _ _ _ _ _ => ts_nil) (fun _ _ _ _ _ => (j_tup (a_cons (j_ix (j_var 2) j_int) (a_cons (j_callB G_plus (hr.mono (by decide)) D_plus.gl D_plus.fn.kp D_plus.bd (a_cons (j_ix (j_var 2) j_int) (a_cons (j_ix (j_var 3) j_int) a_nil)) (cons_n (cons_n nil_n))) (a_cons (j_callB G_plus (hr.mono (by decide)) D_plus.gl D_plus.fn.kp D_plus.bd (a_cons (j_ix (j_var 2) j_int) (a_cons (j_ix (j_var 3) j_int) a_nil)) (cons_n (cons_n nil_n))) a_nil))))))) a_nil) (cons_n nil_n))))⟩
set_option maxHeartbeats 16000000 in
theorem ok_scale_line {a_scale_line : Addr} {fd_scale_line : FuncData} {a__joined : Addr} {fd__joined : FuncData} {a_times : Addr} {fd_times : FuncData} (D_scale_line : Dn K mg "scale_line" s_scale_line ["line", "number"] a_scale_line fd_scale_line)
    (D__joined : Dn K mg "_joined" s__joined ["pieces"] a__joined fd__joined) (G__joined : FnOk P w K mg base (L2N.CX P w) 1 a__joined fd__joined ["pieces"] (spD K mg 1 F__joined))
    (D_times : Dn K mg "times" s_times ["a", "b"] a_times fd_times) (G_times : FnOk P w K mg base (L2N.CX P w) 2 a_times fd_times ["a", "b"] (spD K mg 2 F_times)) :
    FnOk P w K mg base (L2N.CX P w) 3 a_scale_line fd_scale_line ["line", "number"] (spD K mg 2 F_scale_line) := by
  refine def_ok (G := m_scale_line) D_scale_line.fn sc_scale_line rfl fun cdv A outer s H E X hX hr po tk => ?_
  subst hX
  have nd := sc_scale_line.nd
  exact ⟨_, (ss_one (s_ret (j_call tk G__joined (hr.mono (by decide)) D__joined.gl D__joined.fn.kp D__joined.bd (a_cons (jl_e (l_lcC (own := [(Str.ofString "start", 2), (Str.ofString "value", 3), (Str.ofString "slope", 4)]) rfl nd (c_of (i_seq (j_var 0))) (by show blkC n_scale_line (defScope s_scale_line) _ _ = true; decide +kernel) (fun _ _ _ _ _ => (gw_tup 3 rfl (gw_cons (gw_name 2 nd) (gw_cons (gw_name 3 nd) (gw_cons (gw_name 4 nd) gw_nil))))) (fun _ _ _ _ _ => ts_nil) (fun _ _ _ _ _ => (j_tup (a_cons (j_var 2) (a_cons (j_callB G_times (hr.mono (by decide)) D_times.gl D_times.fn.kp D_times.bd (a_cons (j_var 3) (a_cons (j_var 1) a_nil)) (cons_n (cons_n nil_n))) (a_cons (j_callB G_times (hr.mono (by decide)) D_times.gl D_times.fn.kp D_times.bd (a_cons (j_var 4) (a_cons (j_var 1) a_nil)) (cons_n (cons_n nil_n))) a_nil))))))) a_nil) (cons_n nil_n))))⟩
set_option maxHeartbeats 16000000 in
theorem okL_scale_line {a_scale_line : Addr} {fd_scale_line : FuncData} {a__joined : Addr} {fd__joined : FuncData} {a_times : Addr} {fd_times : FuncData} (D_scale_line : Dn K mg "scale_line" s_scale_line ["line", "number"] a_scale_line fd_scale_line)
    (D__joined : Dn K mg "_joined" s__joined ["pieces"] a__joined fd__joined) (G__joined : FnOk P w K mg base (L2N.CX P w) 1 a__joined fd__joined ["pieces"] (spD K mg 1 F__joined))
    (D_times : Dn K mg "times" s_times ["a", "b"] a_times fd_times) (G_times : FnOk P w K mg base (L2N.CX P w) 2 a_times fd_times ["a", "b"] (spD K mg 2 F_times)) (GL__joined : FnOk P w K mg base (L2N.CX P w) 1 a__joined fd__joined ["pieces"] (spL K mg 1 FL__joined)) :
    FnOk P w K mg base (L2N.CX P w) 3 a_scale_line fd_scale_line ["line", "number"] (spL K mg 2 FL_scale_line) := by
  refine def_okL (G := mL_scale_line) D_scale_line.fn sc_scale_line rfl fun cdv A outer s H E X hX hr po tk => ?_
  subst hX
  have nd := sc_scale_line.nd
  exact ⟨_, (ss_one (s_retL (l_call tk GL__joined (hr.mono (by decide)) D__joined.gl D__joined.fn.kp D__joined.bd (a_cons (jl_e (l_lcC (own := [(Str.ofString "start", 2), (Str.ofString "value", 3), (Str.ofString "slope", 4)]) rfl nd (c_of (i_seq (j_var 0))) (by show blkC n_scale_line (defScope s_scale_line) _ _ = true; decide +kernel) (fun _ _ _ _ _ => (gw_tup 3 rfl (gw_cons (gw_name 2 nd) (gw_cons (gw_name 3 nd) (gw_cons (gw_name 4 nd) gw_nil))))) (fun _ _ _ _ _ => ts_nil) (fun _ _ _ _ _ => (j_tup (a_cons (j_var 2) (a_cons (j_callB G_times (hr.mono (by decide)) D_times.gl D_times.fn.kp D_times.bd (a_cons (j_var 3) (a_cons (j_var 1) a_nil)) (cons_n (cons_n nil_n))) (a_cons (j_callB G_times (hr.mono (by decide)) D_times.gl D_times.fn.kp D_times.bd (a_cons (j_var 4) (a_cons (j_var 1) a_nil)) (cons_n (cons_n nil_n))) a_nil))))))) a_nil) (cons_n nil_n))))⟩
set_option maxHeartbeats 16000000 in
theorem ok_law {a_law : Addr} {fd_law : FuncData} {a__law_amount : Addr} {fd__law_amount : FuncData} {a__law_draw : Addr} {fd__law_draw : FuncData} {a__law_is_line : Addr} {fd__law_is_line : FuncData} {a__law_line : Addr} {fd__law_line : FuncData} {a__law_places : Addr} {fd__law_places : FuncData} {a__law_plus : Addr} {fd__law_plus : FuncData} {a__law_same_starts : Addr} {fd__law_same_starts : FuncData} {a__law_tells : Addr} {fd__law_tells : FuncData} {a__law_times : Addr} {fd__law_times : FuncData} {a_add_lines : Addr} {fd_add_lines : FuncData} {a_scale_line : Addr} {fd_scale_line : FuncData} (D_law : Dn K mg "law" s_law ["script"] a_law fd_law)
    (D__law_amount : Dn K mg "_law_amount" s__law_amount ["stream"] a__law_amount fd__law_amount) (G__law_amount : FnOk P w K mg base (L2N.CX P w) 2 a__law_amount fd__law_amount ["stream"] (spM K 0 1 F__law_amount))
    (D__law_draw : Dn K mg "_law_draw" s__law_draw ["stream", "many"] a__law_draw fd__law_draw) (G__law_draw : FnOk P w K mg base (L2N.CX P w) 1 a__law_draw fd__law_draw ["stream", "many"] (spM K 0 2 F__law_draw))
    (D__law_is_line : Dn K mg "_law_is_line" s__law_is_line ["pieces"] a__law_is_line fd__law_is_line) (G__law_is_line : FnOk P w K mg base (L2N.CX P w) 5 a__law_is_line fd__law_is_line ["pieces"] (spD K mg 1 F__law_is_line))
    (D__law_line : Dn K mg "_law_line" s__law_line ["stream"] a__law_line fd__law_line) (G__law_line : FnOk P w K mg base (L2N.CX P w) 3 a__law_line fd__law_line ["stream"] (spM K 0 1 F__law_line))
    (D__law_places : Dn K mg "_law_places" s__law_places ["lines"] a__law_places fd__law_places) (G__law_places : FnOk P w K mg base (L2N.CX P w) 3 a__law_places fd__law_places ["lines"] (spD K mg 1 F__law_places))
    (D__law_plus : Dn K mg "_law_plus" s__law_plus ["a", "b"] a__law_plus fd__law_plus) (G__law_plus : FnOk P w K mg base (L2N.CX P w) 2 a__law_plus fd__law_plus ["a", "b"] (spD K mg 2 F__law_plus))
    (D__law_same_starts : Dn K mg "_law_same_starts" s__law_same_starts ["stream", "line"] a__law_same_starts fd__law_same_starts) (G__law_same_starts : FnOk P w K mg base (L2N.CX P w) 5 a__law_same_starts fd__law_same_starts ["stream", "line"] (spM K 0 2 F__law_same_starts))
    (D__law_tells : Dn K mg "_law_tells" s__law_tells ["line", "x"] a__law_tells fd__law_tells) (G__law_tells : FnOk P w K mg base (L2N.CX P w) 5 a__law_tells fd__law_tells ["line", "x"] (spD K mg 2 F__law_tells))
    (D__law_times : Dn K mg "_law_times" s__law_times ["a", "b"] a__law_times fd__law_times) (G__law_times : FnOk P w K mg base (L2N.CX P w) 2 a__law_times fd__law_times ["a", "b"] (spD K mg 2 F__law_times))
    (D_add_lines : Dn K mg "add_lines" s_add_lines ["line", "other"] a_add_lines fd_add_lines) (G_add_lines : FnOk P w K mg base (L2N.CX P w) 7 a_add_lines fd_add_lines ["line", "other"] (spD K mg 2 F_add_lines))
    (D_scale_line : Dn K mg "scale_line" s_scale_line ["line", "number"] a_scale_line fd_scale_line) (G_scale_line : FnOk P w K mg base (L2N.CX P w) 3 a_scale_line fd_scale_line ["line", "number"] (spD K mg 2 F_scale_line)) (GL__law_places : FnOk P w K mg base (L2N.CX P w) 3 a__law_places fd__law_places ["lines"] (spL K mg 1 FL__law_places)) (GL_add_lines : FnOk P w K mg base (L2N.CX P w) 7 a_add_lines fd_add_lines ["line", "other"] (spL K mg 2 FL_add_lines)) (GL_scale_line : FnOk P w K mg base (L2N.CX P w) 3 a_scale_line fd_scale_line ["line", "number"] (spL K mg 2 FL_scale_line)) (z_list : mg "list" = none) (z_repr : mg "repr" = none) :
    TopOk P w K mg base a_law fd_law "script" (spD K mg 1 F_law) := by
  refine def_top (G := m_law) (k := 7) D_law.fn sc_law ⟨rfl, by decide, by decide⟩ rfl fun cdv s H E X hX quiet hr po tk => ?_
  subst hX
  have nd := sc_law.nd
  exact ⟨_, (ss_cons (s_own 1 nd (l_lst (a_cons (jl_e (l_listc z_list (a_cons (j_var 0) a_nil))) (a_cons j_int (a_cons j_int a_nil)))))
      (ss_cons (xs_par 7 8 rfl nd (xa_cons (x_callM tk G__law_line (hr.mono (by decide)) D__law_line.gl D__law_line.fn.kp D__law_line.bd (xh_here 1 (xa_of a_nil)) (xhere_n (xe_n nil_n))) (xa_cons (x_callM tk G__law_line (hr.mono (by decide)) D__law_line.gl D__law_line.fn.kp D__law_line.bd (xh_here 1 (xa_of a_nil)) (xhere_n (xe_n nil_n))) (xa_of a_nil))))
      (ss_cons (xs_if (xt_eq hr.units (x_callM tk G__law_draw (hr.mono (by decide)) D__law_draw.gl D__law_draw.fn.kp D__law_draw.bd (xh_here 1 (xa_of (a_cons j_int a_nil))) (xhere_n (xe_n (cons_n nil_n)))) (x_of j_int)) (ss_one (xs_set 8 nd (x_callM tk G__law_same_starts (hr.mono (by decide)) D__law_same_starts.gl D__law_same_starts.fn.kp D__law_same_starts.bd (xh_here 1 (xa_of (a_cons (j_var 7) a_nil))) (xhere_n (xe_n (cons_n nil_n)))))) ss_nil)
      (ss_cons (xs_set 2 nd (x_callM tk G__law_amount (hr.mono (by decide)) D__law_amount.gl D__law_amount.fn.kp D__law_amount.bd (xh_here 1 (xa_of a_nil)) (xhere_n (xe_n nil_n))))
      (ss_cons (s_set 3 nd (j_repr quiet hr.units z_repr (a_cons (j_tup (a_cons (j_var 7) (a_cons (j_var 8) a_nil))) a_nil)))
      (ss_cons (s_own 4 nd (l_call tk GL_add_lines (hr.mono (by decide)) D_add_lines.gl D_add_lines.fn.kp D_add_lines.bd (a_cons (j_var 7) (a_cons (j_var 8) a_nil)) (cons_n (cons_n nil_n))))
      (ss_cons (s_own 5 nd (l_call tk GL_scale_line (hr.mono (by decide)) D_scale_line.gl D_scale_line.fn.kp D_scale_line.bd (a_cons (j_var 7) (a_cons (j_var 2) a_nil)) (cons_n (cons_n nil_n))))
      (ss_cons (s_if (t_lend 5 (t_lend 4 (t_w (w_or (t_not (t_tru (j_call tk G__law_is_line (hr.mono (by decide)) D__law_is_line.gl D__law_is_line.fn.kp D__law_is_line.bd (a_cons (j_var 4) a_nil) (cons_n nil_n)))) (w_or (t_not (t_tru (j_call tk G__law_is_line (hr.mono (by decide)) D__law_is_line.gl D__law_is_line.fn.kp D__law_is_line.bd (a_cons (j_var 5) a_nil) (cons_n nil_n)))) (w_or1 (t_neS (j_repr quiet hr.units z_repr (a_cons (j_tup (a_cons (j_var 7) (a_cons (j_var 8) a_nil))) a_nil)) (j_var 3)))))))) (ss_one (s_ret j_bl)) ss_nil)
      (ss_cons (s_for po rfl (i_lendL 4 (l_call tk GL__law_places (hr.mono (by decide)) D__law_places.gl D__law_places.fn.kp D__law_places.bd (a_cons (jl_e (l_lst (a_cons (j_var 7) (a_cons (j_var 8) (a_cons (j_var 4) a_nil))))) a_nil) (cons_n nil_n))) (g_name 6 nd) (ss_one (s_if (t_lend 4 (t_ne hr.units (j_call tk G__law_tells (hr.mono (by decide)) D__law_tells.gl D__law_tells.fn.kp D__law_tells.bd (a_cons (j_var 4) (a_cons (j_var 6) a_nil)) (cons_n (cons_n nil_n))) (j_call tk G__law_plus (hr.mono (by decide)) D__law_plus.gl D__law_plus.fn.kp D__law_plus.bd (a_cons (j_call tk G__law_tells (hr.mono (by decide)) D__law_tells.gl D__law_tells.fn.kp D__law_tells.bd (a_cons (j_var 7) (a_cons (j_var 6) a_nil)) (cons_n (cons_n nil_n))) (a_cons (j_call tk G__law_tells (hr.mono (by decide)) D__law_tells.gl D__law_tells.fn.kp D__law_tells.bd (a_cons (j_var 8) (a_cons (j_var 6) a_nil)) (cons_n (cons_n nil_n))) a_nil)) (cons_n (cons_n nil_n))))) (ss_one (s_ret j_bl)) ss_nil)))
      (ss_cons (s_for po rfl (i_lendL 5 (l_call tk GL__law_places (hr.mono (by decide)) D__law_places.gl D__law_places.fn.kp D__law_places.bd (a_cons (jl_e (l_lst (a_cons (j_var 7) (a_cons (j_var 5) a_nil)))) a_nil) (cons_n nil_n))) (g_name 6 nd) (ss_one (s_if (t_lend 5 (t_ne hr.units (j_call tk G__law_tells (hr.mono (by decide)) D__law_tells.gl D__law_tells.fn.kp D__law_tells.bd (a_cons (j_var 5) (a_cons (j_var 6) a_nil)) (cons_n (cons_n nil_n))) (j_call tk G__law_times (hr.mono (by decide)) D__law_times.gl D__law_times.fn.kp D__law_times.bd (a_cons (j_var 2) (a_cons (j_call tk G__law_tells (hr.mono (by decide)) D__law_tells.gl D__law_tells.fn.kp D__law_tells.bd (a_cons (j_var 7) (a_cons (j_var 6) a_nil)) (cons_n (cons_n nil_n))) a_nil)) (cons_n (cons_n nil_n))))) (ss_one (s_ret j_bl)) ss_nil)))
      (ss_cons (s_if (t_lend 4 (t_ne hr.units (j_call tk G_add_lines (hr.mono (by decide)) D_add_lines.gl D_add_lines.fn.kp D_add_lines.bd (a_cons (j_var 8) (a_cons (j_var 7) a_nil)) (cons_n (cons_n nil_n))) (j_var 4))) (ss_one (s_ret j_bl)) ss_nil)
      (ss_cons (s_clr 4)
      (ss_cons (s_clr 5)
      (ss_one (s_ret (j_eqS (j_repr quiet hr.units z_repr (a_cons (j_tup (a_cons (j_var 7) (a_cons (j_var 8) a_nil))) a_nil)) (j_var 3)))))))))))))))))⟩
end
end Lw

namespace Lw
open PySem PySem.Spec PyProof.Rows L2 Sf
set_option exponentiation.threshold 20000
def Bd (xs : List Int) : Prop := ∀ x ∈ xs, 0 ≤ x ∧ x < 1000
theorem map_get {ns : List Int} {j : Nat} (h : j < ns.length) : (ns.map PyData.int)[j]? = some (.int ns[j]) := by
  rw [List.getElem?_map, List.getElem?_eq_getElem h] <;> rfl

theorem seq_step {f g : Ev → Fl} {s s1 : Ev} {z : Fl} (h : f s = .nx s1) (k : g s1 = z) : gSeq f g s = z := by
  unfold gSeq
  rw [h]
  exact k
theorem seq_rt' {f g : Ev → Fl} {s : Ev} {d : D} {ds : List D} (h : f s = .rm d ds) : gSeq f g s = .rm d ds := by
  unfold gSeq
  rw [h]


/-! ### the law's numbers: the loop within the def -/
abbrev cNum : Ev → R Bool := bVal (fBin gNe (fVar 3) (fC (.int 0)))
theorem numw_loop : ∀ (k n : Nat) (a b : En) (x y : Nat), y ≤ x → x * y < 2 ^ k → k < n →
    gWhile cNum l__law_number_1 n [a, b, .v (.int (x : Int)), .v (.int (y : Int))] = .nx [a, b, .v (.int ((Nat.gcd x y : Nat) : Int)), .v (.int 0)]
  | _, 0, _, _, _, _, _, _, h => by omega
  | k, n + 1, a, b, x, 0, _, _, _ => by
    have g : gNe (.int ((0 : Nat) : Int)) (.int 0) = .ok (.bool false) := by rw [gNe_i]; rfl
    unfold gWhile
    simp only [gSeq, gPar, gPar3, gIfS, gAsg, gNext, gRet, gApp, gOwn, xf, fBin, fUn, fC, fVar, fCall, fCallD, fCons, fNil, fIf, fAnd, fOr, fNot, bOr, bNot, bAnd, bTru, truth, bVal, hName, R.bind, gInt1, gAdd, gSubI, gNeg, gCmp, List.getElem?_cons_succ, List.getElem?_cons_zero, List.set_cons_succ, List.set_cons_zero, Bool.not_true, Bool.not_false, Bool.false_eq_true, if_false, if_true, decide_true, decide_false, g, Nat.gcd_zero_right]
    rfl
  | 0, n + 1, a, b, x, y + 1, hxy, hk, _ => by
    have : 1 * 1 ≤ x * (y + 1) := Nat.mul_le_mul (by omega) (by omega)
    omega
  | k + 1, n + 1, a, b, x, y + 1, hxy, hk, hl => by
    have h2 := eucl_half (show 0 < y + 1 by omega) hxy
    have h3 : x % (y + 1) ≤ y + 1 := Nat.le_of_lt (Nat.mod_lt _ (by omega))
    have h4 : (y + 1) * (x % (y + 1)) < 2 ^ k := by
      have a : (y + 1) * (2 * (x % (y + 1))) ≤ (y + 1) * x := Nat.mul_le_mul_left _ (by omega)
      have b : (y + 1) * (2 * (x % (y + 1))) = 2 * ((y + 1) * (x % (y + 1))) := by rw [Nat.mul_left_comm]
      have c : (y + 1) * x = x * (y + 1) := Nat.mul_comm _ _
      rw [Nat.pow_succ] at hk
      omega
    have e := numw_loop k n a b (y + 1) (x % (y + 1)) h3 h4 (by omega)
    have g : gNe (.int ((y + 1 : Nat) : Int)) (.int 0) = .ok (.bool true) := by
      rw [gNe_i, decide_eq_false (by omega)]
      rfl
    have gm := gMod_ok (i := (x : Int)) (j := ((y + 1 : Nat) : Int)) (by omega)
    have e3 : (x : Int) % ((y + 1 : Nat) : Int) = ((x % (y + 1) : Nat) : Int) := by simp
    rw [e3] at gm
    unfold gWhile
    have c1 : cNum [a, b, .v (.int (x : Int)), .v (.int ((y + 1 : Nat) : Int))] = .ok true := by simp only [gSeq, gPar, gPar3, gIfS, gAsg, gNext, gRet, gApp, gOwn, xf, fBin, fUn, fC, fVar, fCall, fCallD, fCons, fNil, fIf, fAnd, fOr, fNot, bOr, bNot, bAnd, bTru, truth, bVal, hName, R.bind, gInt1, gAdd, gSubI, gNeg, gCmp, List.getElem?_cons_succ, List.getElem?_cons_zero, List.set_cons_succ, List.set_cons_zero, Bool.not_true, Bool.not_false, Bool.false_eq_true, if_false, if_true, decide_true, decide_false, g]
    have c2 : l__law_number_1 [a, b, .v (.int (x : Int)), .v (.int ((y + 1 : Nat) : Int))] = .nx [a, b, .v (.int ((y + 1 : Nat) : Int)), .v (.int ((x % (y + 1) : Nat) : Int))] := by
      unfold l__law_number_1
      simp only [gSeq, gPar, gPar3, gIfS, gAsg, gNext, gRet, gApp, gOwn, xf, fBin, fUn, fC, fVar, fCall, fCallD, fCons, fNil, fIf, fAnd, fOr, fNot, bOr, bNot, bAnd, bTru, truth, bVal, hName, R.bind, gInt1, gAdd, gSubI, gNeg, gCmp, List.getElem?_cons_succ, List.getElem?_cons_zero, List.set_cons_succ, List.set_cons_zero, Bool.not_true, Bool.not_false, Bool.false_eq_true, if_false, if_true, decide_true, decide_false, gm]
    rw [c1]
    simp only [xf, if_true, c2]
    rw [e, show Nat.gcd (y + 1) (x % (y + 1)) = Nat.gcd x (y + 1) by rw [Nat.gcd_comm x (y + 1), Nat.gcd_rec (y + 1) x]; exact Nat.gcd_comm _ _]
theorem abs_e {i : Int} : gAbs [.int i] = .ok (.int (i.natAbs : Int)) := by
  unfold gAbs
  have : (if i < 0 then -i else i) = (i.natAbs : Int) := by split <;> omega
  simp only [this]
theorem numw_all {n d : Int} (a b : En) (hd : 0 < d) (bd : Bn 9000 d) : gWhile cNum l__law_number_1 100000 [a, b, .v (.int (n.natAbs : Int)), .v (.int d)] = .nx [a, b, .v (.int (gg n d)), .v (.int 0)] := by
  obtain ⟨y, rfl, hy⟩ : ∃ y : Nat, d = (y : Int) ∧ 0 < y := ⟨d.toNat, by omega, by omega⟩
  have hlt := Nat.mod_lt n.natAbs hy
  have hb : y < 2 ^ 9000 := bd
  have hbd : y * (n.natAbs % y) < 2 ^ 18000 := by
    have := Nat.mul_lt_mul'' hb (Nat.lt_trans hlt hb)
    rw [← Nat.pow_add] at this
    exact this
  have e := numw_loop 18000 99999 a b y (n.natAbs % y) (Nat.le_of_lt hlt) hbd (by omega)
  have g : gNe (.int (y : Int)) (.int 0) = .ok (.bool true) := by
    rw [gNe_i, decide_eq_false (by omega)]
    rfl
  have gm := gMod_ok (i := (n.natAbs : Int)) (j := (y : Int)) (by omega)
  have e3 : (n.natAbs : Int) % (y : Int) = ((n.natAbs % y : Nat) : Int) := by simp
  rw [e3] at gm
  have c1 : cNum [a, b, .v (.int (n.natAbs : Int)), .v (.int (y : Int))] = .ok true := by simp only [gSeq, gPar, gPar3, gIfS, gAsg, gNext, gRet, gApp, gOwn, xf, fBin, fUn, fC, fVar, fCall, fCallD, fCons, fNil, fIf, fAnd, fOr, fNot, bOr, bNot, bAnd, bTru, truth, bVal, hName, R.bind, gInt1, gAdd, gSubI, gNeg, gCmp, List.getElem?_cons_succ, List.getElem?_cons_zero, List.set_cons_succ, List.set_cons_zero, Bool.not_true, Bool.not_false, Bool.false_eq_true, if_false, if_true, decide_true, decide_false, g]
  have c2 : l__law_number_1 [a, b, .v (.int (n.natAbs : Int)), .v (.int (y : Int))] = .nx [a, b, .v (.int (y : Int)), .v (.int ((n.natAbs % y : Nat) : Int))] := by
    unfold l__law_number_1
    simp only [gSeq, gPar, gPar3, gIfS, gAsg, gNext, gRet, gApp, gOwn, xf, fBin, fUn, fC, fVar, fCall, fCallD, fCons, fNil, fIf, fAnd, fOr, fNot, bOr, bNot, bAnd, bTru, truth, bVal, hName, R.bind, gInt1, gAdd, gSubI, gNeg, gCmp, List.getElem?_cons_succ, List.getElem?_cons_zero, List.set_cons_succ, List.set_cons_zero, Bool.not_true, Bool.not_false, Bool.false_eq_true, if_false, if_true, decide_true, decide_false, gm]
  show gWhile cNum l__law_number_1 (99999 + 1) _ = _
  unfold gWhile
  rw [c1]
  simp only [xf, if_true, c2]
  rw [e]
  unfold gg
  rw [show Nat.gcd y (n.natAbs % y) = Nat.gcd n.natAbs ((y : Int).natAbs) by rw [Int.natAbs_natCast, Nat.gcd_comm n.natAbs y, Nat.gcd_rec y n.natAbs]; exact Nat.gcd_comm _ _]
theorem lnum_ok {n d : Int} (hd : d ≠ 0) (bd : Bn 9000 d) : F__law_number [.int n, .int d] = .ok (nrm n d) := by
  have hg := gg_pos (n := n) hd
  have bg : Bn 9000 (gg n d) := bd.le (gg_le hd)
  refine run_rt (s := [.v (.int n), .v (.int d), .un, .un]) rfl ?_
  unfold m__law_number
  by_cases h : d < 0
  · have eg : gg (-n) (-d) = gg n d := by unfold gg; rw [Int.natAbs_neg, Int.natAbs_neg]
    have g1 := numw_all (n := -n) (d := -d) (.v (.int (-n))) (.v (.int (-d))) (by omega) bd.neg
    rw [eg] at g1
    have g2 := gDiv_w (i := -n) hg bg
    have g3 := gDiv_w (i := -d) hg bg
    refine seq_step (s1 := [.v (.int (-n)), .v (.int (-d)), .un, .un]) (by simp only [gSeq, gPar, gPar3, gIfS, gAsg, gNext, gRet, gApp, gOwn, xf, fBin, fUn, fC, fVar, fCall, fCallD, fCons, fNil, fIf, fAnd, fOr, fNot, bOr, bNot, bAnd, bTru, truth, bVal, hName, R.bind, gInt1, gAdd, gSubI, gNeg, gCmp, List.getElem?_cons_succ, List.getElem?_cons_zero, List.set_cons_succ, List.set_cons_zero, Bool.not_true, Bool.not_false, Bool.false_eq_true, if_false, if_true, decide_true, decide_false, h, Int.zero_sub]) ?_
    refine seq_step (s1 := [.v (.int (-n)), .v (.int (-d)), .v (.int ((-n).natAbs : Int)), .v (.int (-d))]) (by simp only [gSeq, gPar, gPar3, gIfS, gAsg, gNext, gRet, gApp, gOwn, xf, fBin, fUn, fC, fVar, fCall, fCallD, fCons, fNil, fIf, fAnd, fOr, fNot, bOr, bNot, bAnd, bTru, truth, bVal, hName, R.bind, gInt1, gAdd, gSubI, gNeg, gCmp, List.getElem?_cons_succ, List.getElem?_cons_zero, List.set_cons_succ, List.set_cons_zero, Bool.not_true, Bool.not_false, Bool.false_eq_true, if_false, if_true, decide_true, decide_false, abs_e]) ?_
    refine seq_step g1 ?_
    simp only [gSeq, gPar, gPar3, gIfS, gAsg, gNext, gRet, gApp, gOwn, xf, fBin, fUn, fC, fVar, fCall, fCallD, fCons, fNil, fIf, fAnd, fOr, fNot, bOr, bNot, bAnd, bTru, truth, bVal, hName, R.bind, gInt1, gAdd, gSubI, gNeg, gCmp, List.getElem?_cons_succ, List.getElem?_cons_zero, List.set_cons_succ, List.set_cons_zero, Bool.not_true, Bool.not_false, Bool.false_eq_true, if_false, if_true, decide_true, decide_false, fTup, g2, g3, List.length_cons, List.length_nil]
    simp only [Nat.reduceAdd, Nat.reduceLeDiff, if_true, nrm, N2, nn, nd, h]
    rw [show ((d.natAbs : Nat) : Int) = -d by omega]
  · have g1 := numw_all (n := n) (d := d) (.v (.int n)) (.v (.int d)) (by omega) bd
    have g2 := gDiv_w (i := n) hg bg
    have g3 := gDiv_w (i := d) hg bg
    refine seq_step (s1 := [.v (.int n), .v (.int d), .un, .un]) (by simp only [gSeq, gPar, gPar3, gIfS, gAsg, gNext, gRet, gApp, gOwn, xf, fBin, fUn, fC, fVar, fCall, fCallD, fCons, fNil, fIf, fAnd, fOr, fNot, bOr, bNot, bAnd, bTru, truth, bVal, hName, R.bind, gInt1, gAdd, gSubI, gNeg, gCmp, List.getElem?_cons_succ, List.getElem?_cons_zero, List.set_cons_succ, List.set_cons_zero, Bool.not_true, Bool.not_false, Bool.false_eq_true, if_false, if_true, decide_true, decide_false, h]) ?_
    refine seq_step (s1 := [.v (.int n), .v (.int d), .v (.int (n.natAbs : Int)), .v (.int d)]) (by simp only [gSeq, gPar, gPar3, gIfS, gAsg, gNext, gRet, gApp, gOwn, xf, fBin, fUn, fC, fVar, fCall, fCallD, fCons, fNil, fIf, fAnd, fOr, fNot, bOr, bNot, bAnd, bTru, truth, bVal, hName, R.bind, gInt1, gAdd, gSubI, gNeg, gCmp, List.getElem?_cons_succ, List.getElem?_cons_zero, List.set_cons_succ, List.set_cons_zero, Bool.not_true, Bool.not_false, Bool.false_eq_true, if_false, if_true, decide_true, decide_false, abs_e]) ?_
    refine seq_step g1 ?_
    simp only [gSeq, gPar, gPar3, gIfS, gAsg, gNext, gRet, gApp, gOwn, xf, fBin, fUn, fC, fVar, fCall, fCallD, fCons, fNil, fIf, fAnd, fOr, fNot, bOr, bNot, bAnd, bTru, truth, bVal, hName, R.bind, gInt1, gAdd, gSubI, gNeg, gCmp, List.getElem?_cons_succ, List.getElem?_cons_zero, List.set_cons_succ, List.set_cons_zero, Bool.not_true, Bool.not_false, Bool.false_eq_true, if_false, if_true, decide_true, decide_false, fTup, g2, g3, List.length_cons, List.length_nil]
    simp only [Nat.reduceAdd, Nat.reduceLeDiff, if_true, nrm, N2, nn, nd, h, if_false]
    rw [show ((d.natAbs : Nat) : Int) = d by omega]
theorem isn_turn (a : En) (i : Int) : l__law_is_number_1 [a, .v (.int i)] = .nx [a, .v (.int i)] := by
  have k2 : gIsi "int" (.int i) = .ok (.bool true) := by unfold gIsi; rfl
  have k3 : gIsi "bool" (.int i) = .ok (.bool false) := by unfold gIsi; rfl
  unfold l__law_is_number_1
  simp only [gSeq, gPar, gPar3, gIfS, gAsg, gNext, gRet, gApp, gOwn, xf, fBin, fUn, fC, fVar, fCall, fCallD, fCons, fNil, fIf, fAnd, fOr, fNot, bOr, bNot, bAnd, bTru, truth, bVal, hName, R.bind, gInt1, gAdd, gSubI, gNeg, gCmp, List.getElem?_cons_succ, List.getElem?_cons_zero, List.set_cons_succ, List.set_cons_zero, Bool.not_true, Bool.not_false, Bool.false_eq_true, if_false, if_true, decide_true, decide_false, k2, k3]
theorem isn_loop {n d : Int} : gFor (sSeq (fVar 0)) (hName 1) l__law_is_number_1 [.v (N2 n d), .un] = .nx [.v (N2 n d), .v (.int d)] := by
  rw [for_nx (show sSeq (fVar 0) [.v (N2 n d), .un] = .ok [.int n, .int d] from rfl)]
  simp only [gLoop, hName, List.set_cons_succ, List.set_cons_zero, isn_turn]
theorem gg_one_nrm {n d : Int} (h1 : 1 ≤ d) (hg : gg n d = 1) : nrm n d = N2 n d := by
  unfold nrm nn nd
  rw [hg, if_neg (by omega), Int.ediv_one, Int.ediv_one, show ((d.natAbs : Nat) : Int) = d by omega]
theorem lisnum_ok {n d : Int} (h1 : 1 ≤ d) (bd : Bn 9000 d) (hg : gg n d = 1) : F__law_is_number [N2 n d] = .ok (.bool true) := by
  have g1 := lnum_ok (n := n) (d := d) (by omega) bd
  rw [gg_one_nrm h1 hg] at g1
  refine run_rt (s := [.v (N2 n d), .un]) rfl ?_
  have k1 : gIsi "tuple" (N2 n d) = .ok (.bool true) := by unfold gIsi; rfl
  have k6 : gLen [N2 n d] = .ok (.int 2) := rfl
  have k7 : gNe (.int 2) (.int 2) = .ok (.bool false) := by rw [gNe_i]; rfl
  have k8 : gEq (N2 n d) (N2 n d) = .ok (.bool true) := gEq_same (shaped_N2 _ _)
  have k9 : decide ((0 : Int) < d) = true := decide_eq_true (by omega)
  unfold m__law_is_number
  refine seq_step (s1 := [.v (N2 n d), .un]) (by simp only [gSeq, gPar, gPar3, gIfS, gAsg, gNext, gRet, gApp, gOwn, xf, fBin, fUn, fC, fVar, fCall, fCallD, fCons, fNil, fIf, fAnd, fOr, fNot, bOr, bNot, bAnd, bTru, truth, bVal, hName, R.bind, gInt1, gAdd, gSubI, gNeg, gCmp, List.getElem?_cons_succ, List.getElem?_cons_zero, List.set_cons_succ, List.set_cons_zero, Bool.not_true, Bool.not_false, Bool.false_eq_true, if_false, if_true, decide_true, decide_false, k1, k6, k7]) ?_
  refine seq_step isn_loop ?_
  simp only [gSeq, gPar, gPar3, gIfS, gAsg, gNext, gRet, gApp, gOwn, xf, fBin, fUn, fC, fVar, fCall, fCallD, fCons, fNil, fIf, fAnd, fOr, fNot, bOr, bNot, bAnd, bTru, truth, bVal, hName, R.bind, gInt1, gAdd, gSubI, gNeg, gCmp, List.getElem?_cons_succ, List.getElem?_cons_zero, List.set_cons_succ, List.set_cons_zero, Bool.not_true, Bool.not_false, Bool.false_eq_true, if_false, if_true, decide_true, decide_false, ix0, ix1, k9, g1, k8]


/-! ### the program's numbers -/
theorem num_ok {n d : Int} (hd : d ≠ 0) (bd : Bn 9000 d) : F_number [.int n, .int d] = .ok (nrm n d) := by
  have hg := gg_pos (n := n) hd
  have bg : Bn 9000 (gg n d) := bd.le (gg_le hd)
  have e0 : gGcd [.int n, .int d] = .ok (.int (gg n d)) := rfl
  refine run_rt (s := [.v (.int n), .v (.int d), .un]) rfl ?_
  unfold m_number
  by_cases h : d < 0
  · have g2 := gDiv_n hg bg (gg_dvd_n n d)
    have g3 := gDiv_n hg bg (gg_dvd_d n d)
    simp only [gSeq, gPar, gPar3, gIfS, gAsg, gNext, gRet, gApp, gOwn, xf, fBin, fUn, fC, fVar, fCall, fCallD, fCons, fNil, fIf, fAnd, fOr, fNot, bOr, bNot, bAnd, bTru, truth, bVal, hName, R.bind, gInt1, gAdd, gSubI, gNeg, gCmp, List.getElem?_cons_succ, List.getElem?_cons_zero, List.set_cons_succ, List.set_cons_zero, Bool.not_true, Bool.not_false, Bool.false_eq_true, if_false, if_true, decide_true, decide_false, fTup, h, e0, g2, g3, List.length_cons, List.length_nil]
    simp only [Nat.reduceAdd, Nat.reduceLeDiff, if_true, nrm, N2, nn, nd, h]
    rw [show ((d.natAbs : Nat) : Int) = -d by omega]
  · have g2 := gDiv_w (i := n) hg bg
    have g3 := gDiv_w (i := d) hg bg
    simp only [gSeq, gPar, gPar3, gIfS, gAsg, gNext, gRet, gApp, gOwn, xf, fBin, fUn, fC, fVar, fCall, fCallD, fCons, fNil, fIf, fAnd, fOr, fNot, bOr, bNot, bAnd, bTru, truth, bVal, hName, R.bind, gInt1, gAdd, gSubI, gNeg, gCmp, List.getElem?_cons_succ, List.getElem?_cons_zero, List.set_cons_succ, List.set_cons_zero, Bool.not_true, Bool.not_false, Bool.false_eq_true, if_false, if_true, decide_true, decide_false, fTup, h, e0, g2, g3, List.length_cons, List.length_nil]
    simp only [Nat.reduceAdd, Nat.reduceLeDiff, if_true, nrm, N2, nn, nd, h, if_false]
    rw [show ((d.natAbs : Nat) : Int) = d by omega]
theorem mul_pos_ne {a b : Int} (h : 0 < a) (g : 0 < b) : a * b ≠ 0 := by
  have := Int.mul_pos h g
  omega
section
variable {a b c d : Int} (ha : Bn 4400 a) (hb : Bn 4400 b) (hc : Bn 4400 c) (hd : Bn 4400 d) (pb : 0 < b) (pd : 0 < d)
include ha hb hc hd pb pd
theorem plus_ok : F_plus [N2 a b, N2 c d] = .ok (nrm (a * d + c * b) (b * d)) := by
  have g := num_ok (n := a * d + c * b) (mul_pos_ne pb pd) ((hb.mul hd).mono (by decide))
  refine run_rt (s := [.v (N2 a b), .v (N2 c d)]) rfl ?_
  unfold m_plus
  simp only [gSeq, gPar, gPar3, gIfS, gAsg, gNext, gRet, gApp, gOwn, xf, fBin, fUn, fC, fVar, fCall, fCallD, fCons, fNil, fIf, fAnd, fOr, fNot, bOr, bNot, bAnd, bTru, truth, bVal, hName, R.bind, gInt1, gAdd, gSubI, gNeg, gCmp, List.getElem?_cons_succ, List.getElem?_cons_zero, List.set_cons_succ, List.set_cons_zero, Bool.not_true, Bool.not_false, Bool.false_eq_true, if_false, if_true, decide_true, decide_false, ix0, ix1, gMul_w ha hd, gMul_w hc hb, gMul_w hb hd, g]
theorem minus_ok : F_minus [N2 a b, N2 c d] = .ok (nrm (a * d - c * b) (b * d)) := by
  have g := num_ok (n := a * d - c * b) (mul_pos_ne pb pd) ((hb.mul hd).mono (by decide))
  refine run_rt (s := [.v (N2 a b), .v (N2 c d)]) rfl ?_
  unfold m_minus
  simp only [gSeq, gPar, gPar3, gIfS, gAsg, gNext, gRet, gApp, gOwn, xf, fBin, fUn, fC, fVar, fCall, fCallD, fCons, fNil, fIf, fAnd, fOr, fNot, bOr, bNot, bAnd, bTru, truth, bVal, hName, R.bind, gInt1, gAdd, gSubI, gNeg, gCmp, List.getElem?_cons_succ, List.getElem?_cons_zero, List.set_cons_succ, List.set_cons_zero, Bool.not_true, Bool.not_false, Bool.false_eq_true, if_false, if_true, decide_true, decide_false, ix0, ix1, gMul_w ha hd, gMul_w hc hb, gMul_w hb hd, g]
theorem times_ok : F_times [N2 a b, N2 c d] = .ok (nrm (a * c) (b * d)) := by
  have g := num_ok (n := a * c) (mul_pos_ne pb pd) ((hb.mul hd).mono (by decide))
  refine run_rt (s := [.v (N2 a b), .v (N2 c d)]) rfl ?_
  unfold m_times
  simp only [gSeq, gPar, gPar3, gIfS, gAsg, gNext, gRet, gApp, gOwn, xf, fBin, fUn, fC, fVar, fCall, fCallD, fCons, fNil, fIf, fAnd, fOr, fNot, bOr, bNot, bAnd, bTru, truth, bVal, hName, R.bind, gInt1, gAdd, gSubI, gNeg, gCmp, List.getElem?_cons_succ, List.getElem?_cons_zero, List.set_cons_succ, List.set_cons_zero, Bool.not_true, Bool.not_false, Bool.false_eq_true, if_false, if_true, decide_true, decide_false, ix0, ix1, gMul_w ha hc, gMul_w hb hd, g]
theorem lplus_ok : F__law_plus [N2 a b, N2 c d] = .ok (nrm (a * d + c * b) (b * d)) := by
  have g := lnum_ok (n := a * d + c * b) (mul_pos_ne pb pd) ((hb.mul hd).mono (by decide))
  refine run_rt (s := [.v (N2 a b), .v (N2 c d)]) rfl ?_
  unfold m__law_plus
  simp only [gSeq, gPar, gPar3, gIfS, gAsg, gNext, gRet, gApp, gOwn, xf, fBin, fUn, fC, fVar, fCall, fCallD, fCons, fNil, fIf, fAnd, fOr, fNot, bOr, bNot, bAnd, bTru, truth, bVal, hName, R.bind, gInt1, gAdd, gSubI, gNeg, gCmp, List.getElem?_cons_succ, List.getElem?_cons_zero, List.set_cons_succ, List.set_cons_zero, Bool.not_true, Bool.not_false, Bool.false_eq_true, if_false, if_true, decide_true, decide_false, ix0, ix1, gMul_w ha hd, gMul_w hc hb, gMul_w hb hd, g]
theorem ltimes_ok : F__law_times [N2 a b, N2 c d] = .ok (nrm (a * c) (b * d)) := by
  have g := lnum_ok (n := a * c) (mul_pos_ne pb pd) ((hb.mul hd).mono (by decide))
  refine run_rt (s := [.v (N2 a b), .v (N2 c d)]) rfl ?_
  unfold m__law_times
  simp only [gSeq, gPar, gPar3, gIfS, gAsg, gNext, gRet, gApp, gOwn, xf, fBin, fUn, fC, fVar, fCall, fCallD, fCons, fNil, fIf, fAnd, fOr, fNot, bOr, bNot, bAnd, bTru, truth, bVal, hName, R.bind, gInt1, gAdd, gSubI, gNeg, gCmp, List.getElem?_cons_succ, List.getElem?_cons_zero, List.set_cons_succ, List.set_cons_zero, Bool.not_true, Bool.not_false, Bool.false_eq_true, if_false, if_true, decide_true, decide_false, ix0, ix1, gMul_w ha hc, gMul_w hb hd, g]
def ord (a b c d : Int) : Int := if a * d < c * b then -1 else if c * b < a * d then 1 else 0
theorem compare_ok : F_compare [N2 a b, N2 c d] = .ok (.int (ord a b c d)) := by
  refine run_rt (s := [.v (N2 a b), .v (N2 c d), .un, .un]) rfl ?_
  unfold m_compare ord
  by_cases h : a * d < c * b
  · simp only [gSeq, gPar, gPar3, gIfS, gAsg, gNext, gRet, gApp, gOwn, xf, fBin, fUn, fC, fVar, fCall, fCallD, fCons, fNil, fIf, fAnd, fOr, fNot, bOr, bNot, bAnd, bTru, truth, bVal, hName, R.bind, gInt1, gAdd, gSubI, gNeg, gCmp, List.getElem?_cons_succ, List.getElem?_cons_zero, List.set_cons_succ, List.set_cons_zero, Bool.not_true, Bool.not_false, Bool.false_eq_true, if_false, if_true, decide_true, decide_false, ix0, ix1, gMul_w ha hd, gMul_w hc hb, h]
  · by_cases h2 : c * b < a * d
    · simp only [gSeq, gPar, gPar3, gIfS, gAsg, gNext, gRet, gApp, gOwn, xf, fBin, fUn, fC, fVar, fCall, fCallD, fCons, fNil, fIf, fAnd, fOr, fNot, bOr, bNot, bAnd, bTru, truth, bVal, hName, R.bind, gInt1, gAdd, gSubI, gNeg, gCmp, List.getElem?_cons_succ, List.getElem?_cons_zero, List.set_cons_succ, List.set_cons_zero, Bool.not_true, Bool.not_false, Bool.false_eq_true, if_false, if_true, decide_true, decide_false, ix0, ix1, gMul_w ha hd, gMul_w hc hb, h, h2]
    · simp only [gSeq, gPar, gPar3, gIfS, gAsg, gNext, gRet, gApp, gOwn, xf, fBin, fUn, fC, fVar, fCall, fCallD, fCons, fNil, fIf, fAnd, fOr, fNot, bOr, bNot, bAnd, bTru, truth, bVal, hName, R.bind, gInt1, gAdd, gSubI, gNeg, gCmp, List.getElem?_cons_succ, List.getElem?_cons_zero, List.set_cons_succ, List.set_cons_zero, Bool.not_true, Bool.not_false, Bool.false_eq_true, if_false, if_true, decide_true, decide_false, ix0, ix1, gMul_w ha hd, gMul_w hc hb, h, h2]
theorem lless_ok : F__law_less [N2 a b, N2 c d] = .ok (.bool (decide (a * d < c * b))) := by
  refine run_rt (s := [.v (N2 a b), .v (N2 c d)]) rfl ?_
  unfold m__law_less
  simp only [gSeq, gPar, gPar3, gIfS, gAsg, gNext, gRet, gApp, gOwn, xf, fBin, fUn, fC, fVar, fCall, fCallD, fCons, fNil, fIf, fAnd, fOr, fNot, bOr, bNot, bAnd, bTru, truth, bVal, hName, R.bind, gInt1, gAdd, gSubI, gNeg, gCmp, List.getElem?_cons_succ, List.getElem?_cons_zero, List.set_cons_succ, List.set_cons_zero, Bool.not_true, Bool.not_false, Bool.false_eq_true, if_false, if_true, decide_true, decide_false, ix0, ix1, gMul_w ha hd, gMul_w hc hb]
end


/-! ### slices and lists -/
theorem cut_ok {ds : List D} {a b : Nat} (h : a ≤ b) (hb : b ≤ ds.length) : gCut (.list ds) (some (a : Int)) (some (b : Int)) = .ok (.list ((ds.drop a).take (b - a))) := by
  show R.ok (PyData.list (Sf.cutD ds (some (a : Int)) (some (b : Int)))) = _
  unfold Sf.cutD
  rw [HT.sIx_nat, HT.sIx_nat, Nat.min_eq_left (show a ≤ ds.length by omega), Nat.min_eq_left hb]
theorem cut_lo {ds : List D} {b : Nat} (hb : b ≤ ds.length) : gCut (.list ds) none (some (b : Int)) = .ok (.list (ds.take b)) := by
  show R.ok (PyData.list (Sf.cutD ds none (some (b : Int)))) = _
  unfold Sf.cutD
  rw [HT.sIx_none, HT.sIx_nat, Nat.min_eq_left hb]
  rfl
theorem shaped_list {L : List D} (h : ∀ d ∈ L, d.canLay0 = true ∧ d.depth ≤ 60) : SeqAt.shaped (.list L) = true := by
  have key : PyData.canLayAll0 L = true ∧ PyData.depthAll L ≤ 60 := by
    induction L with
    | nil => exact ⟨rfl, Nat.zero_le _⟩
    | cons d r ih =>
      obtain ⟨h1, h2⟩ := ih fun e he => h e (List.mem_cons_of_mem _ he)
      obtain ⟨h3, h4⟩ := h d List.mem_cons_self
      refine ⟨?_, ?_⟩
      · show (PyData.canLay0 d && PyData.canLayAll0 r) = true
        rw [h3, h1]
        rfl
      · show max (PyData.depth d) (PyData.depthAll r) ≤ 60
        omega
  unfold SeqAt.shaped
  rw [show PyData.canLay0 (.list L) = true from key.1, show PyData.depth (.list L) = PyData.depthAll L + 1 from rfl, decide_eq_true (by have := key.2; omega)]
  rfl
theorem lay_N2 (n d : Int) : (N2 n d).canLay0 = true ∧ (N2 n d).depth ≤ 60 := by
  refine ⟨by simp [N2, PyData.canLay0, PyData.canLayAll0], by simp [N2, PyData.depth, PyData.depthAll]⟩
theorem bools_true : ∀ n : Nat, bools (List.replicate n (.bool true)) = some (List.replicate n true)
  | 0 => rfl
  | n + 1 => by
    rw [List.replicate_succ, List.replicate_succ]
    show (bools (List.replicate n (.bool true))).map (true :: ·) = _
    rw [bools_true n]
    rfl

/-! ### numbers as pairs -/
abbrev Pr := Int × Int
def DP (p : Pr) : D := N2 p.1 p.2
def padd (p q : Pr) : Pr := (nn (p.1 * q.2 + q.1 * p.2) (p.2 * q.2), nd (p.1 * q.2 + q.1 * p.2) (p.2 * q.2))
def pmul (p q : Pr) : Pr := (nn (p.1 * q.1) (p.2 * q.2), nd (p.1 * q.1) (p.2 * q.2))
def Pb (k : Nat) (p : Pr) : Prop := Bn k p.1 ∧ Bn k p.2 ∧ 0 < p.2
def Low (p : Pr) : Prop := 1 ≤ p.2 ∧ gg p.1 p.2 = 1
theorem Pb.mono {k m : Nat} {p : Pr} (h : Pb k p) (l : k ≤ m) : Pb m p := ⟨h.1.mono l, h.2.1.mono l, h.2.2⟩
theorem padd_b {a b : Nat} {p q : Pr} (h : Pb a p) (g : Pb b q) : Pb (a + b + 1) (padd p q) := by
  have ne := mul_pos_ne h.2.2 g.2.2
  have e1 : Bn (a + b + 1) (p.1 * q.2 + q.1 * p.2) := by
    have x1 := h.1.mul g.2.1
    have x2 := g.1.mul h.2.1
    rw [Nat.add_comm b a] at x2
    exact x1.add x2
  have := nd_pos (n := p.1 * q.2 + q.1 * p.2) ne
  exact ⟨nn_bn e1, nd_bn ((h.2.1.mul g.2.1).mono (by omega)), by show 0 < nd _ _; omega⟩
theorem pmul_b {a b : Nat} {p q : Pr} (h : Pb a p) (g : Pb b q) : Pb (a + b) (pmul p q) := by
  have ne := mul_pos_ne h.2.2 g.2.2
  have := nd_pos (n := p.1 * q.1) ne
  exact ⟨nn_bn (h.1.mul g.1), nd_bn (h.2.1.mul g.2.1), by show 0 < nd _ _; omega⟩
theorem padd_low {a b : Nat} {p q : Pr} (h : Pb a p) (g : Pb b q) : Low (padd p q) := by
  have ne := mul_pos_ne h.2.2 g.2.2
  exact ⟨nd_pos ne, nrm_low ne⟩
theorem pmul_low {a b : Nat} {p q : Pr} (h : Pb a p) (g : Pb b q) : Low (pmul p q) := by
  have ne := mul_pos_ne h.2.2 g.2.2
  exact ⟨nd_pos ne, nrm_low ne⟩
theorem low_one : Low (0, 1) := ⟨by decide, by decide⟩
theorem pmul_comm (p q : Pr) : pmul p q = pmul q p := by
  unfold pmul
  rw [Int.mul_comm p.1, Int.mul_comm p.2]
def psum (L : List Pr) : Pr := L.foldl padd (0, 1)
theorem psum_snoc (L : List Pr) (p : Pr) : psum (L ++ [p]) = padd (psum L) p := by
  unfold psum
  rw [List.foldl_append]
  rfl
theorem psum_br {m : Nat} : ∀ (R : List Pr), (∀ p ∈ R, Pb m p) → Pb ((m + 1) * R.length + 1) (psum R.reverse) := by
  intro R
  induction R with
  | nil =>
    intro _
    exact (show Pb 1 (0, 1) from ⟨by unfold Bn; decide, by unfold Bn; decide, by decide⟩).mono (by omega)
  | cons p R ih =>
    intro h
    rw [List.reverse_cons, psum_snoc]
    have h1 := ih fun q hq => h q (List.mem_cons_of_mem _ hq)
    refine (padd_b h1 (h p (List.mem_cons_self ..))).mono ?_
    simp only [List.length_cons]
    rw [Nat.mul_add]
    omega
theorem psum_b {m : Nat} (L : List Pr) (h : ∀ p ∈ L, Pb m p) : Pb ((m + 1) * L.length + 1) (psum L) := by
  have := psum_br L.reverse fun p hp => h p (List.mem_reverse.mp hp)
  rwa [List.reverse_reverse, List.length_reverse] at this
theorem psum_low {m : Nat} (L : List Pr) (h : ∀ p ∈ L, Pb m p) : Low (psum L) := by
  cases hL : L.reverse with
  | nil =>
    have e : L = [] := by simpa using congrArg List.reverse hL
    subst e
    exact low_one
  | cons p r =>
    have e : L = r.reverse ++ [p] := by
      have := congrArg List.reverse hL
      simpa using this
    subst e
    rw [psum_snoc]
    exact padd_low (psum_b (m := m) _ fun q hq => h q (List.mem_append_left _ hq)) (h p (by simp))
theorem lay_DP (p : Pr) : (DP p).canLay0 = true ∧ (DP p).depth ≤ 60 := lay_N2 _ _
theorem islow_ok {p : Pr} (h : Low p) (b : Bn 9000 p.2) : F__law_is_number [DP p] = .ok (.bool true) := lisnum_ok h.1 b h.2


theorem pplus_ok {p q : Pr} (h : Pb 4400 p) (g : Pb 4400 q) : F_plus [DP p, DP q] = .ok (DP (padd p q)) := plus_ok h.1 h.2.1 g.1 g.2.1 h.2.2 g.2.2
theorem ptimes_ok {p q : Pr} (h : Pb 4400 p) (g : Pb 4400 q) : F_times [DP p, DP q] = .ok (DP (pmul p q)) := times_ok h.1 h.2.1 g.1 g.2.1 h.2.2 g.2.2
theorem plplus_ok {p q : Pr} (h : Pb 4400 p) (g : Pb 4400 q) : F__law_plus [DP p, DP q] = .ok (DP (padd p q)) := lplus_ok h.1 h.2.1 g.1 g.2.1 h.2.2 g.2.2
theorem pltimes_ok {p q : Pr} (h : Pb 4400 p) (g : Pb 4400 q) : F__law_times [DP p, DP q] = .ok (DP (pmul p q)) := ltimes_ok h.1 h.2.1 g.1 g.2.1 h.2.2 g.2.2


theorem take_snoc {α : Type} {L : List α} {i : Nat} {x : α} (h : L[i]? = some x) : L.take (i + 1) = L.take i ++ [x] := by
  rw [List.take_add_one, h]
  rfl
theorem map_getP {α : Type} {f : α → D} {L : List α} {i : Nat} {d : D} (h : (L.map f)[i]? = some d) : ∃ p, L[i]? = some p ∧ d = f p := by
  rw [List.getElem?_map] at h
  cases hp : L[i]? with
  | none =>
    rw [hp] at h
    cases h
  | some p =>
    rw [hp] at h
    exact ⟨p, rfl, (Option.some.inj h).symm⟩
/-- a loop that sums by a def that adds -/
theorem sum_loop {F : List D → R D} (hF : ∀ p q : Pr, Pb 4400 p → Pb 4400 q → F [DP p, DP q] = .ok (DP (padd p q))) {m : Nat} (L : List Pr) (h : ∀ p ∈ L, Pb m p) (hm : (m + 1) * L.length + 1 ≤ 4400) (hm2 : m ≤ 4400) (e2 : En) (S : D) :
    ∃ x, gLoop (hName 2) (gAsg (fCallD F (fCons (fVar 1) (fCons (fVar 2) fNil))) (hName 1)) (L.map DP) [.v S, .v (DP (0, 1)), e2] = .nx [.v S, .v (DP (psum L)), x] := by
  obtain ⟨s', e1, x, hs⟩ := loop_inv (tg := hName 2) (b := gAsg (fCallD F (fCons (fVar 1) (fCons (fVar 2) fNil))) (hName 1))
    (fun i s => ∃ x, s = [.v S, .v (DP (psum (L.take i))), x]) (L.map DP) 0 [.v S, .v (DP (0, 1)), e2] ⟨e2, rfl⟩ (by
      rintro i d s hd ⟨x, rfl⟩
      obtain ⟨p, hp, rfl⟩ := map_getP hd
      rw [Nat.zero_add]
      have b1 : Pb 4400 (psum (L.take i)) := (psum_b (m := m) _ fun q hq => h q (List.mem_of_mem_take hq)).mono (by
        have : (L.take i).length ≤ L.length := by rw [List.length_take]; omega
        have := Nat.mul_le_mul_left (m + 1) this
        omega)
      have b2 : Pb 4400 p := (h p (List.mem_of_getElem? hp)).mono hm2
      refine ⟨[.v S, .v (DP (psum (L.take i))), .v (DP p)], [.v S, .v (DP (padd (psum (L.take i)) p)), .v (DP p)], rfl, .inl (asg_nx (show F [_, _] = _ from hF _ _ b1 b2)), .v (DP p), ?_⟩
      rw [take_snoc hp, psum_snoc])
  rw [Nat.zero_add, List.length_map, List.take_length] at hs
  subst hs
  exact ⟨x, e1⟩
theorem zip_pairs : ∀ (L M : List Pr), ((L.map DP).zip (M.map DP)).map (fun p => (PyData.tuple [p.1, p.2])) = (L.zip M).map fun p => .tuple [DP p.1, DP p.2]
  | [], _ => rfl
  | _ :: _, [] => rfl
  | a :: L, b :: M => by
    rw [List.map_cons, List.map_cons, List.zip_cons_cons, List.zip_cons_cons, List.map_cons, List.map_cons, zip_pairs L M]
def pdot (L M : List Pr) : List Pr := (L.zip M).map fun p => pmul p.1 p.2
theorem pdot_len (L M : List Pr) : (pdot L M).length = min L.length M.length := by unfold pdot; simp
theorem pdot_b {m : Nat} {L M : List Pr} (h : ∀ p ∈ L, Pb m p) (g : ∀ p ∈ M, Pb m p) : ∀ p ∈ pdot L M, Pb (m + m) p := by
  intro p hp
  unfold pdot at hp
  obtain ⟨z, hz, rfl⟩ := List.mem_map.mp hp
  obtain ⟨x, y⟩ := z
  exact pmul_b (h x (List.of_mem_zip hz).1) (g y (List.of_mem_zip hz).2)
theorem pdot_comm : ∀ L M : List Pr, pdot L M = pdot M L
  | [], [] => rfl
  | [], _ :: _ => rfl
  | _ :: _, [] => rfl
  | a :: L, b :: M => by
    have ih := pdot_comm L M
    unfold pdot at ih ⊢
    rw [List.zip_cons_cons, List.zip_cons_cons, List.map_cons, List.map_cons, ih, pmul_comm]

/-! ### comprehensions over a range, over a list -/
theorem cloop_rng {i : Nat} {f : Ev → R D} {s : Ev} {g : Nat → D} {n : Nat} (h : ∀ k, k < n → f (s.set i (.v (.int (k : Int)))) = .ok (g k)) : cLoop (hName i) bYes f s (rng 0 n) = .ok ((List.range n).map g) := by
  have aux : ∀ (m : Nat) (l : List Nat), (∀ k ∈ l, k < n) → cLoop (hName i) bYes f s (l.map fun (k : Nat) => PyData.int (0 + (k : Int))) = .ok (l.map g) := by
    intro m l
    induction l with
    | nil => intro _; rfl
    | cons k r ih =>
      intro hl
      have h1 := h k (hl k List.mem_cons_self)
      have h2 := ih fun j hj => hl j (List.mem_cons_of_mem _ hj)
      show cLoop (hName i) bYes f s (PyData.int (0 + (k : Int)) :: r.map fun (k : Nat) => PyData.int (0 + (k : Int))) = _
      unfold cLoop
      rw [Int.zero_add]
      simp only [hName, bYes, h1, h2, R.bind, List.map_cons]
  exact aux n (List.range n) fun k hk => List.mem_range.mp hk
theorem lc_rng {i : Nat} {fA : Ev → R (List D)} {f : Ev → R D} {s : Ev} {g : Nat → D} {n : Nat} (hA : fA s = .ok [.int (n : Int)]) (hn : n ≤ 100000) (h : ∀ k, k < n → f ((s.set i .un).set i (.v (.int (k : Int)))) = .ok (g k)) :
    fLc (sRng1 fA) (hName i) bYes f [i] s = .ok (.list ((List.range n).map g)) := lc_ok (rng1_ok hA (by omega)) (by rw [rng_len]; exact hn) (cloop_rng h)
theorem cloop_seq {i : Nat} {f : Ev → R D} {s : Ev} {g : D → D} : ∀ {ds : List D}, (∀ d ∈ ds, f (s.set i (.v d)) = .ok (g d)) → cLoop (hName i) bYes f s ds = .ok (ds.map g) := fun h => comp_map fun d hd => ⟨_, rfl, h d hd⟩
theorem lc_seq {i : Nat} {src : Ev → R (List D)} {f : Ev → R D} {s : Ev} {g : D → D} {ds : List D} (hA : src s = .ok ds) (hn : ds.length ≤ 100000) (h : ∀ d ∈ ds, f ((s.set i .un).set i (.v d)) = .ok (g d)) :
    fLc src (hName i) bYes f [i] s = .ok (.list (ds.map g)) := lc_ok hA hn (cloop_seq h)
theorem cloop_fil {i : Nat} {t : Ev → R Bool} {f : Ev → R D} {s : Ev} {p : D → Bool} {g : D → D} : ∀ {ds : List D}, (∀ d ∈ ds, t (s.set i (.v d)) = .ok (p d) ∧ f (s.set i (.v d)) = .ok (g d)) → cLoop (hName i) t f s ds = .ok ((ds.filter p).map g)
  | [], _ => rfl
  | d :: r, h => by
    obtain ⟨h1, h2⟩ := h d List.mem_cons_self
    have h3 := cloop_fil (ds := r) fun d hd => h d (List.mem_cons_of_mem _ hd)
    unfold cLoop
    cases hp : p d with
    | true =>
      rw [hp] at h1
      rw [List.filter_cons_of_pos hp]
      simp only [hName, h1, h2, h3, R.bind, List.map_cons]
    | false =>
      rw [hp] at h1
      rw [List.filter_cons_of_neg (by rw [hp]; decide)]
      simp only [hName, h1, h3]
theorem lc_fil {i : Nat} {src : Ev → R (List D)} {t : Ev → R Bool} {f : Ev → R D} {s : Ev} {p : D → Bool} {g : D → D} {ds : List D} (hA : src s = .ok ds) (hn : ds.length ≤ 100000) (h : ∀ d ∈ ds, t ((s.set i .un).set i (.v d)) = .ok (p d) ∧ f ((s.set i .un).set i (.v d)) = .ok (g d)) :
    fLc src (hName i) t f [i] s = .ok (.list ((ds.filter p).map g)) := lc_ok hA hn (cloop_fil h)
theorem bin_ok {o : D → D → R D} {f g : Ev → R D} {s : Ev} {x y : D} (h : f s = .ok x) (k : g s = .ok y) : fBin o f g s = o x y := by
  unfold fBin
  simp only [h, k, R.bind]
theorem bval_ok {f : Ev → R D} {s : Ev} {b : Bool} (h : f s = .ok (.bool b)) : bVal f s = .ok b := by
  unfold bVal
  rw [h]
  rfl
theorem seq_if {c : Ev → R Bool} {f g h : Ev → Fl} {s : Ev} {b : Bool} (e : c s = .ok b) : gSeq (gIfS c f g) h s = if b = true then gSeq f h s else gSeq g h s := by
  unfold gSeq
  rw [if_nx e]
  cases b <;> rfl
/-! ### texts -/
theorem len_app (a b : Str) : (a ++ b).length = a.length + b.length := by
  show (a.cps ++ b.cps).size = _
  rw [Array.size_append]
  rfl
theorem join_len (y : Str) : ∀ ys : List Str, (Txt.join y ys).length ≤ (ys.map (·.length)).sum + ys.length * y.length := by
  intro ys
  rw [TL.join_eq]
  induction ys with
  | nil =>
    have : (Str.join y []).length = 0 := rfl
    rw [this]
    exact Nat.zero_le _
  | cons x r ih =>
    cases r with
    | nil =>
      show x.length ≤ _
      simp
    | cons z r =>
      show (x ++ y ++ Str.join y (z :: r)).length ≤ _
      rw [len_app, len_app]
      simp only [List.map_cons, List.sum_cons, List.length_cons] at ih ⊢
      rw [Nat.add_mul (r.length + 1) 1]
      omega
theorem strOk_iff {x : Str} : PyData.strOk x = true ↔ ∀ c ∈ x.cps.toList, c < 0x110000 := by
  unfold PyData.strOk
  rw [Array.all_eq_true_iff_forall_mem]
  simp
theorem strOk_app {a b : Str} (h : PyData.strOk a = true) (g : PyData.strOk b = true) : PyData.strOk (a ++ b) = true := by
  rw [strOk_iff] at h g ⊢
  intro c hc
  have : c ∈ a.cps.toList ∨ c ∈ b.cps.toList := by
    have e : (a ++ b).cps.toList = a.cps.toList ++ b.cps.toList := by
      show (a.cps ++ b.cps).toList = _
      simp
    rw [e] at hc
    exact List.mem_append.mp hc
  rcases this with h1 | h1
  · exact h c h1
  · exact g c h1
theorem strOk_cut {a : Str} {lo hi : Option Int} (h : PyData.strOk a = true) : PyData.strOk (cutS a lo hi) = true := by
  rw [strOk_iff] at h ⊢
  intro c hc
  unfold cutS at hc
  exact h c (List.mem_of_mem_drop (List.mem_of_mem_take (by simpa using hc)))
theorem strOk_join {y : Str} (hy : PyData.strOk y = true) : ∀ ys : List Str, (∀ x ∈ ys, PyData.strOk x = true) → PyData.strOk (Txt.join y ys) = true := by
  intro ys
  rw [TL.join_eq]
  induction ys with
  | nil =>
    intro _
    rw [strOk_iff]
    intro c hc
    have e : (Str.join y []).cps.toList = [] := rfl
    rw [e] at hc
    cases hc
  | cons x r ih =>
    intro h
    cases r with
    | nil => exact h x List.mem_cons_self
    | cons z r =>
      exact strOk_app (strOk_app (h x List.mem_cons_self) hy) (ih fun u hu => h u (List.mem_cons_of_mem _ hu))
theorem strs_map : ∀ L : List Str, strsOf (L.map .str) = some L
  | [] => rfl
  | x :: r => by
    show (strsOf (r.map .str)).map (x :: ·) = _
    rw [strs_map r]
    rfl
theorem join_ok {L : List Str} (h : (L.map (·.length)).sum + L.length * y.length ≤ 1000) : gJoin (.str y) (.list (L.map .str)) = .ok (.str (Txt.join y L)) := by
  unfold gJoin
  simp only [strs_map]
  exact if_pos (by omega)
theorem gIx_str {z : Str} {j : Nat} {c : Nat} (hz : z.length ≤ 100000) (h : z.cps.toList[j]? = some c) : gIx (.str z) (.int (j : Int)) = .ok (.str ⟨#[c]⟩) := by
  show (if z.length ≤ 100000 then (match atI z.cps.toList (j : Int) with | some c => R.ok (PyData.str ⟨#[c]⟩) | none => .no) else .no) = _
  rw [if_pos hz, atI_nat h]
theorem add_str {x y : Str} (h : x.length + y.length ≤ 100000) : gAdd (.str x) (.str y) = .ok (.str (x ++ y)) := if_pos h
theorem cut_str {z : Str} {lo hi : Option Int} (h : z.length ≤ 100000) : gCut (.str z) lo hi = .ok (.str (cutS z lo hi)) := if_pos h
/-! ### names -/
def signs : Str := Str.ofString "abcdefghijklmnopqrstuvwxyz0123456789"
theorem signs_len : signs.length = 36 := by decide +kernel
theorem signs_ok : PyData.strOk signs = true := by decide +kernel
theorem sign_at (i : Int) : ∃ c : Nat, c < 0x110000 ∧ gIx (.str signs) (.int (i % 36)) = .ok (.str ⟨#[c]⟩) := by
  have h1 := Int.emod_nonneg i (show (36 : Int) ≠ 0 by decide)
  have h2 := Int.emod_lt_of_pos i (show (0 : Int) < 36 by decide)
  have hl : (i % 36).toNat < signs.cps.toList.length := by
    rw [show signs.cps.toList.length = 36 from signs_len]
    omega
  refine ⟨signs.cps.toList[(i % 36).toNat], (strOk_iff.mp signs_ok) _ (List.getElem_mem hl), ?_⟩
  have := gIx_str (z := signs) (j := (i % 36).toNat) (by rw [signs_len]; decide) (List.getElem?_eq_getElem hl)
  rwa [Int.toNat_of_nonneg h1] at this
def natP (p : Nat → Bool) : D → Bool
  | .int j => p j.toNat
  | _ => false
theorem lc_filr {i : Nat} {fA : Ev → R (List D)} {t : Ev → R Bool} {f : Ev → R D} {s : Ev} {p : Nat → Bool} {n : Nat} (hA : fA s = .ok [.int (n : Int)]) (hn : n ≤ 100000)
    (h : ∀ k, k < n → t ((s.set i .un).set i (.v (.int (k : Int)))) = .ok (p k) ∧ f ((s.set i .un).set i (.v (.int (k : Int)))) = .ok (.int (k : Int))) :
    fLc (sRng1 fA) (hName i) t f [i] s = .ok (.list (((List.range n).filter p).map fun (k : Nat) => .int (k : Int))) := by
  have h1 := lc_fil (i := i) (src := sRng1 fA) (t := t) (f := f) (s := s) (ds := rng 0 n) (p := natP p) (g := id) (rng1_ok hA (by omega)) (by rw [rng_len]; exact hn) (by
    intro d hd
    obtain ⟨k, hk, rfl⟩ := List.mem_map.mp hd
    rw [Int.zero_add]
    exact h k (List.mem_range.mp hk))
  rw [h1, List.map_id]
  unfold rng
  rw [List.filter_map]
  have e : (natP p ∘ fun (i : Nat) => PyData.int (0 + (i : Int))) = p := by
    funext k
    show p (0 + (k : Int)).toNat = p k
    rw [Int.zero_add, Int.toNat_natCast]
  rw [e]
  congr 2
  refine List.map_congr_left fun k _ => ?_
  rw [Int.zero_add]


/-! ### numbers as fractions -/
def val (p : Pr) : Rat := Rat.divInt p.1 p.2
def pneg (p : Pr) : Pr := (-p.1, p.2)
theorem val_nrm {n d : Int} (h : d ≠ 0) : val (nn n d, nd n d) = Rat.divInt n d := by
  have hp := nd_pos (n := n) h
  have hg := gg_pos (n := n) h
  unfold val
  show Rat.divInt (nn n d) (nd n d) = _
  rw [Rat.divInt_eq_divInt_iff (by omega) h]
  obtain ⟨a, ha⟩ := gg_dvd_n n d
  obtain ⟨b, hb⟩ := gg_dvd_d n d
  have e1 : nn n d = if d < 0 then -a else a := by
    unfold nn
    split
    · rw [show -n = gg n d * -a by rw [Int.mul_neg, ← ha], Int.mul_ediv_cancel_left _ (by omega)]
    · rw [show n / gg n d = gg n d * a / gg n d by rw [← ha], Int.mul_ediv_cancel_left _ (by omega)]
  have e2 : nd n d = if d < 0 then -b else b := by
    unfold nd
    by_cases hd : d < 0
    · rw [if_pos hd, show ((d.natAbs : Nat) : Int) = gg n d * -b by rw [Int.mul_neg, ← hb]; omega, Int.mul_ediv_cancel_left _ (by omega)]
    · rw [if_neg hd, show ((d.natAbs : Nat) : Int) = gg n d * b by rw [← hb]; omega, Int.mul_ediv_cancel_left _ (by omega)]
  generalize gg n d = g at *
  rw [e1, e2]
  by_cases hd : d < 0
  · rw [if_pos hd, if_pos hd, ha, hb]
    grind
  · rw [if_neg hd, if_neg hd, ha, hb]
    grind
theorem val_padd {a b : Nat} {p q : Pr} (h : Pb a p) (g : Pb b q) : val (padd p q) = val p + val q := by
  have h1 := h.2.2
  have h2 := g.2.2
  unfold padd
  rw [val_nrm (mul_pos_ne h1 h2)]
  unfold val
  rw [Rat.divInt_add_divInt _ _ (by omega) (by omega)]
theorem val_pmul {a b : Nat} {p q : Pr} (h : Pb a p) (g : Pb b q) : val (pmul p q) = val p * val q := by
  have h1 := h.2.2
  have h2 := g.2.2
  unfold pmul
  rw [val_nrm (mul_pos_ne h1 h2)]
  unfold val
  rw [Rat.divInt_mul_divInt]
theorem pneg_b {a : Nat} {p : Pr} (h : Pb a p) : Pb a (pneg p) := ⟨h.1.neg, h.2.1, h.2.2⟩
theorem val_pneg {p : Pr} : val (pneg p) = -val p := by
  unfold val pneg
  show Rat.divInt (-p.1) p.2 = _
  rw [Rat.neg_divInt]
theorem low_val {p : Pr} (h : Low p) : ∃ (z : p.2.toNat ≠ 0) (c : p.1.natAbs.Coprime p.2.toNat), val p = ⟨p.1, p.2.toNat, z, c⟩ := by
  have h1 := h.1
  have h2 := h.2
  unfold gg at h2
  have e : p.2.natAbs = p.2.toNat := by omega
  refine ⟨by omega, ?_, ?_⟩
  · show Nat.gcd _ _ = 1
    rw [e] at h2
    omega
  · unfold val
    rw [Rat.mk_eq_divInt, Int.toNat_of_nonneg (by omega)]
theorem low_inj {p q : Pr} (h : Low p) (g : Low q) (e : val p = val q) : p = q := by
  obtain ⟨z, c, e1⟩ := low_val h
  obtain ⟨z2, c2, e2⟩ := low_val g
  rw [e1, e2] at e
  have e3 := congrArg Rat.num e
  have e4 := congrArg Rat.den e
  have h1 := h.1
  have g1 := g.1
  have e5 : p.1 = q.1 := e3
  have e6 : p.2.toNat = q.2.toNat := e4
  obtain ⟨a, b⟩ := p
  obtain ⟨c, d⟩ := q
  simp only at e5 e6 h1 g1
  rw [e5, show b = d by omega]
theorem val_zero : val (0, 1) = 0 := by
  unfold val
  exact Rat.zero_divInt _
theorem val_one : val (1, 1) = 1 := by
  unfold val
  exact Rat.divInt_self' (by decide)

/-! ### more parts -/
def at0 (l : List Pr) (k : Nat) : Pr := l.getD k (0, 1)
theorem at_ok {l : List Pr} {k : Nat} (hk : k < l.length) : gIx (.list (l.map DP)) (.int (k : Int)) = .ok (DP (at0 l k)) := gIx_list (by
  unfold at0
  rw [List.getElem?_map, List.getD_eq_getElem?_getD, List.getElem?_eq_getElem hk]
  rfl)
def Num (k : Nat) (p : Pr) : Prop := Pb k p ∧ Low p
theorem sub_bd {xs : List Int} (hb : Bd xs) (a n : Nat) : Bd ((xs.drop a).take n) := fun _ h => hb _ (List.mem_of_mem_drop (List.mem_of_mem_take h))
theorem cut_ints {xs : List Int} {a b : Nat} (h : a ≤ b) (hb : b ≤ xs.length) : gCut (.list (xs.map .int)) (some (a : Int)) (some (b : Int)) = .ok (.list (((xs.drop a).take (b - a)).map .int)) := by
  have h1 := cut_ok (ds := xs.map PyData.int) (a := a) (b := b) h (by simp; exact hb)
  rw [← List.map_drop, ← List.map_take] at h1
  exact h1
theorem len_list (ds : List D) : gLen [.list ds] = .ok (.int (ds.length : Int)) := rfl
def nrmP (n d : Int) : Pr := (nn n d, nd n d)
theorem nrmP_num {k : Nat} {n d : Int} (hd : d ≠ 0) (bn : Bn k n) (bd : Bn k d) : Num k (nrmP n d) := ⟨⟨nn_bn bn, nd_bn bd, by have := nd_pos (n := n) hd; show 0 < nd n d; omega⟩, nd_pos hd, nrm_low hd⟩
def dr (xs : List Int) (k : Nat) : Int := xs.getD k 0
theorem dr_ix {xs : List Int} {k : Nat} (h : k < xs.length) : gIx (.list (xs.map .int)) (.int (k : Int)) = .ok (.int (dr xs k)) := gIx_list (by
  unfold dr
  rw [List.getElem?_map, List.getD_eq_getElem?_getD, List.getElem?_eq_getElem h]
  rfl)
theorem dr_bd {xs : List Int} (hb : Bd xs) (k : Nat) : 0 ≤ dr xs k ∧ dr xs k < 1000 := by
  unfold dr
  rw [List.getD_eq_getElem?_getD]
  cases h : xs[k]? with
  | none => exact ⟨by decide, by decide⟩
  | some x => exact hb x (List.mem_of_getElem? h)
/-- a loop that goes on as long as something holds, else answers False -/
theorem loop_all {α : Type} {tg : D → Ev → R Ev} {b : Ev → Fl} {f : α → D} (I : Ev → Prop) (P : α → Bool) : ∀ (L : List α) (s : Ev), I s →
    (∀ x ∈ L, ∀ s, I s → ∃ s1, tg (f x) s = .ok s1 ∧ ((P x = true ∧ ∃ s2, b s1 = .nx s2 ∧ I s2) ∨ (P x = false ∧ b s1 = .rt (.bool false)))) →
    (L.all P = true ∧ ∃ s', gLoop tg b (L.map f) s = .nx s' ∧ I s') ∨ (L.all P = false ∧ gLoop tg b (L.map f) s = .rt (.bool false))
  | [], s, h, _ => .inl ⟨rfl, s, rfl, h⟩
  | x :: r, s, h, st => by
    obtain ⟨s1, h1, h2⟩ := st x List.mem_cons_self s h
    rw [List.map_cons]
    unfold gLoop
    rw [h1]
    rcases h2 with ⟨p, s2, e, i⟩ | ⟨p, e⟩
    · have ih := loop_all I P r s2 i fun y hy => st y (List.mem_cons_of_mem _ hy)
      rw [List.all_cons, p, Bool.true_and]
      simp only [e]
      exact ih
    · right
      rw [List.all_cons, p, Bool.false_and]
      exact ⟨rfl, by simp only [e]⟩
theorem bools_map {α : Type} (P : α → Bool) : ∀ L : List α, bools (L.map fun x => .bool (P x)) = some (L.map P)
  | [] => rfl
  | x :: r => by
    rw [List.map_cons, List.map_cons]
    show (bools (r.map fun x => .bool (P x))).map (P x :: ·) = _
    rw [bools_map P r]
    rfl
theorem all_map {α : Type} (P : α → Bool) (L : List α) : gAll [.list (L.map fun x => .bool (P x))] = .ok (.bool (L.all P)) := by
  simp only [gAll, bools_map]
  simp [List.all_map]
theorem any_map {α : Type} (P : α → Bool) (L : List α) : gAny [.list (L.map fun x => .bool (P x))] = .ok (.bool (L.any P)) := by
  simp only [gAny, bools_map]
  simp [List.any_map]
theorem gEq_DP (p q : Pr) : gEq (DP p) (DP q) = .ok (.bool (decide (p = q))) := by
  unfold gEq DP
  rw [shaped_N2, shaped_N2]
  obtain ⟨a, b⟩ := p
  obtain ⟨c, d⟩ := q
  simp [N2, PyData.eqv, PyData.eqvAll]
  rfl
theorem gNe_DP (p q : Pr) : gNe (DP p) (DP q) = .ok (.bool (!decide (p = q))) := by
  unfold gNe DP
  rw [shaped_N2, shaped_N2]
  obtain ⟨a, b⟩ := p
  obtain ⟨c, d⟩ := q
  simp [N2, PyData.eqv, PyData.eqvAll]
  rfl
theorem low_cross {p q : Pr} (h : Low p) (g : Low q) (e : p.1 * q.2 = q.1 * p.2) : p = q := by
  refine low_inj h g ?_
  have h1 := h.1
  have g1 := g.1
  unfold val
  exact (Rat.divInt_eq_divInt_iff (by omega) (by omega)).mpr e
theorem pick_fun {P : Nat → Pr → Prop} {n : Nat} {f : Nat → R D} (h : ∀ k, k < n → ∃ p, P k p ∧ f k = .ok (DP p)) : ∃ g : Nat → Pr, ∀ k, k < n → P k (g k) ∧ f k = .ok (DP (g k)) := by
  refine ⟨fun k => if hk : k < n then (h k hk).choose else (0, 1), fun k hk => ?_⟩
  simp only [hk, dif_pos]
  exact (h k hk).choose_spec
theorem gEq_str {x y : Str} (hx : PyData.strOk x = true) (hy : PyData.strOk y = true) : gEq (.str x) (.str y) = .ok (.bool (decide (x = y))) := by
  unfold gEq
  have h : (SeqAt.shaped (.str x) && SeqAt.shaped (.str y)) = true := by simp [SeqAt.shaped, PyData.canLay0, PyData.depth, hx, hy]
  rw [if_pos h]
  simp [PyData.eqv]
  rfl
theorem cloop_map {α : Type} {i : Nat} {fe : Ev → R D} {s : Ev} {f g : α → D} : ∀ L : List α, (∀ x ∈ L, fe (s.set i (.v (f x))) = .ok (g x)) → cLoop (hName i) bYes fe s (L.map f) = .ok (L.map g)
  | [], _ => rfl
  | x :: t, h => by
    have ih := cloop_map (i := i) (fe := fe) (s := s) (f := f) (g := g) t fun y hy => h y (List.mem_cons_of_mem _ hy)
    rw [List.map_cons, List.map_cons]
    unfold cLoop
    have e := h x List.mem_cons_self
    simp only [hName, bYes, e, R.bind] at ih ⊢
    rw [ih]
theorem lc_map {α : Type} {i : Nat} {src : Ev → R (List D)} {fe : Ev → R D} {s : Ev} {f g : α → D} {L : List α} (hA : src s = .ok (L.map f)) (hn : L.length ≤ 100000) (h : ∀ x ∈ L, fe ((s.set i .un).set i (.v (f x))) = .ok (g x)) : fLc src (hName i) bYes fe [i] s = .ok (.list (L.map g)) :=
  lc_ok hA (by rw [List.length_map]; exact hn) (cloop_map L h)
theorem cons_ok {f : Ev → R D} {g : Ev → R (List D)} {s : Ev} {x : D} {xs : List D} (h : f s = .ok x) (k : g s = .ok xs) : fCons f g s = .ok (x :: xs) := by
  unfold fCons
  rw [h, k]
  rfl
theorem lst_ok {g : Ev → R (List D)} {s : Ev} {xs : List D} (h : g s = .ok xs) (k : xs.length ≤ 100000) : fLst g s = .ok (.list xs) := by
  unfold fLst
  rw [h]
  exact if_pos k
theorem tup_ok {g : Ev → R (List D)} {s : Ev} {xs : List D} (h : g s = .ok xs) (k : xs.length ≤ 100000) : fTup g s = .ok (.tuple xs) := by
  unfold fTup
  rw [h]
  exact if_pos k
theorem app_ok {i : Nat} {f : Ev → R D} {s : Ev} {ds : List D} {d : D} (h : s[i]? = some (.o ds)) (e : f s = .ok d) (k : ds.length < 100000) : gApp i f s = .nx (s.set i (.o (ds ++ [d]))) := by
  unfold gApp
  rw [h]
  simp only [e, xf]
  exact if_pos k


/-! ### data that repr shows -/
structure Fine (k B : Nat) (d : D) : Prop where
  lay : d.canLay0 = true
  show_ : d.showable = true
  deep : d.depth ≤ k
  long : lenD d ≤ B
theorem Fine.mono {k m B C : Nat} {d : D} (h : Fine k B d) (l : k ≤ m) (b : B ≤ C) : Fine m C d := ⟨h.lay, h.show_, Nat.le_trans h.deep l, Nat.le_trans h.long b⟩
theorem fine_all {k B : Nat} : ∀ {L : List D}, (∀ d ∈ L, Fine k B d) → PyData.canLayAll0 L = true ∧ PyData.showableAll L = true ∧ PyData.depthAll L ≤ k ∧ lenDs L ≤ (B + 2) * L.length
  | [], _ => ⟨rfl, rfl, Nat.zero_le _, Nat.zero_le _⟩
  | d :: r, h => by
    obtain ⟨h1, h2, h3, h4⟩ := fine_all (L := r) fun e he => h e (List.mem_cons_of_mem _ he)
    have g := h d List.mem_cons_self
    refine ⟨?_, ?_, ?_, ?_⟩
    · show (PyData.canLay0 d && PyData.canLayAll0 r) = true
      rw [g.lay, h1]
      rfl
    · show (PyData.showable d && PyData.showableAll r) = true
      rw [g.show_, h2]
      rfl
    · show max (PyData.depth d) (PyData.depthAll r) ≤ k
      exact Nat.max_le.mpr ⟨g.deep, h3⟩
    · show lenD d + 2 + lenDs r ≤ (B + 2) * (r.length + 1)
      have := g.long
      rw [Nat.mul_add]
      omega
theorem fine_list {k B : Nat} {L : List D} (h : ∀ d ∈ L, Fine k B d) : Fine (k + 1) ((B + 2) * L.length + 3) (.list L) := by
  obtain ⟨h1, h2, h3, h4⟩ := fine_all h
  exact ⟨h1, h2, Nat.succ_le_succ h3, Nat.succ_le_succ (Nat.succ_le_succ (Nat.succ_le_succ h4))⟩
theorem fine_tup {k B : Nat} {L : List D} (h : ∀ d ∈ L, Fine k B d) : Fine (k + 1) ((B + 2) * L.length + 3) (.tuple L) := by
  obtain ⟨h1, h2, h3, h4⟩ := fine_all h
  exact ⟨h1, h2, Nat.succ_le_succ h3, Nat.succ_le_succ (Nat.succ_le_succ (Nat.succ_le_succ h4))⟩
theorem fine_int {k : Nat} {i : Int} (h : Bn k i) (hk : 0 < k) (hk2 : k ≤ 1900) : Fine 0 (k + 3) (.int i) := by
  have l : i.natAbs.log2 < k := by
    by_cases z : i.natAbs = 0
    · rw [z]
      exact hk
    · exact (Nat.log2_lt z).mpr h
  exact ⟨rfl, decide_eq_true (by omega), Nat.zero_le _, show i.natAbs.log2 + 3 ≤ k + 3 by omega⟩
theorem fine_str {n : Nat} {x : Str} (h : x.length ≤ n) (o : PyData.strOk x = true) : Fine 0 (10 * n + 2) (.str x) := ⟨o, rfl, Nat.zero_le _, show 10 * x.length + 2 ≤ 10 * n + 2 by omega⟩
theorem fine_DP {k : Nat} {p : Pr} (h : Pb k p) (hk : 0 < k) (hk2 : k ≤ 1900) : Fine 1 (2 * k + 13) (DP p) := by
  have := fine_tup (k := 0) (B := k + 3) (L := [.int p.1, .int p.2]) (by
    intro d hd
    simp only [List.mem_cons, List.not_mem_nil, or_false] at hd
    rcases hd with rfl | rfl
    · exact fine_int h.1 hk hk2
    · exact fine_int h.2.1 hk hk2)
  exact this.mono (Nat.le_refl _) (by simp only [List.length_cons, List.length_nil]; omega)
theorem fine_nums {L : List Pr} (h : ∀ p ∈ L, Num 5 p) (n : L.length ≤ 4) : Fine 2 103 (.list (L.map DP)) := by
  refine (fine_list (k := 1) (B := 23) fun d hd => ?_).mono (Nat.le_refl _) (by simp; omega)
  obtain ⟨p, hp, rfl⟩ := List.mem_map.mp hd
  exact (fine_DP (h p hp).1 (by decide) (by decide)).mono (Nat.le_refl _) (by decide)
theorem repr_fine {k B : Nat} {d : D} (h : Fine k B d) (b : boxD d = true) (hk : k ≤ 60) (hB : B ≤ 100000) : gRepr [d] = .ok (.str d.shown) := by
  have l := Nat.le_trans (shown_len d h.lay) (Nat.le_trans h.long hB)
  have e : reprOk d = true := by
    unfold reprOk
    rw [b, h.lay, h.show_, decide_eq_true (Nat.le_trans h.deep hk), decide_eq_true l]
    rfl
  exact if_pos e
theorem gEqS_same (x : Str) : gEqS (.str x) (.str x) = .ok (.bool true) := by
  show R.ok (PyData.bool (x.cps.toList == x.cps.toList)) = _
  rw [beq_self_eq_true]


/-! ### drawing from a stream: a list of the script, a place, a rest -/
def StOk (l : List D) : Prop := ∃ (ns : List Int) (i st : Int), l = [.list (ns.map .int), .int i, .int st] ∧ 0 ≤ i ∧ 0 ≤ st
theorem draw_ok {l : List D} (h : StOk l) {m : Nat} (hm : 0 < m) (hz : m ≤ 1000000) : ∃ (r : Nat) (l' : List D), StOk l' ∧ r < m ∧ F__law_draw [] l [.int (m : Int)] = .ok (.int (r : Int), l') := by
  obtain ⟨ns, i, st, rfl, hi, hs⟩ := h
  have pw : gPow (.int 10) (.int 18) = .ok (.int 1000000000000000000) := by simp [gPow, gInt2, CPow]
  have x0 : ∀ {j s2 : Int}, gIx (.list [.list (ns.map .int), .int j, .int s2]) (.int 0) = .ok (.list (ns.map .int)) := fun {j s2} => gIx_list (j := 0) rfl
  have x1 : ∀ {j s2 : Int}, gIx (.list [.list (ns.map .int), .int j, .int s2]) (.int 1) = .ok (.int j) := fun {j s2} => gIx_list (j := 1) rfl
  have x2 : ∀ {j s2 : Int}, gIx (.list [.list (ns.map .int), .int j, .int s2]) (.int 2) = .ok (.int s2) := fun {j s2} => gIx_list (j := 2) rfl
  have n1 : ixN 3 1 = some 1 := rfl
  have n2 : ixN 3 2 = some 2 := rfl
  have fin : ∀ (j s2 : Int) (a3 a4 a5 : En), 0 ≤ j → 0 ≤ s2 → ∃ (r : Nat) (l' : List D), StOk l' ∧ r < m ∧ (gSeq (gAsg (fBin gMod (fCall gInt1 (fCons (fIxO 0 (fC (.int 2))) fNil)) (fVar 1)) (hName 2))
    (gSeq (gPut 0 (fBin gDiv (fCall gInt1 (fCons (fIxO 0 (fC (.int 2))) fNil)) (fVar 1)) (fC (.int 2)))
    (gRetM 0 (xE (fVar 2))))) [.m [.list (ns.map .int), .int j, .int s2], .v (.int (m : Int)), .un, a3, a4, a5] = .rm (.int (r : Int)) l' := by
    intro j s2 a3 a4 a5 hj h2
    have a1 := Int.emod_nonneg s2 (show (m : Int) ≠ 0 by omega)
    have a2 := Int.emod_lt_of_pos s2 (show (0 : Int) < (m : Int) by omega)
    have g1 := gMod_ok (i := s2) (j := (m : Int)) (by omega)
    have g2 := gDiv_ok (i := s2) (j := (m : Int)) (by omega) (small_lt (by omega))
    obtain ⟨r, hr, hrm⟩ : ∃ r : Nat, s2 % (m : Int) = (r : Int) ∧ r < m := ⟨(s2 % (m : Int)).toNat, by omega, by omega⟩
    rw [hr] at g1
    refine ⟨r, [.list (ns.map .int), .int j, .int (s2 / (m : Int))], ⟨ns, j, _, rfl, hj, Int.ediv_nonneg h2 (by omega)⟩, hrm, ?_⟩
    refine seq_step (s1 := [.m [.list (ns.map .int), .int j, .int s2], .v (.int (m : Int)), .v (.int (r : Int)), a3, a4, a5]) (by simp only [gSeq, gPar, gPar3, gIfS, gAsg, gNext, gRet, gApp, gOwn, xf, fBin, fUn, fC, fVar, fCall, fCallD, fCons, fNil, fIf, fAnd, fOr, fNot, bOr, bNot, bAnd, bTru, truth, bVal, hName, R.bind, gInt1, gAdd, gSubI, gNeg, gCmp, List.getElem?_cons_succ, List.getElem?_cons_zero, List.set_cons_succ, List.set_cons_zero, Bool.not_true, Bool.not_false, Bool.false_eq_true, if_false, if_true, decide_true, decide_false, fIxO, x2, g1]) ?_
    refine seq_step (s1 := [.m [.list (ns.map .int), .int j, .int (s2 / (m : Int))], .v (.int (m : Int)), .v (.int (r : Int)), a3, a4, a5]) (by simp only [gSeq, gPar, gPar3, gIfS, gAsg, gNext, gRet, gApp, gOwn, xf, fBin, fUn, fC, fVar, fCall, fCallD, fCons, fNil, fIf, fAnd, fOr, fNot, bOr, bNot, bAnd, bTru, truth, bVal, hName, R.bind, gInt1, gAdd, gSubI, gNeg, gCmp, List.getElem?_cons_succ, List.getElem?_cons_zero, List.set_cons_succ, List.set_cons_zero, Bool.not_true, Bool.not_false, Bool.false_eq_true, if_false, if_true, decide_true, decide_false, gPut, fIxO, x2, g2, List.length_cons, List.length_nil, Nat.reduceAdd, n2]) ?_
    simp only [gSeq, gPar, gPar3, gIfS, gAsg, gNext, gRet, gApp, gOwn, xf, fBin, fUn, fC, fVar, fCall, fCallD, fCons, fNil, fIf, fAnd, fOr, fNot, bOr, bNot, bAnd, bTru, truth, bVal, hName, R.bind, gInt1, gAdd, gSubI, gNeg, gCmp, List.getElem?_cons_succ, List.getElem?_cons_zero, List.set_cons_succ, List.set_cons_zero, Bool.not_true, Bool.not_false, Bool.false_eq_true, if_false, if_true, decide_true, decide_false, gRetM, xE]
  have out : ∀ {G : Ev → Fl} {r : Nat} {l' : List D}, G [.m [.list (ns.map .int), .int i, .int st], .v (.int (m : Int)), .un, .un, .un, .un] = .rm (.int (r : Int)) l' → runM 6 0 G [] [.list (ns.map .int), .int i, .int st] [.int (m : Int)] = .ok (.int (r : Int), l') := fun {G r l'} e => by
    unfold runM
    show (match G [.m [.list (ns.map .int), .int i, .int st], .v (.int (m : Int)), .un, .un, .un, .un] with | .rm d es => (R.ok (d, es) : R (D × List D)) | _ => .no) = _
    rw [e]
  by_cases hlt : st < (m : Int)
  · -- a further number
    obtain ⟨cell, hcell⟩ : ∃ cell : Int, ∀ g : Ev → Fl, (gSeq (gAsg (fC (.int 0)) (hName 3)) (gSeq (gIfS (bVal (fBin (gCmp fun i j => decide (i < j)) (fIxO 0 (fC (.int 1))) (fCall gLen (fCons (fIxO 0 (fC (.int 0))) fNil)))) (gAsg (fBin gIx (fIxO 0 (fC (.int 0))) (fIxO 0 (fC (.int 1)))) (hName 3)) gNext) g)) [.m [.list (ns.map .int), .int i, .int st], .v (.int (m : Int)), .un, .un, .un, .un] = g [.m [.list (ns.map .int), .int i, .int st], .v (.int (m : Int)), .un, .v (.int cell), .un, .un] := by
      by_cases hc : i < (ns.length : Int)
      · obtain ⟨j, rfl, hj⟩ : ∃ j : Nat, i = (j : Int) ∧ j < ns.length := ⟨i.toNat, by omega, by omega⟩
        have ix : gIx (.list (ns.map .int)) (.int (j : Int)) = .ok (.int ns[j]) := gIx_list (by rw [List.getElem?_map, List.getElem?_eq_getElem hj]; rfl)
        have hl : gLen [.list (ns.map .int)] = .ok (.int (ns.length : Int)) := by show R.ok _ = _; rw [List.length_map]
        refine ⟨ns[j], fun g => ?_⟩
        refine seq_step (s1 := [.m [.list (ns.map .int), .int (j : Int), .int st], .v (.int (m : Int)), .un, .v (.int 0), .un, .un]) rfl ?_
        refine seq_step (s1 := [.m [.list (ns.map .int), .int (j : Int), .int st], .v (.int (m : Int)), .un, .v (.int ns[j]), .un, .un]) (by simp only [gSeq, gPar, gPar3, gIfS, gAsg, gNext, gRet, gApp, gOwn, xf, fBin, fUn, fC, fVar, fCall, fCallD, fCons, fNil, fIf, fAnd, fOr, fNot, bOr, bNot, bAnd, bTru, truth, bVal, hName, R.bind, gInt1, gAdd, gSubI, gNeg, gCmp, List.getElem?_cons_succ, List.getElem?_cons_zero, List.set_cons_succ, List.set_cons_zero, Bool.not_true, Bool.not_false, Bool.false_eq_true, if_false, if_true, decide_true, decide_false, fIxO, x0, x1, hl, hc, ix]) rfl
      · have hl : gLen [.list (ns.map .int)] = .ok (.int (ns.length : Int)) := by show R.ok _ = _; rw [List.length_map]
        refine ⟨0, fun g => ?_⟩
        refine seq_step (s1 := [.m [.list (ns.map .int), .int i, .int st], .v (.int (m : Int)), .un, .v (.int 0), .un, .un]) rfl ?_
        refine seq_step (s1 := [.m [.list (ns.map .int), .int i, .int st], .v (.int (m : Int)), .un, .v (.int 0), .un, .un]) (by simp only [gSeq, gPar, gPar3, gIfS, gAsg, gNext, gRet, gApp, gOwn, xf, fBin, fUn, fC, fVar, fCall, fCallD, fCons, fNil, fIf, fAnd, fOr, fNot, bOr, bNot, bAnd, bTru, truth, bVal, hName, R.bind, gInt1, gAdd, gSubI, gNeg, gCmp, List.getElem?_cons_succ, List.getElem?_cons_zero, List.set_cons_succ, List.set_cons_zero, Bool.not_true, Bool.not_false, Bool.false_eq_true, if_false, if_true, decide_true, decide_false, fIxO, x0, x1, hl, hc]) rfl
    have p1 : ∀ g : Ev → Fl, (gSeq (gPut 0 (fBin gAdd (fIxO 0 (fC (.int 1))) (fC (.int 1))) (fC (.int 1))) (gSeq (gPut 0 (fVar 3) (fC (.int 2))) g)) [.m [.list (ns.map .int), .int i, .int st], .v (.int (m : Int)), .un, .v (.int cell), .un, .un] = g [.m [.list (ns.map .int), .int (i + 1), .int cell], .v (.int (m : Int)), .un, .v (.int cell), .un, .un] := fun g => by
      refine seq_step (s1 := [.m [.list (ns.map .int), .int (i + 1), .int st], .v (.int (m : Int)), .un, .v (.int cell), .un, .un]) (by simp only [gSeq, gPar, gPar3, gIfS, gAsg, gNext, gRet, gApp, gOwn, xf, fBin, fUn, fC, fVar, fCall, fCallD, fCons, fNil, fIf, fAnd, fOr, fNot, bOr, bNot, bAnd, bTru, truth, bVal, hName, R.bind, gInt1, gAdd, gSubI, gNeg, gCmp, List.getElem?_cons_succ, List.getElem?_cons_zero, List.set_cons_succ, List.set_cons_zero, Bool.not_true, Bool.not_false, Bool.false_eq_true, if_false, if_true, decide_true, decide_false, gPut, fIxO, x1, List.length_cons, List.length_nil, Nat.reduceAdd, n1]) ?_
      refine seq_step (s1 := [.m [.list (ns.map .int), .int (i + 1), .int cell], .v (.int (m : Int)), .un, .v (.int cell), .un, .un]) (by simp only [gSeq, gPar, gPar3, gIfS, gAsg, gNext, gRet, gApp, gOwn, xf, fBin, fUn, fC, fVar, fCall, fCallD, fCons, fNil, fIf, fAnd, fOr, fNot, bOr, bNot, bAnd, bTru, truth, bVal, hName, R.bind, gInt1, gAdd, gSubI, gNeg, gCmp, List.getElem?_cons_succ, List.getElem?_cons_zero, List.set_cons_succ, List.set_cons_zero, Bool.not_true, Bool.not_false, Bool.false_eq_true, if_false, if_true, decide_true, decide_false, gPut, List.length_cons, List.length_nil, Nat.reduceAdd, n2]) rfl
    by_cases hc : cell < 1000000000000000000
    · have t1 := gMul_r (i := cell) (j := 48271) (by decide)
      have t2 := gMul_r (i := i + 1) (j := 69621) (by decide)
      have m1 := gMod_ok (i := cell * 48271 + (i + 1) * 69621) (j := 2147483647) (by decide)
      obtain ⟨mx, hmx, mx0⟩ : ∃ mx, (cell * 48271 + (i + 1) * 69621) % 2147483647 = mx ∧ 0 ≤ mx := ⟨_, rfl, Int.emod_nonneg _ (by decide)⟩
      rw [hmx] at m1
      have t3 := gMul_r (i := mx) (j := 40692) (by decide)
      have t4 := gMul_r (i := cell) (j := 7) (by decide)
      have m2 := gMod_ok (i := mx * 40692 + cell * 7 + 5) (j := 2147483399) (by decide)
      obtain ⟨ot, hot, ot0⟩ : ∃ ot, (mx * 40692 + cell * 7 + 5) % 2147483399 = ot ∧ 0 ≤ ot := ⟨_, rfl, Int.emod_nonneg _ (by decide)⟩
      rw [hot] at m2
      have t5 := gMul_r (i := ot) (j := 2147483563) (by decide)
      obtain ⟨r, l', k1, k2, k3⟩ := fin (i + 1) (ot * 2147483563 + mx + 1000000000000000000) (.v (.int cell)) (.v (.int mx)) (.v (.int ot)) (by omega) (by omega)
      refine ⟨r, l', k1, k2, out ?_⟩
      unfold m__law_draw
      refine seq_step (s1 := [.m [.list (ns.map .int), .int (i + 1), .int (ot * 2147483563 + mx + 1000000000000000000)], .v (.int (m : Int)), .un, .v (.int cell), .v (.int mx), .v (.int ot)]) ?_ k3
      rw [if_nx (b := true) (by simp only [gSeq, gPar, gPar3, gIfS, gAsg, gNext, gRet, gApp, gOwn, xf, fBin, fUn, fC, fVar, fCall, fCallD, fCons, fNil, fIf, fAnd, fOr, fNot, bOr, bNot, bAnd, bTru, truth, bVal, hName, R.bind, gInt1, gAdd, gSubI, gNeg, gCmp, List.getElem?_cons_succ, List.getElem?_cons_zero, List.set_cons_succ, List.set_cons_zero, Bool.not_true, Bool.not_false, Bool.false_eq_true, if_false, if_true, decide_true, decide_false, fIxO, x2, hlt]), if_pos rfl, hcell, p1, if_nx (b := true) (by simp only [gSeq, gPar, gPar3, gIfS, gAsg, gNext, gRet, gApp, gOwn, xf, fBin, fUn, fC, fVar, fCall, fCallD, fCons, fNil, fIf, fAnd, fOr, fNot, bOr, bNot, bAnd, bTru, truth, bVal, hName, R.bind, gInt1, gAdd, gSubI, gNeg, gCmp, List.getElem?_cons_succ, List.getElem?_cons_zero, List.set_cons_succ, List.set_cons_zero, Bool.not_true, Bool.not_false, Bool.false_eq_true, if_false, if_true, decide_true, decide_false, pw, hc]), if_pos rfl]
      refine seq_step (s1 := [.m [.list (ns.map .int), .int (i + 1), .int cell], .v (.int (m : Int)), .un, .v (.int cell), .v (.int mx), .un]) (by simp only [gSeq, gPar, gPar3, gIfS, gAsg, gNext, gRet, gApp, gOwn, xf, fBin, fUn, fC, fVar, fCall, fCallD, fCons, fNil, fIf, fAnd, fOr, fNot, bOr, bNot, bAnd, bTru, truth, bVal, hName, R.bind, gInt1, gAdd, gSubI, gNeg, gCmp, List.getElem?_cons_succ, List.getElem?_cons_zero, List.set_cons_succ, List.set_cons_zero, Bool.not_true, Bool.not_false, Bool.false_eq_true, if_false, if_true, decide_true, decide_false, fIxO, x1, t1, t2, m1]) ?_
      refine seq_step (s1 := [.m [.list (ns.map .int), .int (i + 1), .int cell], .v (.int (m : Int)), .un, .v (.int cell), .v (.int mx), .v (.int ot)]) (by simp only [gSeq, gPar, gPar3, gIfS, gAsg, gNext, gRet, gApp, gOwn, xf, fBin, fUn, fC, fVar, fCall, fCallD, fCons, fNil, fIf, fAnd, fOr, fNot, bOr, bNot, bAnd, bTru, truth, bVal, hName, R.bind, gInt1, gAdd, gSubI, gNeg, gCmp, List.getElem?_cons_succ, List.getElem?_cons_zero, List.set_cons_succ, List.set_cons_zero, Bool.not_true, Bool.not_false, Bool.false_eq_true, if_false, if_true, decide_true, decide_false, t3, t4, m2]) ?_
      simp only [gSeq, gPar, gPar3, gIfS, gAsg, gNext, gRet, gApp, gOwn, xf, fBin, fUn, fC, fVar, fCall, fCallD, fCons, fNil, fIf, fAnd, fOr, fNot, bOr, bNot, bAnd, bTru, truth, bVal, hName, R.bind, gInt1, gAdd, gSubI, gNeg, gCmp, List.getElem?_cons_succ, List.getElem?_cons_zero, List.set_cons_succ, List.set_cons_zero, Bool.not_true, Bool.not_false, Bool.false_eq_true, if_false, if_true, decide_true, decide_false, gPut, pw, t5, List.length_cons, List.length_nil, Nat.reduceAdd, n2]
    · obtain ⟨r, l', k1, k2, k3⟩ := fin (i + 1) cell (.v (.int cell)) .un .un (by omega) (by omega)
      refine ⟨r, l', k1, k2, out ?_⟩
      unfold m__law_draw
      refine seq_step (s1 := [.m [.list (ns.map .int), .int (i + 1), .int cell], .v (.int (m : Int)), .un, .v (.int cell), .un, .un]) ?_ k3
      rw [if_nx (b := true) (by simp only [gSeq, gPar, gPar3, gIfS, gAsg, gNext, gRet, gApp, gOwn, xf, fBin, fUn, fC, fVar, fCall, fCallD, fCons, fNil, fIf, fAnd, fOr, fNot, bOr, bNot, bAnd, bTru, truth, bVal, hName, R.bind, gInt1, gAdd, gSubI, gNeg, gCmp, List.getElem?_cons_succ, List.getElem?_cons_zero, List.set_cons_succ, List.set_cons_zero, Bool.not_true, Bool.not_false, Bool.false_eq_true, if_false, if_true, decide_true, decide_false, fIxO, x2, hlt]), if_pos rfl, hcell, p1, if_nx (b := false) (by simp only [gSeq, gPar, gPar3, gIfS, gAsg, gNext, gRet, gApp, gOwn, xf, fBin, fUn, fC, fVar, fCall, fCallD, fCons, fNil, fIf, fAnd, fOr, fNot, bOr, bNot, bAnd, bTru, truth, bVal, hName, R.bind, gInt1, gAdd, gSubI, gNeg, gCmp, List.getElem?_cons_succ, List.getElem?_cons_zero, List.set_cons_succ, List.set_cons_zero, Bool.not_true, Bool.not_false, Bool.false_eq_true, if_false, if_true, decide_true, decide_false, pw, hc]), if_neg (by decide)]
      rfl
  · obtain ⟨r, l', k1, k2, k3⟩ := fin i st .un .un .un hi hs
    refine ⟨r, l', k1, k2, out ?_⟩
    unfold m__law_draw
    refine seq_step (s1 := [.m [.list (ns.map .int), .int i, .int st], .v (.int (m : Int)), .un, .un, .un, .un]) ?_ k3
    rw [if_nx (b := false) (by simp only [gSeq, gPar, gPar3, gIfS, gAsg, gNext, gRet, gApp, gOwn, xf, fBin, fUn, fC, fVar, fCall, fCallD, fCons, fNil, fIf, fAnd, fOr, fNot, bOr, bNot, bAnd, bTru, truth, bVal, hName, R.bind, gInt1, gAdd, gSubI, gNeg, gCmp, List.getElem?_cons_succ, List.getElem?_cons_zero, List.set_cons_succ, List.set_cons_zero, Bool.not_true, Bool.not_false, Bool.false_eq_true, if_false, if_true, decide_true, decide_false, fIxO, x2, hlt]), if_neg (by decide)]
    rfl


/-! ### numbers: more -/
theorem Num.mono {a b : Nat} {p : Pr} (h : Num a p) (l : a ≤ b) : Num b p := ⟨h.1.mono l, h.2⟩
theorem padd_num {a b : Nat} {p q : Pr} (h : Pb a p) (g : Pb b q) : Num (a + b + 1) (padd p q) := ⟨padd_b h g, padd_low h g⟩
theorem pmul_num {a b : Nat} {p q : Pr} (h : Pb a p) (g : Pb b q) : Num (a + b) (pmul p q) := ⟨pmul_b h g, pmul_low h g⟩
theorem DP_0 {p : Pr} : gIx (DP p) (.int 0) = .ok (.int p.1) := ix0
theorem DP_1 {p : Pr} : gIx (DP p) (.int 1) = .ok (.int p.2) := ix1
theorem pminus_ok {p q : Pr} (h : Pb 4400 p) (g : Pb 4400 q) : F_minus [DP p, DP q] = .ok (DP (padd p (pneg q))) := by
  have e := minus_ok h.1 h.2.1 g.1 g.2.1 h.2.2 g.2.2
  have z : padd p (pneg q) = (nn (p.1 * q.2 - q.1 * p.2) (p.2 * q.2), nd (p.1 * q.2 - q.1 * p.2) (p.2 * q.2)) := by
    unfold padd pneg
    simp only [Int.neg_mul, ← Int.sub_eq_add_neg]
  rw [z]
  exact e
theorem plminus_ok {p q : Pr} (h : Pb 4400 p) (g : Pb 4400 q) : F__law_minus [DP p, DP q] = .ok (DP (padd p (pneg q))) := by
  have e := plplus_ok h (pneg_b g)
  have e' : F__law_plus [DP p, .tuple [.int (-q.1), .int q.2]] = .ok (DP (padd p (pneg q))) := e
  refine run_rt (s := [.v (DP p), .v (DP q)]) rfl ?_
  unfold m__law_minus
  simp only [gSeq, gPar, gPar3, gIfS, gAsg, gNext, gRet, gApp, gOwn, xf, fBin, fUn, fC, fVar, fCall, fCallD, fCons, fNil, fIf, fAnd, fOr, fNot, bOr, bNot, bAnd, bTru, truth, bVal, hName, R.bind, gInt1, gAdd, gSubI, gNeg, gCmp, List.getElem?_cons_succ, List.getElem?_cons_zero, List.set_cons_succ, List.set_cons_zero, Bool.not_true, Bool.not_false, Bool.false_eq_true, if_false, if_true, decide_true, decide_false, fTup, List.length_cons, List.length_nil, Nat.reduceAdd, Nat.reduceLeDiff, DP_0, DP_1, Int.zero_sub, e']
def lt (p q : Pr) : Bool := decide (p.1 * q.2 < q.1 * p.2)
theorem ord_le0 (p q : Pr) : decide (ord p.1 p.2 q.1 q.2 ≤ 0) = !lt q p := by
  unfold ord lt
  by_cases h1 : p.1 * q.2 < q.1 * p.2
  · rw [if_pos h1, decide_eq_false (show ¬ q.1 * p.2 < p.1 * q.2 by omega)]
    rfl
  · rw [if_neg h1]
    by_cases h2 : q.1 * p.2 < p.1 * q.2
    · rw [if_pos h2, decide_eq_true h2]
      rfl
    · rw [if_neg h2, decide_eq_false h2]
      rfl
theorem pcomp_ok {p q : Pr} (h : Pb 4400 p) (g : Pb 4400 q) : F_compare [DP p, DP q] = .ok (.int (ord p.1 p.2 q.1 q.2)) := compare_ok h.1 h.2.1 g.1 g.2.1 h.2.2 g.2.2
theorem plless_ok {p q : Pr} (h : Pb 4400 p) (g : Pb 4400 q) : F__law_less [DP p, DP q] = .ok (.bool (lt p q)) := lless_ok h.1 h.2.1 g.1 g.2.1 h.2.2 g.2.2
theorem rng2_ok {fA : Ev → R (List D)} {s : Ev} {lo : Int} {n : Nat} (h : fA s = .ok [.int lo, .int (lo + (n : Int))]) (hl : -1000000 ≤ lo ∧ lo ≤ 1000000) (hn : n ≤ 1000000) : sRng2 fA s = .ok ((List.range n).map fun (i : Nat) => .int (lo + (i : Int))) := by
  have e1 : inM lo = true := inM_to (by omega)
  have e2 : inM (lo + (n : Int)) = true := inM_to (by omega)
  show (fA s).bind gRng2 = _
  rw [h]
  show gRng2 [.int lo, .int (lo + (n : Int))] = _
  unfold gRng2
  simp only [e1, e2, and_self, if_true]
  rw [show lo + (n : Int) - lo = (n : Int) by omega, Int.toNat_natCast]
  rfl
theorem cut_from {ds : List D} {n : Nat} (h : n ≤ ds.length) : gCut (.list ds) (some (n : Int)) none = .ok (.list (ds.drop n)) := by
  show R.ok (PyData.list (Sf.cutD ds (some (n : Int)) none)) = _
  unfold Sf.cutD
  rw [HT.sIx_none, HT.sIx_nat, Nat.min_eq_left h, List.take_of_length_le (by rw [List.length_drop]; exact Nat.le_refl _)]


/-! ### pieces of lines -/
structure Pc where
  s : Pr
  v : Pr
  m : Pr
def DPc (p : Pc) : D := .tuple [DP p.s, DP p.v, DP p.m]
structure PcOk (k : Nat) (p : Pc) : Prop where
  s : Num k p.s
  v : Num k p.v
  m : Num k p.m
theorem PcOk.mono {a b : Nat} {p : Pc} (h : PcOk a p) (l : a ≤ b) : PcOk b p := ⟨⟨h.s.1.mono l, h.s.2⟩, ⟨h.v.1.mono l, h.v.2⟩, ⟨h.m.1.mono l, h.m.2⟩⟩
theorem DPc_0 {p : Pc} : gIx (DPc p) (.int 0) = .ok (DP p.s) := gIx_tup (j := 0) rfl
theorem DPc_1 {p : Pc} : gIx (DPc p) (.int 1) = .ok (DP p.v) := gIx_tup (j := 1) rfl
theorem DPc_2 {p : Pc} : gIx (DPc p) (.int 2) = .ok (DP p.m) := gIx_tup (j := 2) rfl
def tell (p : Pc) (x : Pr) : Pr := padd p.v (pmul p.m (padd x (pneg p.s)))
theorem tell_num {k : Nat} {p : Pc} (h : PcOk k p) {m : Nat} {x : Pr} (g : Pb m x) : Num (k + (k + (m + k + 1)) + 1) (tell p x) :=
  padd_num h.v.1 (pmul_b h.m.1 (padd_b g (pneg_b h.s.1)))
theorem told_ok {p : Pc} (h : PcOk 700 p) {x : Pr} (g : Pb 700 x) : F__told [DPc p, DP x] = .ok (DP (tell p x)) := by
  have b1 := padd_b g (pneg_b h.s.1)
  have e1 := pminus_ok (g.mono (by decide)) (h.s.1.mono (show 700 ≤ 4400 by decide))
  have e2 := ptimes_ok (h.m.1.mono (show 700 ≤ 4400 by decide)) (b1.mono (by decide))
  have e3 := pplus_ok (h.v.1.mono (show 700 ≤ 4400 by decide)) ((pmul_b h.m.1 b1).mono (by decide))
  refine run_rt (s := [.v (DPc p), .v (DP x), .un, .un, .un]) rfl ?_
  unfold m__told
  refine seq_step (s1 := [.v (DPc p), .v (DP x), .v (DP p.s), .v (DP p.v), .v (DP p.m)]) rfl ?_
  simp only [gSeq, gPar, gPar3, gIfS, gAsg, gNext, gRet, gApp, gOwn, xf, fBin, fUn, fC, fVar, fCall, fCallD, fCons, fNil, fIf, fAnd, fOr, fNot, bOr, bNot, bAnd, bTru, truth, bVal, hName, R.bind, gInt1, gAdd, gSubI, gNeg, gCmp, List.getElem?_cons_succ, List.getElem?_cons_zero, List.set_cons_succ, List.set_cons_zero, Bool.not_true, Bool.not_false, Bool.false_eq_true, if_false, if_true, decide_true, decide_false, e1, e2, e3]
  rfl
theorem ltold_ok {p : Pc} (h : PcOk 700 p) {x : Pr} (g : Pb 700 x) : F__law_piece_tells [DPc p, DP x] = .ok (DP (tell p x)) := by
  have b1 := padd_b g (pneg_b h.s.1)
  have e1 := plminus_ok (g.mono (by decide)) (h.s.1.mono (show 700 ≤ 4400 by decide))
  have e2 := pltimes_ok (h.m.1.mono (show 700 ≤ 4400 by decide)) (b1.mono (by decide))
  have e3 := plplus_ok (h.v.1.mono (show 700 ≤ 4400 by decide)) ((pmul_b h.m.1 b1).mono (by decide))
  refine run_rt (s := [.v (DPc p), .v (DP x)]) rfl ?_
  unfold m__law_piece_tells
  simp only [gSeq, gPar, gPar3, gIfS, gAsg, gNext, gRet, gApp, gOwn, xf, fBin, fUn, fC, fVar, fCall, fCallD, fCons, fNil, fIf, fAnd, fOr, fNot, bOr, bNot, bAnd, bTru, truth, bVal, hName, R.bind, gInt1, gAdd, gSubI, gNeg, gCmp, List.getElem?_cons_succ, List.getElem?_cons_zero, List.set_cons_succ, List.set_cons_zero, Bool.not_true, Bool.not_false, Bool.false_eq_true, if_false, if_true, decide_true, decide_false, DPc_0, DPc_1, DPc_2, e1, e2, e3]
  rfl
/-! ### which piece -/
def sel (x : Pr) (f : Pc) : List Pc → Pc
  | [] => f
  | p :: r => sel x (if lt x p.s = true then f else p) r
theorem sel_snoc (x : Pr) : ∀ (L : List Pc) (f p : Pc), sel x f (L ++ [p]) = if lt x p.s = true then sel x f L else p
  | [], _, _ => rfl
  | q :: r, f, p => by
    show sel x _ (r ++ [p]) = _
    rw [sel_snoc x r]
    rfl
theorem sel_mem (x : Pr) : ∀ (L : List Pc) (f : Pc), sel x f L = f ∨ sel x f L ∈ L
  | [], _ => .inl rfl
  | q :: r, f => by
    show sel x _ r = f ∨ sel x _ r ∈ _
    rcases sel_mem x r (if lt x q.s = true then f else q) with h | h
    · rw [h]
      split
      · exact .inl rfl
      · exact .inr List.mem_cons_self
    · exact .inr (List.mem_cons_of_mem _ h)
def head0 (L : List Pc) : Pc := L.headD ⟨(0, 1), (0, 1), (0, 1)⟩
def tellL (L : List Pc) (x : Pr) : Pr := tell (sel x (head0 L) L) x
theorem head_ix {L : List Pc} (h : L ≠ []) : gIx (.list (L.map DPc)) (.int 0) = .ok (DPc (head0 L)) := by
  cases L with
  | nil => exact absurd rfl h
  | cons p r => exact gIx_list (j := 0) rfl
theorem head_mem {L : List Pc} (h : L ≠ []) : head0 L ∈ L := by
  cases L with
  | nil => exact absurd rfl h
  | cons p r => exact List.mem_cons_self
theorem sel_ok {k : Nat} {L : List Pc} (h : L ≠ []) (ok : ∀ p ∈ L, PcOk k p) (x : Pr) : PcOk k (sel x (head0 L) L) := by
  rcases sel_mem x L (head0 L) with e | e
  · rw [e]
    exact ok _ (head_mem h)
  · exact ok _ e
theorem ltells_ok {L : List Pc} (h : L ≠ []) (ok : ∀ p ∈ L, PcOk 700 p) {x : Pr} (g : Pb 700 x) : F__law_tells [.list (L.map DPc), DP x] = .ok (DP (tellL L x)) := by
  obtain ⟨s', e, x3, hs⟩ := loop_inv (tg := hName 3) (b := l__law_tells_1)
    (fun i s => ∃ x3, s = [.v (.list (L.map DPc)), .v (DP x), .v (DPc (sel x (head0 L) (L.take i))), x3]) (L.map DPc) 0 [.v (.list (L.map DPc)), .v (DP x), .v (DPc (head0 L)), .un] ⟨.un, rfl⟩ (by
      rintro i d s hd ⟨x3, rfl⟩
      obtain ⟨p, hp, rfl⟩ := map_getP hd
      rw [Nat.zero_add]
      have kp := ok p (List.mem_of_getElem? hp)
      have c := plless_ok (g.mono (show 700 ≤ 4400 by decide)) (kp.s.1.mono (show 700 ≤ 4400 by decide))
      refine ⟨[.v (.list (L.map DPc)), .v (DP x), .v (DPc (sel x (head0 L) (L.take i))), .v (DPc p)], [.v (.list (L.map DPc)), .v (DP x), .v (DPc (sel x (head0 L) (L.take (i + 1)))), .v (DPc p)], rfl, .inl ?_, _, rfl⟩
      unfold l__law_tells_1
      rw [if_nx (b := !lt x p.s) (by simp only [gSeq, gPar, gPar3, gIfS, gAsg, gNext, gRet, gApp, gOwn, xf, fBin, fUn, fC, fVar, fCall, fCallD, fCons, fNil, fIf, fAnd, fOr, fNot, bOr, bNot, bAnd, bTru, truth, bVal, hName, R.bind, gInt1, gAdd, gSubI, gNeg, gCmp, List.getElem?_cons_succ, List.getElem?_cons_zero, List.set_cons_succ, List.set_cons_zero, Bool.not_true, Bool.not_false, Bool.false_eq_true, if_false, if_true, decide_true, decide_false, DPc_0, c]), take_snoc hp, sel_snoc]
      cases lt x p.s <;> rfl)
  rw [Nat.zero_add, List.length_map, List.take_length] at hs
  subst hs
  have t := ltold_ok (sel_ok h ok x) g
  refine run_rt (s := [.v (.list (L.map DPc)), .v (DP x), .un, .un]) rfl ?_
  unfold m__law_tells
  refine seq_step (s1 := [.v (.list (L.map DPc)), .v (DP x), .v (DPc (head0 L)), .un]) (by simp only [gSeq, gPar, gPar3, gIfS, gAsg, gNext, gRet, gApp, gOwn, xf, fBin, fUn, fC, fVar, fCall, fCallD, fCons, fNil, fIf, fAnd, fOr, fNot, bOr, bNot, bAnd, bTru, truth, bVal, hName, R.bind, gInt1, gAdd, gSubI, gNeg, gCmp, List.getElem?_cons_succ, List.getElem?_cons_zero, List.set_cons_succ, List.set_cons_zero, Bool.not_true, Bool.not_false, Bool.false_eq_true, if_false, if_true, decide_true, decide_false, head_ix h]) ?_
  refine seq_step ((for_nx (show sSeq (fVar 0) _ = .ok (L.map DPc) from rfl)).trans e) ?_
  simp only [gSeq, gPar, gPar3, gIfS, gAsg, gNext, gRet, gApp, gOwn, xf, fBin, fUn, fC, fVar, fCall, fCallD, fCons, fNil, fIf, fAnd, fOr, fNot, bOr, bNot, bAnd, bTru, truth, bVal, hName, R.bind, gInt1, gAdd, gSubI, gNeg, gCmp, List.getElem?_cons_succ, List.getElem?_cons_zero, List.set_cons_succ, List.set_cons_zero, Bool.not_true, Bool.not_false, Bool.false_eq_true, if_false, if_true, decide_true, decide_false, t]
  rfl
/-! ### whether pieces are a line -/
def stepB (a b : Pc) : Bool := lt a.s b.s && (!decide (a.m = b.m) && decide (tell a b.s = b.v))
def linB (L : List Pc) : Bool := match L with
  | [] => false
  | p :: r => decide (p.s = (0, 1)) && ((p :: r).zip r).all fun z => stepB z.1 z.2
theorem shaped_DPc (p : Pc) : SeqAt.shaped (DPc p) = true := by simp [DPc, DP, N2, SeqAt.shaped, PyData.canLay0, PyData.canLayAll0, PyData.depth, PyData.depthAll]
theorem zip_pcs : ∀ (L M : List Pc), ((L.map DPc).zip (M.map DPc)).map (fun p => (PyData.tuple [p.1, p.2])) = (L.zip M).map fun p => .tuple [DPc p.1, DPc p.2]
  | [], _ => rfl
  | _ :: _, [] => rfl
  | a :: L, b :: M => by
    rw [List.map_cons, List.map_cons, List.zip_cons_cons, List.zip_cons_cons, List.map_cons, List.map_cons, zip_pcs L M]
theorem range_zip {α : Type} (d : α) (p : α) (r : List α) : (List.range r.length).map (fun i => ((p :: r).getD i d, (p :: r).getD (i + 1) d)) = (p :: r).zip r := by
  refine List.ext_getElem (by simp) fun i h1 h2 => ?_
  simp at h1
  simp [List.getElem_zip, List.getD_eq_getElem?_getD]
  refine ⟨?_, ?_⟩
  · rw [List.getElem?_eq_getElem (by simp; omega)]
    rfl
  · rw [List.getElem?_eq_getElem h1]
    rfl
theorem lisline_ok {L : List Pc} (ok : ∀ p ∈ L, PcOk 700 p) (hz : L.length ≤ 1000) : F__law_is_line [.list (L.map DPc)] = .ok (.bool (linB L)) := by
  have k1 : gIsi "list" (.list (L.map DPc)) = .ok (.bool true) := by unfold gIsi; rfl
  have kl : gLen [.list (L.map DPc)] = .ok (.int (L.length : Int)) := by show R.ok _ = _; rw [List.length_map]
  refine run_rt (s := [.v (.list (L.map DPc)), .un, .un, .un, .un]) rfl ?_
  unfold m__law_is_line
  cases hL : L with
  | nil => rfl
  | cons p r =>
  rw [← hL]
  have hlen : L.length = r.length + 1 := by rw [hL]; rfl
  have c0 : decide ((L.length : Int) = 0) = false := decide_eq_false (by omega)
  refine seq_step (s1 := [.v (.list (L.map DPc)), .un, .un, .un, .un]) (by simp only [gSeq, gPar, gPar3, gIfS, gAsg, gNext, gRet, gApp, gOwn, xf, fBin, fUn, fC, fVar, fCall, fCallD, fCons, fNil, fIf, fAnd, fOr, fNot, bOr, bNot, bAnd, bTru, truth, bVal, hName, R.bind, gInt1, gAdd, gSubI, gNeg, gCmp, List.getElem?_cons_succ, List.getElem?_cons_zero, List.set_cons_succ, List.set_cons_zero, Bool.not_true, Bool.not_false, Bool.false_eq_true, if_false, if_true, decide_true, decide_false, k1, kl, gEq_i, c0]) ?_
  -- all are numbers
  obtain ⟨s1, e1, x1, hs1⟩ := loop_inv (tg := hName 1) (b := l__law_is_line_2) (fun _ s => ∃ x1, s = [.v (.list (L.map DPc)), x1, .un, .un, .un]) (L.map DPc) 0 [.v (.list (L.map DPc)), .un, .un, .un, .un] ⟨_, rfl⟩ (by
    rintro i d s hd ⟨x1, rfl⟩
    obtain ⟨q, hq, rfl⟩ := map_getP hd
    have kq := ok q (List.mem_of_getElem? hq)
    have i1 : gIsi "tuple" (DPc q) = .ok (.bool true) := by unfold gIsi; rfl
    have i2 : gLen [DPc q] = .ok (.int 3) := rfl
    have i3 : gNe (.int 3) (.int 3) = .ok (.bool false) := by rw [gNe_i]; rfl
    have n1 := islow_ok kq.s.2 (kq.s.1.2.1.mono (show 700 ≤ 9000 by decide))
    have n2 := islow_ok kq.v.2 (kq.v.1.2.1.mono (show 700 ≤ 9000 by decide))
    have n3 := islow_ok kq.m.2 (kq.m.1.2.1.mono (show 700 ≤ 9000 by decide))
    have lc : fLc (sSeq (fVar 1)) (hName 4) bYes (fCallD F__law_is_number (fCons (fVar 4) fNil)) [4] [.v (.list (L.map DPc)), .v (DPc q), .un, .un, .un] = .ok (.list [.bool true, .bool true, .bool true]) := by
      refine lc_ok (ds := [DP q.s, DP q.v, DP q.m]) rfl (by simp) ?_
      show cLoop _ _ _ [.v (.list (L.map DPc)), .v (DPc q), .un, .un, .un] _ = _
      simp only [cLoop, hName, bYes, gSeq, gPar, gPar3, gIfS, gAsg, gNext, gRet, gApp, gOwn, xf, fBin, fUn, fC, fVar, fCall, fCallD, fCons, fNil, fIf, fAnd, fOr, fNot, bOr, bNot, bAnd, bTru, truth, bVal, hName, R.bind, gInt1, gAdd, gSubI, gNeg, gCmp, List.getElem?_cons_succ, List.getElem?_cons_zero, List.set_cons_succ, List.set_cons_zero, Bool.not_true, Bool.not_false, Bool.false_eq_true, if_false, if_true, decide_true, decide_false, n1, n2, n3]
    have ga : gAll [.list [.bool true, .bool true, .bool true]] = .ok (.bool true) := rfl
    refine ⟨[.v (.list (L.map DPc)), .v (DPc q), .un, .un, .un], [.v (.list (L.map DPc)), .v (DPc q), .un, .un, .un], rfl, .inl ?_, _, rfl⟩
    unfold l__law_is_line_2
    simp only [gSeq, gPar, gPar3, gIfS, gAsg, gNext, gRet, gApp, gOwn, xf, fBin, fUn, fC, fVar, fCall, fCallD, fCons, fNil, fIf, fAnd, fOr, fNot, bOr, bNot, bAnd, bTru, truth, bVal, hName, R.bind, gInt1, gAdd, gSubI, gNeg, gCmp, List.getElem?_cons_succ, List.getElem?_cons_zero, List.set_cons_succ, List.set_cons_zero, Bool.not_true, Bool.not_false, Bool.false_eq_true, if_false, if_true, decide_true, decide_false, i1, i2, i3, lc, ga])
  subst hs1
  refine seq_step ((for_nx (show sSeq (fVar 0) _ = .ok (L.map DPc) from rfl)).trans e1) ?_
  have ne : L ≠ [] := by rw [hL]; exact fun z => nomatch z
  have hd0 := head_ix ne
  have h0 : head0 L = p := by rw [hL]; rfl
  rw [h0] at hd0
  have q0 := gNe_DP p.s (0, 1)
  replace q0 : gNe (DP p.s) (.tuple [.int 0, .int 1]) = .ok (.bool (!decide (p.s = (0, 1)))) := q0
  have lin : linB L = (decide (p.s = (0, 1)) && (L.zip r).all fun z => stepB z.1 z.2) := by rw [hL]; rfl
  rw [lin]
  cases hp0 : decide (p.s = (0, 1)) with
  | false =>
    rw [hp0] at q0
    refine seq_rt ?_
    simp only [gSeq, gPar, gPar3, gIfS, gAsg, gNext, gRet, gApp, gOwn, xf, fBin, fUn, fC, fVar, fCall, fCallD, fCons, fNil, fIf, fAnd, fOr, fNot, bOr, bNot, bAnd, bTru, truth, bVal, hName, R.bind, gInt1, gAdd, gSubI, gNeg, gCmp, List.getElem?_cons_succ, List.getElem?_cons_zero, List.set_cons_succ, List.set_cons_zero, Bool.not_true, Bool.not_false, Bool.false_eq_true, if_false, if_true, decide_true, decide_false, fTup, List.length_cons, List.length_nil, Nat.reduceAdd, Nat.reduceLeDiff, hd0, DPc_0, q0]
    rfl
  | true =>
    rw [hp0] at q0
    refine seq_step (s1 := [.v (.list (L.map DPc)), x1, .un, .un, .un]) (by simp only [gSeq, gPar, gPar3, gIfS, gAsg, gNext, gRet, gApp, gOwn, xf, fBin, fUn, fC, fVar, fCall, fCallD, fCons, fNil, fIf, fAnd, fOr, fNot, bOr, bNot, bAnd, bTru, truth, bVal, hName, R.bind, gInt1, gAdd, gSubI, gNeg, gCmp, List.getElem?_cons_succ, List.getElem?_cons_zero, List.set_cons_succ, List.set_cons_zero, Bool.not_true, Bool.not_false, Bool.false_eq_true, if_false, if_true, decide_true, decide_false, fTup, List.length_cons, List.length_nil, Nat.reduceAdd, Nat.reduceLeDiff, hd0, DPc_0, q0]) ?_
    have src : ∀ s : Ev, s[0]? = some (.v (.list (L.map DPc))) → sRng2 (fCons (fC (.int 1)) (fCons (fCall gLen (fCons (fVar 0) fNil)) fNil)) s = .ok ((List.range r.length).map fun (i : Nat) => .int (1 + (i : Int))) := fun s hs => by
      have h1 : (fCons (fC (.int 1)) (fCons (fCall gLen (fCons (fVar 0) fNil)) fNil)) s = .ok [.int 1, .int (L.length : Int)] := by
        simp only [fCons, fC, fNil, fCall, fVar, hs, R.bind, kl]
      exact rng2_ok (lo := 1) (n := r.length) (by rw [h1, show (L.length : Int) = 1 + (r.length : Int) by omega]) (by omega) (by omega)
    have sm := range_zip ⟨(0, 1), (0, 1), (0, 1)⟩ p r
    have hall : (L.zip r).all (fun z => stepB z.1 z.2) = (List.range r.length).all fun i => stepB (L.getD i ⟨(0, 1), (0, 1), (0, 1)⟩) (L.getD (i + 1) ⟨(0, 1), (0, 1), (0, 1)⟩) := by
      rw [hL, ← sm, List.all_map]
      rfl
    rw [hall]
    have turn := loop_all (α := Nat) (tg := hName 2) (b := l__law_is_line_1) (f := fun (i : Nat) => .int (1 + (i : Int))) (fun s => ∃ a b c, s = [.v (.list (L.map DPc)), a, b, c, .un]) (fun i => stepB (L.getD i ⟨(0, 1), (0, 1), (0, 1)⟩) (L.getD (i + 1) ⟨(0, 1), (0, 1), (0, 1)⟩)) (List.range r.length) [.v (.list (L.map DPc)), x1, .un, .un, .un] ⟨_, _, _, rfl⟩ (by
      rintro i hi s ⟨a, b, c, rfl⟩
      have hi' : i < r.length := List.mem_range.mp hi
      obtain ⟨u, hu⟩ : ∃ u, L[i]? = some u := ⟨_, List.getElem?_eq_getElem (by omega)⟩
      obtain ⟨w, hw⟩ : ∃ w, L[i + 1]? = some w := ⟨_, List.getElem?_eq_getElem (by omega)⟩
      have ku := ok u (List.mem_of_getElem? hu)
      have kw := ok w (List.mem_of_getElem? hw)
      have g1 : gIx (.list (L.map DPc)) (.int (i : Int)) = .ok (DPc u) := gIx_list (by rw [List.getElem?_map, hu]; rfl)
      have g2 : gIx (.list (L.map DPc)) (.int (1 + (i : Int))) = .ok (DPc w) := by
        have := gIx_list (xs := L.map DPc) (j := i + 1) (d := DPc w) (by rw [List.getElem?_map, hw]; rfl)
        rw [show ((i + 1 : Nat) : Int) = 1 + (i : Int) by omega] at this
        exact this
      have es : (1 : Int) + (i : Int) - 1 = (i : Int) := by omega
      have l1 := plless_ok (ku.s.1.mono (show 700 ≤ 4400 by decide)) (kw.s.1.mono (show 700 ≤ 4400 by decide))
      have q1 := gEq_DP u.m w.m
      have t1 := ltold_ok ku kw.s.1
      have q2 := gNe_DP (tell u w.s) w.v
      rw [show L.getD i ⟨(0, 1), (0, 1), (0, 1)⟩ = u by rw [List.getD_eq_getElem?_getD, hu]; rfl, show L.getD (i + 1) ⟨(0, 1), (0, 1), (0, 1)⟩ = w by rw [List.getD_eq_getElem?_getD, hw]; rfl]
      refine ⟨[.v (.list (L.map DPc)), a, .v (.int (1 + (i : Int))), c, .un], rfl, ?_⟩
      unfold l__law_is_line_1 stepB
      have st : gPar 1 3 (fCons (fBin gIx (fVar 0) (fBin gSubI (fVar 2) (fC (.int 1)))) (fCons (fBin gIx (fVar 0) (fVar 2)) fNil)) [.v (.list (L.map DPc)), a, .v (.int (1 + (i : Int))), c, .un] = .nx [.v (.list (L.map DPc)), .v (DPc u), .v (.int (1 + (i : Int))), .v (DPc w), .un] := by simp only [gSeq, gPar, gPar3, gIfS, gAsg, gNext, gRet, gApp, gOwn, xf, fBin, fUn, fC, fVar, fCall, fCallD, fCons, fNil, fIf, fAnd, fOr, fNot, bOr, bNot, bAnd, bTru, truth, bVal, hName, R.bind, gInt1, gAdd, gSubI, gNeg, gCmp, List.getElem?_cons_succ, List.getElem?_cons_zero, List.set_cons_succ, List.set_cons_zero, Bool.not_true, Bool.not_false, Bool.false_eq_true, if_false, if_true, decide_true, decide_false, es, g1, g2]
      rw [seq_nx st]
      cases h1 : lt u.s w.s with
      | false =>
        rw [h1] at l1
        right
        refine ⟨rfl, ?_⟩
        simp only [gSeq, gPar, gPar3, gIfS, gAsg, gNext, gRet, gApp, gOwn, xf, fBin, fUn, fC, fVar, fCall, fCallD, fCons, fNil, fIf, fAnd, fOr, fNot, bOr, bNot, bAnd, bTru, truth, bVal, hName, R.bind, gInt1, gAdd, gSubI, gNeg, gCmp, List.getElem?_cons_succ, List.getElem?_cons_zero, List.set_cons_succ, List.set_cons_zero, Bool.not_true, Bool.not_false, Bool.false_eq_true, if_false, if_true, decide_true, decide_false, DPc_0, l1]
      | true =>
        rw [h1] at l1
        cases h2 : decide (u.m = w.m) with
        | true =>
          rw [h2] at q1
          right
          refine ⟨rfl, ?_⟩
          simp only [gSeq, gPar, gPar3, gIfS, gAsg, gNext, gRet, gApp, gOwn, xf, fBin, fUn, fC, fVar, fCall, fCallD, fCons, fNil, fIf, fAnd, fOr, fNot, bOr, bNot, bAnd, bTru, truth, bVal, hName, R.bind, gInt1, gAdd, gSubI, gNeg, gCmp, List.getElem?_cons_succ, List.getElem?_cons_zero, List.set_cons_succ, List.set_cons_zero, Bool.not_true, Bool.not_false, Bool.false_eq_true, if_false, if_true, decide_true, decide_false, DPc_0, DPc_2, l1, q1]
        | false =>
          rw [h2] at q1
          cases h3 : decide (tell u w.s = w.v) with
          | true =>
            rw [h3] at q2
            left
            refine ⟨rfl, [.v (.list (L.map DPc)), .v (DPc u), .v (.int (1 + (i : Int))), .v (DPc w), .un], ?_, _, _, _, rfl⟩
            simp only [gSeq, gPar, gPar3, gIfS, gAsg, gNext, gRet, gApp, gOwn, xf, fBin, fUn, fC, fVar, fCall, fCallD, fCons, fNil, fIf, fAnd, fOr, fNot, bOr, bNot, bAnd, bTru, truth, bVal, hName, R.bind, gInt1, gAdd, gSubI, gNeg, gCmp, List.getElem?_cons_succ, List.getElem?_cons_zero, List.set_cons_succ, List.set_cons_zero, Bool.not_true, Bool.not_false, Bool.false_eq_true, if_false, if_true, decide_true, decide_false, DPc_0, DPc_1, DPc_2, l1, q1, t1, q2]
          | false =>
            rw [h3] at q2
            right
            refine ⟨rfl, ?_⟩
            simp only [gSeq, gPar, gPar3, gIfS, gAsg, gNext, gRet, gApp, gOwn, xf, fBin, fUn, fC, fVar, fCall, fCallD, fCons, fNil, fIf, fAnd, fOr, fNot, bOr, bNot, bAnd, bTru, truth, bVal, hName, R.bind, gInt1, gAdd, gSubI, gNeg, gCmp, List.getElem?_cons_succ, List.getElem?_cons_zero, List.set_cons_succ, List.set_cons_zero, Bool.not_true, Bool.not_false, Bool.false_eq_true, if_false, if_true, decide_true, decide_false, DPc_0, DPc_1, DPc_2, l1, q1, t1, q2])
    rcases turn with ⟨ha, s', e2, a, b, c, rfl⟩ | ⟨ha, e2⟩
    · rw [ha]
      refine seq_step ((for_nx (src _ rfl)).trans e2) rfl
    · rw [ha]
      exact seq_rt ((for_nx (src _ rfl)).trans e2)

/-! ### drawn lines -/
theorem outM {m : Nat} {G : Ev → Fl} {l l' : List D} {d : D} {as bs : List D} {s : Ev} (hs : as.map En.v ++ En.m l :: (bs.map En.v ++ List.replicate (m - (as.length + 1 + bs.length)) En.un) = s) (e : G s = .rm d l') : runM m as.length G as l bs = .ok (d, l') := by
  unfold runM
  rw [hs, e]
theorem list_getNat {L : List Int} {j : Nat} (h : j < L.length) : gIx (.list (L.map .int)) (.int (j : Int)) = .ok (.int L[j]) := gIx_list (by rw [List.getElem?_map, List.getElem?_eq_getElem h]; rfl)
theorem amount_ok {l : List D} (h : StOk l) : ∃ (p : Pr) (l' : List D), StOk l' ∧ Num 20 p ∧ F__law_amount [] l [] = .ok (DP p, l') := by
  obtain ⟨r1, l1, k1, c1, e1⟩ := draw_ok h (m := 4) (by decide) (by decide)
  replace e1 : F__law_draw [] l [.int 4] = .ok (.int (r1 : Int), l1) := e1
  by_cases h1 : r1 = 0
  · refine ⟨(0, 1), l1, k1, ⟨⟨by unfold Bn; decide, by unfold Bn; decide, by decide⟩, low_one⟩, outM (s := [.m l, .un]) (as := []) (bs := []) rfl ?_⟩
    subst h1
    unfold m__law_amount
    show gSeq _ _ _ = _
    have st : gIfX (xVal (xBin gEq (xCallM 0 F__law_draw (xHere (xE (fCons (fC (.int 4)) fNil)))) (xE (fC (.int 0))))) (gRetM 0 (xE (fTup (fCons (fC (.int 0)) (fCons (fC (.int 1)) fNil))))) gNext [.m l, .un] = .rm (DP (0, 1)) l1 := by
      simp only [gSeq, gPar, gPar3, gIfS, gAsg, gNext, gRet, gApp, gOwn, xf, fBin, fUn, fC, fVar, fCall, fCallD, fCons, fNil, fIf, fAnd, fOr, fNot, bOr, bNot, bAnd, bTru, truth, bVal, hName, R.bind, gInt1, gAdd, gSubI, gNeg, gCmp, List.getElem?_cons_succ, List.getElem?_cons_zero, List.set_cons_succ, List.set_cons_zero, Bool.not_true, Bool.not_false, Bool.false_eq_true, if_false, if_true, decide_true, decide_false, gIfX, xVal, xBin, xCallM, isList, xHere, xE, e1, gEq_i, gRetM, fTup, List.length_cons, List.length_nil, Nat.reduceAdd, Nat.reduceLeDiff]
      rfl
    unfold gSeq
    rw [st]
  · obtain ⟨r2, l2, k2, c2, e2⟩ := draw_ok k1 (m := 9) (by decide) (by decide)
    replace e2 : F__law_draw [] l1 [.int 9] = .ok (.int (r2 : Int), l2) := e2
    obtain ⟨r3, l3, k3, c3, e3⟩ := draw_ok k2 (m := 12) (by decide) (by decide)
    replace e3 : F__law_draw [] l2 [.int 12] = .ok (.int (r3 : Int), l3) := e3
    obtain ⟨r4, l4, k4, c4, e4⟩ := draw_ok k3 (m := 5) (by decide) (by decide)
    replace e4 : F__law_draw [] l3 [.int 5] = .ok (.int (r4 : Int), l4) := e4
    obtain ⟨dn, hd1, hd2, ed⟩ : ∃ dn : Int, 1 ≤ dn ∧ dn ≤ 3 ∧ gIx (.list [.int 1, .int 1, .int 1, .int 2, .int 3]) (.int (r4 : Int)) = .ok (.int dn) := by
      match r4, c4 with
      | 0, _ => exact ⟨1, by decide, by decide, rfl⟩
      | 1, _ => exact ⟨1, by decide, by decide, rfl⟩
      | 2, _ => exact ⟨1, by decide, by decide, rfl⟩
      | 3, _ => exact ⟨2, by decide, by decide, rfl⟩
      | 4, _ => exact ⟨3, by decide, by decide, rfl⟩
    obtain ⟨nm, hn1, hn2, en⟩ : ∃ nm : Int, -500000 ≤ nm ∧ nm ≤ 500000 ∧ gIfX (xVal (xBin gEq (xCallM 0 F__law_draw (xHere (xE (fCons (fC (.int 12)) fNil)))) (xE (fC (.int 0))))) (gAsg (fBin gAdd (fBin gMul (fVar 1) (fC (.int 99991))) (fC (.int 7))) (hName 1)) gNext [.m l2, .v (.int ((r2 : Int) - 4))] = .nx [.m l3, .v (.int nm)] := by
      by_cases h3 : r3 = 0
      · subst h3
        have t := gMul_r (i := (r2 : Int) - 4) (j := 99991) (by decide)
        refine ⟨((r2 : Int) - 4) * 99991 + 7, by omega, by omega, ?_⟩
        simp only [gSeq, gPar, gPar3, gIfS, gAsg, gNext, gRet, gApp, gOwn, xf, fBin, fUn, fC, fVar, fCall, fCallD, fCons, fNil, fIf, fAnd, fOr, fNot, bOr, bNot, bAnd, bTru, truth, bVal, hName, R.bind, gInt1, gAdd, gSubI, gNeg, gCmp, List.getElem?_cons_succ, List.getElem?_cons_zero, List.set_cons_succ, List.set_cons_zero, Bool.not_true, Bool.not_false, Bool.false_eq_true, if_false, if_true, decide_true, decide_false, gIfX, xVal, xBin, xCallM, isList, xHere, xE, e3, gEq_i, t]
        rfl
      · refine ⟨(r2 : Int) - 4, by omega, by omega, ?_⟩
        have z : decide ((r3 : Int) = 0) = false := decide_eq_false (by omega)
        simp only [gSeq, gPar, gPar3, gIfS, gAsg, gNext, gRet, gApp, gOwn, xf, fBin, fUn, fC, fVar, fCall, fCallD, fCons, fNil, fIf, fAnd, fOr, fNot, bOr, bNot, bAnd, bTru, truth, bVal, hName, R.bind, gInt1, gAdd, gSubI, gNeg, gCmp, List.getElem?_cons_succ, List.getElem?_cons_zero, List.set_cons_succ, List.set_cons_zero, Bool.not_true, Bool.not_false, Bool.false_eq_true, if_false, if_true, decide_true, decide_false, gIfX, xVal, xBin, xCallM, isList, xHere, xE, e3, gEq_i, z]
    have g := lnum_ok (n := nm) (d := dn) (by omega) (show Bn 9000 dn from (show Bn 20 dn by unfold Bn; omega).mono (by decide))
    refine ⟨nrmP nm dn, l4, k4, nrmP_num (by omega) (by unfold Bn; omega) (by unfold Bn; omega), outM (s := [.m l, .un]) (as := []) (bs := []) rfl ?_⟩
    have z : decide ((r1 : Int) = 0) = false := decide_eq_false (by omega)
    unfold m__law_amount
    refine seq_step (s1 := [.m l1, .un]) (by simp only [gSeq, gPar, gPar3, gIfS, gAsg, gNext, gRet, gApp, gOwn, xf, fBin, fUn, fC, fVar, fCall, fCallD, fCons, fNil, fIf, fAnd, fOr, fNot, bOr, bNot, bAnd, bTru, truth, bVal, hName, R.bind, gInt1, gAdd, gSubI, gNeg, gCmp, List.getElem?_cons_succ, List.getElem?_cons_zero, List.set_cons_succ, List.set_cons_zero, Bool.not_true, Bool.not_false, Bool.false_eq_true, if_false, if_true, decide_true, decide_false, gIfX, xVal, xBin, xCallM, isList, xHere, xE, e1, gEq_i, z]) ?_
    refine seq_step (s1 := [.m l2, .v (.int ((r2 : Int) - 4))]) (by simp only [gSeq, gPar, gPar3, gIfS, gAsg, gNext, gRet, gApp, gOwn, xf, fBin, fUn, fC, fVar, fCall, fCallD, fCons, fNil, fIf, fAnd, fOr, fNot, bOr, bNot, bAnd, bTru, truth, bVal, hName, R.bind, gInt1, gAdd, gSubI, gNeg, gCmp, List.getElem?_cons_succ, List.getElem?_cons_zero, List.set_cons_succ, List.set_cons_zero, Bool.not_true, Bool.not_false, Bool.false_eq_true, if_false, if_true, decide_true, decide_false, gAsgX, xBin, xCallM, isList, xHere, xE, e2]) ?_
    refine seq_step en ?_
    simp only [gSeq, gPar, gPar3, gIfS, gAsg, gNext, gRet, gApp, gOwn, xf, fBin, fUn, fC, fVar, fCall, fCallD, fCons, fNil, fIf, fAnd, fOr, fNot, bOr, bNot, bAnd, bTru, truth, bVal, hName, R.bind, gInt1, gAdd, gSubI, gNeg, gCmp, List.getElem?_cons_succ, List.getElem?_cons_zero, List.set_cons_succ, List.set_cons_zero, Bool.not_true, Bool.not_false, Bool.false_eq_true, if_false, if_true, decide_true, decide_false, gRetM, xCall, xCons, xBin, xCallM, isList, xHere, xE, fLst, List.length_cons, List.length_nil, Nat.reduceAdd, Nat.reduceLeDiff, e4, ed, g]
    rfl
theorem num_one {k : Nat} (hk : 1 ≤ k) : Num k (1, 1) := ⟨(show Pb 1 (1, 1) from ⟨by unfold Bn; decide, by unfold Bn; decide, by decide⟩).mono hk, ⟨by decide, by decide⟩⟩
theorem num_zero {k : Nat} (hk : 1 ≤ k) : Num k (0, 1) := ⟨(show Pb 1 (0, 1) from ⟨by unfold Bn; decide, by unfold Bn; decide, by decide⟩).mono hk, low_one⟩
theorem drawn_ok {l : List D} (h : StOk l) : ∃ (L : List Pc) (l' : List D), StOk l' ∧ 1 ≤ L.length ∧ L.length ≤ 4 ∧ (∀ p ∈ L, PcOk 110 p) ∧ F__law_line [] l [] = .ok (.list (L.map DPc), l') := by
  obtain ⟨v0, l1, k1, nv0, e1⟩ := amount_ok h
  obtain ⟨m0, l2, k2, nm0, e2⟩ := amount_ok k1
  obtain ⟨r, l3, k3, c3, e3⟩ := draw_ok k2 (m := 4) (by decide) (by decide)
  replace e3 : F__law_draw [] l2 [.int 4] = .ok (.int (r : Int), l3) := e3
  obtain ⟨s', e, L, l4, st, va, sl, x2, x6, x7, hs, hl, k4, ok, b1, b2, b3⟩ := loop_inv (tg := hName 2) (b := l__law_line_1)
    (fun i s => ∃ (L : List Pc) (l4 : List D) (st va sl : Pr) (x2 x6 x7 : En), s = [.m l4, .o (L.map DPc), x2, .v (DP st), .v (DP va), .v (DP sl), x6, x7] ∧ L.length = i + 1 ∧ StOk l4 ∧ (∀ p ∈ L, PcOk 110 p) ∧ Num (4 * i + 1) st ∧ Num (26 * i + 20) va ∧ Num 22 sl) (rng 0 r) 0
    [.m l3, .o [DPc ⟨(0, 1), v0, m0⟩], .un, .v (DP (0, 1)), .v (DP v0), .v (DP m0), .un, .un] ⟨[⟨(0, 1), v0, m0⟩], l3, (0, 1), v0, m0, _, _, _, rfl, rfl, k3, fun p hp => by
      rw [List.mem_singleton.mp hp]
      exact ⟨num_zero (by decide), Num.mono nv0 (by decide), Num.mono nm0 (by decide)⟩, num_zero (by decide), nv0, Num.mono nm0 (by decide)⟩ (by
      rintro i d s hd ⟨L, l4, st, va, sl, x2, x6, x7, rfl, hl, k4, ok, b1, b2, b3⟩
      obtain ⟨hi, rfl⟩ := rng_get hd
      rw [Nat.zero_add] at hl b1 b2 ⊢
      obtain ⟨q1, l5, k5, c5, e5⟩ := draw_ok k4 (m := 5) (by decide) (by decide)
      replace e5 : F__law_draw [] l4 [.int 5] = .ok (.int (q1 : Int), l5) := e5
      obtain ⟨q2, l6, k6, c6, e6⟩ := draw_ok k5 (m := 3) (by decide) (by decide)
      replace e6 : F__law_draw [] l5 [.int 3] = .ok (.int (q2 : Int), l6) := e6
      obtain ⟨ot, l7, k7, no, e7⟩ := amount_ok k6
      have nstep : Num 3 (nrmP (1 + (q1 : Int)) (1 + (q2 : Int))) := nrmP_num (by omega) (by unfold Bn; omega) (by unfold Bn; omega)
      have gst : F__law_number [.int (1 + (q1 : Int)), .int (1 + (q2 : Int))] = .ok (DP (nrmP (1 + (q1 : Int)) (1 + (q2 : Int)))) := lnum_ok (by omega) ((show Bn 3 (1 + (q2 : Int)) by unfold Bn; omega).mono (by decide))
      generalize nrmP (1 + (q1 : Int)) (1 + (q2 : Int)) = step at *
      have hi4 : i ≤ 3 := by omega
      have t1 := pltimes_ok (b3.1.mono (show 22 ≤ 4400 by decide)) (nstep.1.mono (show 3 ≤ 4400 by decide))
      have nt := pmul_num b3.1 nstep.1
      have t2 := plplus_ok (b2.1.mono (show 26 * i + 20 ≤ 4400 by omega)) (nt.1.mono (show 22 + 3 ≤ 4400 by decide))
      have nva := padd_num b2.1 nt.1
      have t3 := plplus_ok (b1.1.mono (show 4 * i + 1 ≤ 4400 by omega)) (nstep.1.mono (show 3 ≤ 4400 by decide))
      have nst := padd_num b1.1 nstep.1
      generalize padd va (pmul sl step) = va' at *
      generalize padd st step = st' at *
      -- the slope
      obtain ⟨sl', ns, es⟩ : ∃ sl' : Pr, Num 22 sl' ∧ ∀ x2 x6 : En, gIfS (bVal (fBin gEq (fVar 7) (fVar 5))) (gAsg (fCallD F__law_plus (fCons (fVar 7) (fCons (fTup (fCons (fC (.int 1)) (fCons (fC (.int 1)) fNil))) fNil))) (hName 7)) gNext [.m l7, .o (L.map DPc), x2, .v (DP st'), .v (DP va'), .v (DP sl), x6, .v (DP ot)] = .nx [.m l7, .o (L.map DPc), x2, .v (DP st'), .v (DP va'), .v (DP sl), x6, .v (DP sl')] := by
        have q := gEq_DP ot sl
        by_cases hq : ot = sl
        · have t := plplus_ok (no.1.mono (show 20 ≤ 4400 by decide)) ((num_one (k := 1) (by decide)).1.mono (show 1 ≤ 4400 by decide))
          replace t : F__law_plus [DP ot, .tuple [.int 1, .int 1]] = .ok (DP (padd ot (1, 1))) := t
          rw [decide_eq_true hq] at q
          refine ⟨padd ot (1, 1), padd_num no.1 (num_one (k := 1) (by decide)).1, fun x2 x6 => ?_⟩
          simp only [gSeq, gPar, gPar3, gIfS, gAsg, gNext, gRet, gApp, gOwn, xf, fBin, fUn, fC, fVar, fCall, fCallD, fCons, fNil, fIf, fAnd, fOr, fNot, bOr, bNot, bAnd, bTru, truth, bVal, hName, R.bind, gInt1, gAdd, gSubI, gNeg, gCmp, List.getElem?_cons_succ, List.getElem?_cons_zero, List.set_cons_succ, List.set_cons_zero, Bool.not_true, Bool.not_false, Bool.false_eq_true, if_false, if_true, decide_true, decide_false, fTup, List.length_cons, List.length_nil, Nat.reduceAdd, Nat.reduceLeDiff, q, t]
        · rw [decide_eq_false hq] at q
          exact ⟨ot, Num.mono no (by decide), fun x2 x6 => by simp only [gSeq, gPar, gPar3, gIfS, gAsg, gNext, gRet, gApp, gOwn, xf, fBin, fUn, fC, fVar, fCall, fCallD, fCons, fNil, fIf, fAnd, fOr, fNot, bOr, bNot, bAnd, bTru, truth, bVal, hName, R.bind, gInt1, gAdd, gSubI, gNeg, gCmp, List.getElem?_cons_succ, List.getElem?_cons_zero, List.set_cons_succ, List.set_cons_zero, Bool.not_true, Bool.not_false, Bool.false_eq_true, if_false, if_true, decide_true, decide_false, q]⟩
      have hz : (L.map DPc).length < 100000 := by rw [List.length_map]; omega
      refine ⟨[.m l4, .o (L.map DPc), .v (.int (0 + (i : Int))), .v (DP st), .v (DP va), .v (DP sl), x6, x7], [.m l7, .o ((L ++ [Pc.mk st' va' sl']).map DPc), .v (.int (0 + (i : Int))), .v (DP st'), .v (DP va'), .v (DP sl'), .v (DP step), .v (DP sl')], rfl, .inl ?_, L ++ [Pc.mk st' va' sl'], l7, st', va', sl', _, _, _, rfl, by rw [List.length_append, hl]; rfl, k7, fun p hp => ?_, Num.mono nst (by omega), Num.mono nva (by omega), ns⟩
      · unfold l__law_line_1
        refine seq_step (s1 := [.m l6, .o (L.map DPc), .v (.int (0 + (i : Int))), .v (DP st), .v (DP va), .v (DP sl), .v (DP step), x7]) (by simp only [gSeq, gPar, gPar3, gIfS, gAsg, gNext, gRet, gApp, gOwn, xf, fBin, fUn, fC, fVar, fCall, fCallD, fCons, fNil, fIf, fAnd, fOr, fNot, bOr, bNot, bAnd, bTru, truth, bVal, hName, R.bind, gInt1, gAdd, gSubI, gNeg, gCmp, List.getElem?_cons_succ, List.getElem?_cons_zero, List.set_cons_succ, List.set_cons_zero, Bool.not_true, Bool.not_false, Bool.false_eq_true, if_false, if_true, decide_true, decide_false, gAsgX, xCall, xCons, xBin, xCallM, isList, xHere, xE, e5, e6, gst]) ?_
        refine seq_step (s1 := [.m l6, .o (L.map DPc), .v (.int (0 + (i : Int))), .v (DP st), .v (DP va'), .v (DP sl), .v (DP step), x7]) (by simp only [gSeq, gPar, gPar3, gIfS, gAsg, gNext, gRet, gApp, gOwn, xf, fBin, fUn, fC, fVar, fCall, fCallD, fCons, fNil, fIf, fAnd, fOr, fNot, bOr, bNot, bAnd, bTru, truth, bVal, hName, R.bind, gInt1, gAdd, gSubI, gNeg, gCmp, List.getElem?_cons_succ, List.getElem?_cons_zero, List.set_cons_succ, List.set_cons_zero, Bool.not_true, Bool.not_false, Bool.false_eq_true, if_false, if_true, decide_true, decide_false, t1, t2]) ?_
        refine seq_step (s1 := [.m l6, .o (L.map DPc), .v (.int (0 + (i : Int))), .v (DP st'), .v (DP va'), .v (DP sl), .v (DP step), x7]) (by simp only [gSeq, gPar, gPar3, gIfS, gAsg, gNext, gRet, gApp, gOwn, xf, fBin, fUn, fC, fVar, fCall, fCallD, fCons, fNil, fIf, fAnd, fOr, fNot, bOr, bNot, bAnd, bTru, truth, bVal, hName, R.bind, gInt1, gAdd, gSubI, gNeg, gCmp, List.getElem?_cons_succ, List.getElem?_cons_zero, List.set_cons_succ, List.set_cons_zero, Bool.not_true, Bool.not_false, Bool.false_eq_true, if_false, if_true, decide_true, decide_false, t3]) ?_
        refine seq_step (s1 := [.m l7, .o (L.map DPc), .v (.int (0 + (i : Int))), .v (DP st'), .v (DP va'), .v (DP sl), .v (DP step), .v (DP ot)]) (by simp only [gSeq, gPar, gPar3, gIfS, gAsg, gNext, gRet, gApp, gOwn, xf, fBin, fUn, fC, fVar, fCall, fCallD, fCons, fNil, fIf, fAnd, fOr, fNot, bOr, bNot, bAnd, bTru, truth, bVal, hName, R.bind, gInt1, gAdd, gSubI, gNeg, gCmp, List.getElem?_cons_succ, List.getElem?_cons_zero, List.set_cons_succ, List.set_cons_zero, Bool.not_true, Bool.not_false, Bool.false_eq_true, if_false, if_true, decide_true, decide_false, gAsgX, xCallM, isList, xHere, xE, e7]) ?_
        refine seq_step (es _ _) ?_
        refine seq_step (s1 := [.m l7, .o (L.map DPc), .v (.int (0 + (i : Int))), .v (DP st'), .v (DP va'), .v (DP sl'), .v (DP step), .v (DP sl')]) (by simp only [gSeq, gPar, gPar3, gIfS, gAsg, gNext, gRet, gApp, gOwn, xf, fBin, fUn, fC, fVar, fCall, fCallD, fCons, fNil, fIf, fAnd, fOr, fNot, bOr, bNot, bAnd, bTru, truth, bVal, hName, R.bind, gInt1, gAdd, gSubI, gNeg, gCmp, List.getElem?_cons_succ, List.getElem?_cons_zero, List.set_cons_succ, List.set_cons_zero, Bool.not_true, Bool.not_false, Bool.false_eq_true, if_false, if_true, decide_true, decide_false]) ?_
        refine (app_ok (ds := L.map DPc) (d := DPc (Pc.mk st' va' sl')) rfl ?_ hz).trans ?_
        · simp only [gSeq, gPar, gPar3, gIfS, gAsg, gNext, gRet, gApp, gOwn, xf, fBin, fUn, fC, fVar, fCall, fCallD, fCons, fNil, fIf, fAnd, fOr, fNot, bOr, bNot, bAnd, bTru, truth, bVal, hName, R.bind, gInt1, gAdd, gSubI, gNeg, gCmp, List.getElem?_cons_succ, List.getElem?_cons_zero, List.set_cons_succ, List.set_cons_zero, Bool.not_true, Bool.not_false, Bool.false_eq_true, if_false, if_true, decide_true, decide_false, fTup, List.length_cons, List.length_nil, Nat.reduceAdd, Nat.reduceLeDiff]
          rfl
        · rw [List.map_append]
          rfl
      · rcases List.mem_append.mp hp with hp | hp
        · exact ok p hp
        · rw [List.mem_singleton.mp hp]
          exact ⟨Num.mono nst (by omega), Num.mono nva (by omega), Num.mono ns (by decide)⟩)
  rw [rng_len, Nat.zero_add] at hl
  subst hs
  refine ⟨L, l4, k4, by omega, by omega, ok, outM (s := [.m l, .un, .un, .un, .un, .un, .un, .un]) (as := []) (bs := []) rfl ?_⟩
  unfold m__law_line
  refine seq_step (s1 := [.m l2, .un, .un, .v (DP (0, 1)), .v (DP v0), .v (DP m0), .un, .un]) ?_ ?_
  · simp only [gSeq, gPar, gPar3, gIfS, gAsg, gNext, gRet, gApp, gOwn, xf, fBin, fUn, fC, fVar, fCall, fCallD, fCons, fNil, fIf, fAnd, fOr, fNot, bOr, bNot, bAnd, bTru, truth, bVal, hName, R.bind, gInt1, gAdd, gSubI, gNeg, gCmp, List.getElem?_cons_succ, List.getElem?_cons_zero, List.set_cons_succ, List.set_cons_zero, Bool.not_true, Bool.not_false, Bool.false_eq_true, if_false, if_true, decide_true, decide_false, gPar3X, xCons, xCallM, isList, xHere, xE, fTup, List.length_cons, List.length_nil, Nat.reduceAdd, Nat.reduceLeDiff, e1, e2]
    rfl
  refine seq_step (s1 := [.m l2, .o [DPc ⟨(0, 1), v0, m0⟩], .un, .v (DP (0, 1)), .v (DP v0), .v (DP m0), .un, .un]) ?_ ?_
  · simp only [gSeq, gPar, gPar3, gIfS, gAsg, gNext, gRet, gApp, gOwn, xf, fBin, fUn, fC, fVar, fCall, fCallD, fCons, fNil, fIf, fAnd, fOr, fNot, bOr, bNot, bAnd, bTru, truth, bVal, hName, R.bind, gInt1, gAdd, gSubI, gNeg, gCmp, List.getElem?_cons_succ, List.getElem?_cons_zero, List.set_cons_succ, List.set_cons_zero, Bool.not_true, Bool.not_false, Bool.false_eq_true, if_false, if_true, decide_true, decide_false, fLst, fTup, List.length_cons, List.length_nil, Nat.reduceAdd, Nat.reduceLeDiff]
    rfl
  refine seq_step (s1 := [.m l4, .o (L.map DPc), x2, .v (DP st), .v (DP va), .v (DP sl), x6, x7]) ?_ ?_
  · unfold gForX
    have src : xRng1 (xCons (xCallM 0 F__law_draw (xHere (xE (fCons (fC (.int 4)) fNil)))) (xE fNil)) [.m l2, .o [DPc ⟨(0, 1), v0, m0⟩], .un, .v (DP (0, 1)), .v (DP v0), .v (DP m0), .un, .un] = .ok (rng 0 r, [.m l3, .o [DPc ⟨(0, 1), v0, m0⟩], .un, .v (DP (0, 1)), .v (DP v0), .v (DP m0), .un, .un]) := by
      simp only [gSeq, gPar, gPar3, gIfS, gAsg, gNext, gRet, gApp, gOwn, xf, fBin, fUn, fC, fVar, fCall, fCallD, fCons, fNil, fIf, fAnd, fOr, fNot, bOr, bNot, bAnd, bTru, truth, bVal, hName, R.bind, gInt1, gAdd, gSubI, gNeg, gCmp, List.getElem?_cons_succ, List.getElem?_cons_zero, List.set_cons_succ, List.set_cons_zero, Bool.not_true, Bool.not_false, Bool.false_eq_true, if_false, if_true, decide_true, decide_false, xRng1, xCons, xCallM, isList, xHere, xE, e3, gRng1_ok (n := r) (by omega)]
    rw [src]
    exact e
  simp only [gSeq, gPar, gPar3, gIfS, gAsg, gNext, gRet, gApp, gOwn, xf, fBin, fUn, fC, fVar, fCall, fCallD, fCons, fNil, fIf, fAnd, fOr, fNot, bOr, bNot, bAnd, bTru, truth, bVal, hName, R.bind, gInt1, gAdd, gSubI, gNeg, gCmp, List.getElem?_cons_succ, List.getElem?_cons_zero, List.set_cons_succ, List.set_cons_zero, Bool.not_true, Bool.not_false, Bool.false_eq_true, if_false, if_true, decide_true, decide_false, gLet, gRetM, xE]
/-! ### the places at which lines are asked -/
theorem cut_at {ds : List D} {n : Nat} (h : n ≤ ds.length) : gCut (.list ds) none (some (n : Int)) = .ok (.list (ds.take n)) := cut_lo h
theorem shaped_DPs (L : List Pr) : SeqAt.shaped (.list (L.map DP)) = true := shaped_list fun d hd => by
  obtain ⟨q, _, rfl⟩ := List.mem_map.mp hd
  exact lay_DP q
theorem eqv_DP (p q : Pr) : PyData.eqv (DP p) (DP q) = decide (p = q) := by
  have h := gEq_DP p q
  unfold gEq DP at h
  rw [shaped_N2, shaped_N2] at h
  have h' : PyData.eqv (N2 p.1 p.2) (N2 q.1 q.2) = decide (p = q) := by simpa using h
  exact h'
theorem notIn_DP (p : Pr) (L : List Pr) : gInD true (DP p) (.list (L.map DP)) = .ok (.bool (!L.any fun q => decide (q = p))) := by
  have e : gInD true (DP p) (.list (L.map DP)) = (if (SeqAt.shaped (DP p) && SeqAt.shaped (.list (L.map DP))) = true then R.ok (PyData.bool (if true = true then !((L.map DP).any fun z => PyData.eqv z (DP p)) else (L.map DP).any fun z => PyData.eqv z (DP p))) else .no) := rfl
  rw [e, shaped_DPs, show SeqAt.shaped (DP p) = true from shaped_N2 _ _]
  simp only [Bool.and_self, if_true, List.any_map]
  rw [show ((fun z => PyData.eqv z (DP p)) ∘ DP) = fun q => decide (q = p) from funext fun q => eqv_DP q p]
theorem places_ok {k : Nat} (hk : k ≤ 700) {S : Pr → Prop} (Sh : ∀ a b, Pb k a → Pb k b → S a → S b → S (pmul (padd a b) (1, 2))) (Sn : ∀ a, Pb k a → S a → S (padd a (1, 1))) {Ls : List (List Pc)} (h0 : Ls ≠ []) (hn : Ls.length ≤ 10) (ok : ∀ L ∈ Ls, L ≠ [] ∧ L.length ≤ 100 ∧ ∀ p ∈ L, PcOk k p ∧ S p.s) :
    ∃ X : List Pr, X.length ≤ 2100 ∧ (∀ x ∈ X, Num (2 * k + 3) x ∧ S x) ∧ F__law_places [.list (Ls.map fun L => .list (L.map DPc))] = .ok (.list (X.map DP)) := by
  -- the starts, each once
  obtain ⟨s1, e1, F, x2, x7, hs1, hF, okF, neF⟩ := loop_inv (tg := hName 2) (b := l__law_places_4)
    (fun i s => ∃ (F : List Pr) (x2 x7 : En), s = [.v (.list (Ls.map fun L => .list (L.map DPc))), .o (F.map DP), x2, .un, .un, .un, .un, x7, .un, .un] ∧ F.length ≤ 100 * i ∧ (∀ x ∈ F, Num k x ∧ S x) ∧ (1 ≤ i → F ≠ [])) (Ls.map fun L => .list (L.map DPc)) 0
    [.v (.list (Ls.map fun L => .list (L.map DPc))), .o [], .un, .un, .un, .un, .un, .un, .un, .un] ⟨[], _, _, rfl, Nat.zero_le _, fun x hx => (nomatch hx), fun h => by omega⟩ (by
      rintro i d s hd ⟨F, x2, x7, rfl, hF, okF, neF⟩
      obtain ⟨L, hL, rfl⟩ := map_getP hd
      rw [Nat.zero_add] at hF neF ⊢
      obtain ⟨n1, n2, n3⟩ := ok L (List.mem_of_getElem? hL)
      have hiL : i < Ls.length := (List.getElem?_eq_some_iff.mp hL).1
      obtain ⟨s2, e2, G, y7, hs2, hG, okG, neG⟩ := loop_inv (tg := hName 7) (b := l__law_places_3)
        (fun j s => ∃ (G : List Pr) (y7 : En), s = [.v (.list (Ls.map fun L => .list (L.map DPc))), .o (G.map DP), .v (.list (L.map DPc)), .un, .un, .un, .un, y7, .un, .un] ∧ G.length ≤ F.length + j ∧ (∀ x ∈ G, Num k x ∧ S x) ∧ (1 ≤ j → G ≠ [])) (L.map DPc) 0
        [.v (.list (Ls.map fun L => .list (L.map DPc))), .o (F.map DP), .v (.list (L.map DPc)), .un, .un, .un, .un, x7, .un, .un] ⟨F, _, rfl, Nat.le_refl _, okF, fun h => by omega⟩ (by
          rintro j d s hd ⟨G, y7, rfl, hG, okG, neG⟩
          obtain ⟨p, hp, rfl⟩ := map_getP hd
          rw [Nat.zero_add] at hG neG ⊢
          have hj : j < L.length := (List.getElem?_eq_some_iff.mp hp).1
          have kp := n3 p (List.mem_of_getElem? hp)
          have nt := notIn_DP p.s G
          have hz : (G.map DP).length < 100000 := by rw [List.length_map]; omega
          cases hb : G.any fun q => decide (q = p.s) with
          | true =>
            rw [hb] at nt
            refine ⟨[.v (.list (Ls.map fun L => .list (L.map DPc))), .o (G.map DP), .v (.list (L.map DPc)), .un, .un, .un, .un, .v (DPc p), .un, .un], [.v (.list (Ls.map fun L => .list (L.map DPc))), .o (G.map DP), .v (.list (L.map DPc)), .un, .un, .un, .un, .v (DPc p), .un, .un], rfl, .inl ?_, G, _, rfl, by omega, okG, fun _ => fun z => by rw [z] at hb; cases hb⟩
            unfold l__law_places_3
            simp only [gSeq, gPar, gPar3, gIfS, gAsg, gNext, gRet, gApp, gOwn, xf, fBin, fUn, fC, fVar, fCall, fCallD, fCons, fNil, fIf, fAnd, fOr, fNot, bOr, bNot, bAnd, bTru, truth, bVal, hName, R.bind, gInt1, gAdd, gSubI, gNeg, gCmp, List.getElem?_cons_succ, List.getElem?_cons_zero, List.set_cons_succ, List.set_cons_zero, Bool.not_true, Bool.not_false, Bool.false_eq_true, if_false, if_true, decide_true, decide_false, bLend, DPc_0, nt]
          | false =>
            rw [hb] at nt
            refine ⟨[.v (.list (Ls.map fun L => .list (L.map DPc))), .o (G.map DP), .v (.list (L.map DPc)), .un, .un, .un, .un, .v (DPc p), .un, .un], [.v (.list (Ls.map fun L => .list (L.map DPc))), .o ((G ++ [p.s]).map DP), .v (.list (L.map DPc)), .un, .un, .un, .un, .v (DPc p), .un, .un], rfl, .inl ?_, G ++ [p.s], _, rfl, by rw [List.length_append]; simp; omega, fun x hx => ?_, fun _ => by simp⟩
            · unfold l__law_places_3
              simp only [gSeq, gPar, gPar3, gIfS, gAsg, gNext, gRet, gApp, gOwn, xf, fBin, fUn, fC, fVar, fCall, fCallD, fCons, fNil, fIf, fAnd, fOr, fNot, bOr, bNot, bAnd, bTru, truth, bVal, hName, R.bind, gInt1, gAdd, gSubI, gNeg, gCmp, List.getElem?_cons_succ, List.getElem?_cons_zero, List.set_cons_succ, List.set_cons_zero, Bool.not_true, Bool.not_false, Bool.false_eq_true, if_false, if_true, decide_true, decide_false, bLend, DPc_0, nt, hz, List.map_append, List.map_cons, List.map_nil]
            · rcases List.mem_append.mp hx with hx | hx
              · exact okG x hx
              · rw [List.mem_singleton.mp hx]
                exact ⟨kp.1.s, kp.2⟩)
      rw [Nat.zero_add, List.length_map] at hG neG
      subst hs2
      refine ⟨[.v (.list (Ls.map fun L => .list (L.map DPc))), .o (F.map DP), .v (.list (L.map DPc)), .un, .un, .un, .un, x7, .un, .un], _, rfl, .inl ((for_nx (show sSeq (fVar 2) _ = .ok (L.map DPc) from rfl)).trans e2), G, _, _, rfl, by omega, okG, fun _ => neG (List.length_pos_iff.mpr n1)⟩)
  rw [Nat.zero_add, List.length_map] at hF neF
  subst hs1
  have hFl : F.length ≤ 1000 := by omega
  have neF' : F ≠ [] := neF (List.length_pos_iff.mpr h0)
  -- in order
  obtain ⟨s3, e3, O, x4, x8, hs3, hO, okO⟩ := loop_inv (tg := hName 4) (b := l__law_places_2)
    (fun i s => ∃ (O : List Pr) (x4 x8 : En), s = [.v (.list (Ls.map fun L => .list (L.map DPc))), .v (.list (F.map DP)), x2, .v (.list (O.map DP)), x4, .un, .un, x7, x8, .un] ∧ O.length = i ∧ (∀ x ∈ O, Num k x ∧ S x)) (F.map DP) 0
    [.v (.list (Ls.map fun L => .list (L.map DPc))), .v (.list (F.map DP)), x2, .v (.list []), .un, .un, .un, x7, .un, .un] ⟨[], _, _, rfl, rfl, fun x hx => (nomatch hx)⟩ (by
      rintro i d s hd ⟨O, x4, x8, rfl, hO, okO⟩
      obtain ⟨q, hq, rfl⟩ := map_getP hd
      rw [Nat.zero_add] at hO ⊢
      have hi : i < F.length := (List.getElem?_eq_some_iff.mp hq).1
      have kq := okF q (List.mem_of_getElem? hq)
      -- how many are less
      have lc : fLc (sSeq (fVar 3)) (hName 9) (bTru (fCallD F__law_less (fCons (fVar 9) (fCons (fVar 4) fNil)))) (fVar 9) [9] [.v (.list (Ls.map fun L => .list (L.map DPc))), .v (.list (F.map DP)), x2, .v (.list (O.map DP)), .v (DP q), .un, .un, x7, x8, .un] = .ok (.list ((O.filter fun o => lt o q).map DP)) := by
        refine lc_ok (ds := O.map DP) rfl (by rw [List.length_map]; omega) ?_
        show cLoop _ _ _ [.v (.list (Ls.map fun L => .list (L.map DPc))), .v (.list (F.map DP)), x2, .v (.list (O.map DP)), .v (DP q), .un, .un, x7, x8, .un] _ = _
        have aux : ∀ M : List Pr, (∀ x ∈ M, Num k x) → cLoop (hName 9) (bTru (fCallD F__law_less (fCons (fVar 9) (fCons (fVar 4) fNil)))) (fVar 9) [.v (.list (Ls.map fun L => .list (L.map DPc))), .v (.list (F.map DP)), x2, .v (.list (O.map DP)), .v (DP q), .un, .un, x7, x8, .un] (M.map DP) = .ok ((M.filter fun o => lt o q).map DP) := by
          intro M
          induction M with
          | nil => intro _; rfl
          | cons o t ih =>
            intro hM
            have ih' := ih fun x hx => hM x (List.mem_cons_of_mem _ hx)
            have c := plless_ok ((hM o List.mem_cons_self).1.mono (show k ≤ 4400 by omega)) (kq.1.1.mono (show k ≤ 4400 by omega))
            rw [List.map_cons, List.filter_cons]
            unfold cLoop
            cases hc : lt o q with
            | true =>
              rw [hc] at c
              simp only [hName, bTru, fCallD, fCons, fVar, fNil, truth, R.bind, List.set_cons_succ, List.set_cons_zero, List.getElem?_cons_succ, List.getElem?_cons_zero, c, if_true, List.map_cons] at ih' ⊢
              rw [ih']
            | false =>
              rw [hc] at c
              simp only [hName, bTru, fCallD, fCons, fVar, fNil, truth, R.bind, List.set_cons_succ, List.set_cons_zero, List.getElem?_cons_succ, List.getElem?_cons_zero, c, Bool.false_eq_true, if_false] at ih' ⊢
              rw [ih']
        exact aux O fun x hx => (okO x hx).1
      obtain ⟨n, hn, hnO⟩ : ∃ n, ((O.filter fun o => lt o q).map DP).length = n ∧ n ≤ O.length := ⟨_, rfl, by rw [List.length_map]; exact List.length_filter_le _ _⟩
      have ln : gLen [.list ((O.filter fun o => lt o q).map DP)] = .ok (.int (n : Int)) := by rw [len_list, hn]
      have c1 := cut_at (ds := O.map DP) (n := n) (by rw [List.length_map]; exact hnO)
      have c2 := cut_from (ds := O.map DP) (n := n) (by rw [List.length_map]; exact hnO)
      have o1 : ∀ xs ys : List D, xs.length + ys.length ≤ 100000 → gAdd (.list xs) (.list ys) = .ok (.list (xs ++ ys)) := fun xs ys h => if_pos h
      have a1 := o1 ((O.map DP).take n) [DP q] (by rw [List.length_take, List.length_map]; simp; omega)
      have a2 := o1 ((O.map DP).take n ++ [DP q]) ((O.map DP).drop n) (by simp; omega)
      have eq : (O.map DP).take n ++ [DP q] ++ (O.map DP).drop n = (O.take n ++ [q] ++ O.drop n).map DP := by simp [List.map_take, List.map_drop]
      rw [eq] at a2
      refine ⟨[.v (.list (Ls.map fun L => .list (L.map DPc))), .v (.list (F.map DP)), x2, .v (.list (O.map DP)), .v (DP q), .un, .un, x7, x8, .un], [.v (.list (Ls.map fun L => .list (L.map DPc))), .v (.list (F.map DP)), x2, .v (.list ((O.take n ++ [q] ++ O.drop n).map DP)), .v (DP q), .un, .un, x7, .v (.int (n : Int)), .un], rfl, .inl ?_, O.take n ++ [q] ++ O.drop n, _, _, rfl, by simp; omega, fun x hx => ?_⟩
      · unfold l__law_places_2
        refine seq_step (s1 := [.v (.list (Ls.map fun L => .list (L.map DPc))), .v (.list (F.map DP)), x2, .v (.list (O.map DP)), .v (DP q), .un, .un, x7, .v (.int (n : Int)), .un]) (asg_nx ((call1_ok lc).trans ln)) ?_
        refine asg_nx (d := .list ((O.take n ++ [q] ++ O.drop n).map DP)) ?_
        refine (bin_ok (x := .list ((O.map DP).take n ++ [DP q])) (y := .list ((O.map DP).drop n)) ?_ ?_).trans a2
        · refine (bin_ok (x := .list ((O.map DP).take n)) (y := .list [DP q]) ?_ rfl).trans a1
          simp only [gSeq, gPar, gPar3, gIfS, gAsg, gNext, gRet, gApp, gOwn, xf, fBin, fUn, fC, fVar, fCall, fCallD, fCons, fNil, fIf, fAnd, fOr, fNot, bOr, bNot, bAnd, bTru, truth, bVal, hName, R.bind, gInt1, gAdd, gSubI, gNeg, gCmp, List.getElem?_cons_succ, List.getElem?_cons_zero, List.set_cons_succ, List.set_cons_zero, Bool.not_true, Bool.not_false, Bool.false_eq_true, if_false, if_true, decide_true, decide_false, fSl, oSome, oNone, c1]
        · simp only [gSeq, gPar, gPar3, gIfS, gAsg, gNext, gRet, gApp, gOwn, xf, fBin, fUn, fC, fVar, fCall, fCallD, fCons, fNil, fIf, fAnd, fOr, fNot, bOr, bNot, bAnd, bTru, truth, bVal, hName, R.bind, gInt1, gAdd, gSubI, gNeg, gCmp, List.getElem?_cons_succ, List.getElem?_cons_zero, List.set_cons_succ, List.set_cons_zero, Bool.not_true, Bool.not_false, Bool.false_eq_true, if_false, if_true, decide_true, decide_false, fSl, oSome, oNone, c2]
      · rcases List.mem_append.mp hx with hx | hx
        · rcases List.mem_append.mp hx with hx | hx
          · exact okO x (List.mem_of_mem_take hx)
          · rw [List.mem_singleton.mp hx]
            exact kq
        · exact okO x (List.mem_of_mem_drop hx))
  rw [Nat.zero_add, List.length_map] at hO
  subst hs3
  have hO1 : 1 ≤ O.length := by rw [hO]; exact List.length_pos_iff.mpr neF'
  have atO : ∀ j : Nat, j < O.length → Num k (at0 O j) ∧ S (at0 O j) := fun j hj => okO _ (by unfold at0; rw [List.getD_eq_getElem?_getD, List.getElem?_eq_getElem hj]; exact List.getElem_mem hj)
  have half : Num 2 (1, 2) := ⟨⟨by unfold Bn; decide, by unfold Bn; decide, by decide⟩, ⟨by decide, by decide⟩⟩
  -- the halves
  obtain ⟨s5, e5, T, x6, hs5, hT, okT⟩ := loop_inv (tg := hName 6) (b := l__law_places_1)
    (fun i s => ∃ (T : List Pr) (x6 : En), s = [.v (.list (Ls.map fun L => .list (L.map DPc))), .v (.list (F.map DP)), x2, .v (.list (O.map DP)), x4, .o (T.map DP), x6, x7, x8, .un] ∧ T.length = i ∧ (∀ x ∈ T, Num (2 * k + 3) x ∧ S x)) ((List.range (O.length - 1)).map fun (i : Nat) => .int (1 + (i : Int))) 0
    [.v (.list (Ls.map fun L => .list (L.map DPc))), .v (.list (F.map DP)), x2, .v (.list (O.map DP)), x4, .o [], .un, x7, x8, .un] ⟨[], _, rfl, rfl, fun x hx => (nomatch hx)⟩ (by
      rintro i d s hd ⟨T, x6, rfl, hT, okT⟩
      obtain ⟨j, hj, rfl⟩ := map_getP (f := fun (i : Nat) => .int (1 + (i : Int))) hd
      rw [Nat.zero_add] at hT ⊢
      have hj2 : j = i ∧ i < O.length - 1 := by
        obtain ⟨g1, g2⟩ := List.getElem?_eq_some_iff.mp hj
        simp at g1 g2
        omega
      obtain ⟨rfl, hi⟩ := hj2
      have b1 := atO j (by omega)
      have b2 := atO (j + 1) (by omega)
      have g1 := at_ok (l := O) (k := j) (by omega)
      have g2 := at_ok (l := O) (k := j + 1) (by omega)
      rw [show ((j + 1 : Nat) : Int) = 1 + (j : Int) by omega] at g2
      have es : (1 : Int) + (j : Int) - 1 = (j : Int) := by omega
      have p1 := plplus_ok (b1.1.1.mono (show k ≤ 4400 by omega)) (b2.1.1.mono (show k ≤ 4400 by omega))
      have n1 := padd_num b1.1.1 b2.1.1
      have p2 := pltimes_ok (n1.1.mono (show k + k + 1 ≤ 4400 by omega)) (half.1.mono (show 2 ≤ 4400 by decide))
      replace p2 : F__law_times [DP (padd (at0 O j) (at0 O (j + 1))), .tuple [.int 1, .int 2]] = .ok (DP (pmul (padd (at0 O j) (at0 O (j + 1))) (1, 2))) := p2
      have hz : (T.map DP).length < 100000 := by rw [List.length_map]; omega
      refine ⟨[.v (.list (Ls.map fun L => .list (L.map DPc))), .v (.list (F.map DP)), x2, .v (.list (O.map DP)), x4, .o (T.map DP), .v (.int (1 + (j : Int))), x7, x8, .un], [.v (.list (Ls.map fun L => .list (L.map DPc))), .v (.list (F.map DP)), x2, .v (.list (O.map DP)), x4, .o ((T ++ [pmul (padd (at0 O j) (at0 O (j + 1))) (1, 2)]).map DP), .v (.int (1 + (j : Int))), x7, x8, .un], rfl, .inl ?_, _, _, rfl, by rw [List.length_append, hT]; rfl, fun x hx => ?_⟩
      · unfold l__law_places_1
        refine (app_ok (ds := T.map DP) (d := DP (pmul (padd (at0 O j) (at0 O (j + 1))) (1, 2))) rfl ?_ hz).trans ?_
        · simp only [gSeq, gPar, gPar3, gIfS, gAsg, gNext, gRet, gApp, gOwn, xf, fBin, fUn, fC, fVar, fCall, fCallD, fCons, fNil, fIf, fAnd, fOr, fNot, bOr, bNot, bAnd, bTru, truth, bVal, hName, R.bind, gInt1, gAdd, gSubI, gNeg, gCmp, List.getElem?_cons_succ, List.getElem?_cons_zero, List.set_cons_succ, List.set_cons_zero, Bool.not_true, Bool.not_false, Bool.false_eq_true, if_false, if_true, decide_true, decide_false, fTup, List.length_cons, List.length_nil, Nat.reduceAdd, Nat.reduceLeDiff, es, g1, g2, p1, p2]
        · rw [List.map_append]
          rfl
      · rcases List.mem_append.mp hx with hx | hx
        · exact okT x hx
        · rw [List.mem_singleton.mp hx]
          exact ⟨Num.mono (pmul_num n1.1 half.1) (by omega), Sh _ _ b1.1.1 b2.1.1 b1.2 b2.2⟩)
  rw [Nat.zero_add, List.length_map, List.length_range] at hT
  subst hs5
  have bl := atO (O.length - 1) (by omega)
  have gl := at_ok (l := O) (k := O.length - 1) (by omega)
  have pl := plplus_ok (bl.1.1.mono (show k ≤ 4400 by omega)) ((num_one (k := 1) (by decide)).1.mono (show 1 ≤ 4400 by decide))
  replace pl : F__law_plus [DP (at0 O (O.length - 1)), .tuple [.int 1, .int 1]] = .ok (DP (padd (at0 O (O.length - 1)) (1, 1))) := pl
  refine ⟨O ++ T ++ [padd (at0 O (O.length - 1)) (1, 1)], by simp; omega, fun x hx => ?_, run_rt (s := [.v (.list (Ls.map fun L => .list (L.map DPc))), .un, .un, .un, .un, .un, .un, .un, .un, .un]) rfl ?_⟩
  · rcases List.mem_append.mp hx with hx | hx
    · rcases List.mem_append.mp hx with hx | hx
      · exact ⟨Num.mono (okO x hx).1 (by omega), (okO x hx).2⟩
      · exact okT x hx
    · rw [List.mem_singleton.mp hx]
      exact ⟨Num.mono (padd_num bl.1.1 (num_one (k := 1) (by decide)).1) (by omega), Sn _ bl.1.1 bl.2⟩
  unfold m__law_places
  refine seq_step (own_nx (lst_nil _)) ?_
  simp only [List.set_cons_succ, List.set_cons_zero]
  refine seq_step ((for_nx (show sSeq (fVar 0) _ = .ok (Ls.map fun L => PyData.list (L.map DPc)) from rfl)).trans e1) ?_
  refine seq_step (asg_nx (lst_nil _)) ?_
  simp only [List.set_cons_succ, List.set_cons_zero]
  refine seq_step (s1 := [.v (.list (Ls.map fun L => .list (L.map DPc))), .v (.list (F.map DP)), x2, .v (.list (O.map DP)), x4, .un, .un, x7, x8, .un]) ((for_nx (show sSeq (fVar 1) [.v (.list (Ls.map fun L => .list (L.map DPc))), .v (.list (F.map DP)), x2, .v (.list []), .un, .un, .un, x7, .un, .un] = .ok (F.map DP) from rfl)).trans e3) ?_
  refine seq_step (own_nx (lst_nil _)) ?_
  simp only [List.set_cons_succ, List.set_cons_zero]
  have kl : gLen [.list (O.map DP)] = .ok (.int (O.length : Int)) := by rw [len_list, List.length_map]
  have src : sRng2 (fCons (fC (.int 1)) (fCons (fCall gLen (fCons (fVar 3) fNil)) fNil)) [.v (.list (Ls.map fun L => .list (L.map DPc))), .v (.list (F.map DP)), x2, .v (.list (O.map DP)), x4, .o [], .un, x7, x8, .un] = .ok ((List.range (O.length - 1)).map fun (i : Nat) => .int (1 + (i : Int))) := by
    refine rng2_ok (lo := 1) (n := O.length - 1) ?_ (by omega) (by omega)
    simp only [gSeq, gPar, gPar3, gIfS, gAsg, gNext, gRet, gApp, gOwn, xf, fBin, fUn, fC, fVar, fCall, fCallD, fCons, fNil, fIf, fAnd, fOr, fNot, bOr, bNot, bAnd, bTru, truth, bVal, hName, R.bind, gInt1, gAdd, gSubI, gNeg, gCmp, List.getElem?_cons_succ, List.getElem?_cons_zero, List.set_cons_succ, List.set_cons_zero, Bool.not_true, Bool.not_false, Bool.false_eq_true, if_false, if_true, decide_true, decide_false, kl]
    rw [show (O.length : Int) = 1 + ((O.length - 1 : Nat) : Int) by omega]
  refine seq_step ((for_nx src).trans e5) ?_
  have el : (O.length : Int) - 1 = ((O.length - 1 : Nat) : Int) := by omega
  have o1 : ∀ xs ys : List D, xs.length + ys.length ≤ 100000 → gAdd (.list xs) (.list ys) = .ok (.list (xs ++ ys)) := fun xs ys h => if_pos h
  have a1 := o1 (O.map DP) (T.map DP) (by simp; omega)
  have a2 := o1 (O.map DP ++ T.map DP) [DP (padd (at0 O (O.length - 1)) (1, 1))] (by simp; omega)
  rw [← List.map_append] at a1 a2
  have a3 : (List.map DP (O ++ T) ++ [DP (padd (at0 O (O.length - 1)) (1, 1))]) = (O ++ T ++ [padd (at0 O (O.length - 1)) (1, 1)]).map DP := by rw [List.map_append (l₂ := [_])]; rfl
  rw [a3] at a2
  refine (show gLet 5 _ _ = gRet _ _ from rfl).trans (ret_rt ?_)
  refine (bin_ok (x := .list ((O ++ T).map DP)) (y := .list [DP (padd (at0 O (O.length - 1)) (1, 1))]) ?_ ?_).trans a2
  · exact (bin_ok (x := .list (O.map DP)) (y := .list (T.map DP)) rfl rfl).trans a1
  · refine lst_ok ?_ (by simp)
    simp only [gSeq, gPar, gPar3, gIfS, gAsg, gNext, gRet, gApp, gOwn, xf, fBin, fUn, fC, fVar, fCall, fCallD, fCons, fNil, fIf, fAnd, fOr, fNot, bOr, bNot, bAnd, bTru, truth, bVal, hName, R.bind, gInt1, gAdd, gSubI, gNeg, gCmp, List.getElem?_cons_succ, List.getElem?_cons_zero, List.set_cons_succ, List.set_cons_zero, Bool.not_true, Bool.not_false, Bool.false_eq_true, if_false, if_true, decide_true, decide_false, fTup, List.length_cons, List.length_nil, Nat.reduceAdd, Nat.reduceLeDiff, kl, el, gl, pl]


/-! ### lines as functions: pieces, cut at starts, joined -/
theorem lt_val {p q : Pr} (h : Low p) (g : Low q) : lt p q = decide (val p < val q) := by
  obtain ⟨z, c, e1⟩ := low_val h
  obtain ⟨z2, c2, e2⟩ := low_val g
  have h1 := h.1
  have g1 := g.1
  unfold lt
  rw [decide_eq_decide, Rat.lt_iff, e1, e2]
  show _ ↔ p.1 * ((q.2.toNat : Nat) : Int) < q.1 * ((p.2.toNat : Nat) : Int)
  rw [Int.toNat_of_nonneg (by omega), Int.toNat_of_nonneg (by omega)]
def tv (p : Pc) (x : Rat) : Rat := val p.v + val p.m * (x - val p.s)
theorem val_tell {k m : Nat} {p : Pc} (h : PcOk k p) {x : Pr} (g : Pb m x) : val (tell p x) = tv p (val x) := by
  unfold tell tv
  rw [val_padd h.v.1 (pmul_b h.m.1 (padd_b g (pneg_b h.s.1))), val_pmul h.m.1 (padd_b g (pneg_b h.s.1)), val_padd g (pneg_b h.s.1), val_pneg]
  grind
theorem tv_self (p : Pc) : tv p (val p.s) = val p.v := by
  unfold tv
  grind
/-- which piece, by the places as rationals -/
def selQ (x : Rat) (f : Pc) : List Pc → Pc
  | [] => f
  | p :: r => selQ x (if x < val p.s then f else p) r
theorem sel_selQ {x : Pr} (hx : Low x) : ∀ (L : List Pc) (f : Pc), (∀ p ∈ L, Low p.s) → sel x f L = selQ (val x) f L
  | [], _, _ => rfl
  | p :: r, f, h => by
    show sel x _ r = selQ (val x) _ r
    rw [lt_val hx (h p List.mem_cons_self), sel_selQ hx r _ fun q hq => h q (List.mem_cons_of_mem _ hq)]
    simp only [decide_eq_true_eq]
theorem selQ_first {x : Rat} : ∀ (L : List Pc) (f : Pc), (∀ p ∈ L, x < val p.s) → selQ x f L = f
  | [], _, _ => rfl
  | p :: r, f, h => by
    show selQ x (if x < val p.s then f else p) r = f
    rw [if_pos (h p List.mem_cons_self)]
    exact selQ_first r f fun q hq => h q (List.mem_cons_of_mem _ hq)
theorem selQ_congr {x y : Rat} : ∀ (L : List Pc) (f : Pc), (∀ p ∈ L, (x < val p.s ↔ y < val p.s)) → selQ x f L = selQ y f L
  | [], _, _ => rfl
  | p :: r, f, h => by
    show selQ x (if x < val p.s then f else p) r = selQ y (if y < val p.s then f else p) r
    rw [selQ_congr r _ fun q hq => h q (List.mem_cons_of_mem _ hq)]
    congr 1
    by_cases hx : x < val p.s
    · rw [if_pos hx, if_pos ((h p List.mem_cons_self).mp hx)]
    · rw [if_neg hx, if_neg fun z => hx ((h p List.mem_cons_self).mpr z)]
theorem selQ_mem {x : Rat} : ∀ (L : List Pc) (f : Pc), selQ x f L = f ∨ selQ x f L ∈ L
  | [], _ => .inl rfl
  | p :: r, f => by
    show selQ x (if x < val p.s then f else p) r = f ∨ _
    rcases selQ_mem (x := x) r (if x < val p.s then f else p) with h | h
    · show selQ x (if x < val p.s then f else p) r = f ∨ selQ x (if x < val p.s then f else p) r ∈ _
      rw [h]
      split
      · exact .inl rfl
      · exact .inr List.mem_cons_self
    · exact .inr (List.mem_cons_of_mem _ h)
/-- a chain of pieces: starts go up, each piece leads to the next one's value -/
def Ck : Pc → List Pc → Prop
  | _, [] => True
  | f, p :: r => val f.s < val p.s ∧ tv f (val p.s) = val p.v ∧ Ck p r
/-- the same, and slopes change -/
def Lk : Pc → List Pc → Prop
  | _, [] => True
  | f, p :: r => val f.s < val p.s ∧ f.m ≠ p.m ∧ tv f (val p.s) = val p.v ∧ Lk p r
theorem Lk.ck : ∀ {L : List Pc} {f : Pc}, Lk f L → Ck f L
  | [], _, _ => trivial
  | _ :: _, _, h => ⟨h.1, h.2.2.1, Lk.ck h.2.2.2⟩
theorem Ck.up : ∀ {L : List Pc} {f : Pc}, Ck f L → ∀ p ∈ L, val f.s < val p.s
  | [], _, _, _, h => nomatch h
  | q :: r, f, h, p, hp => by
    rcases List.mem_cons.mp hp with rfl | hp
    · exact h.1
    · have := Ck.up h.2.2 p hp
      have := h.1
      grind
/-- at a place between no starts the pieces before and at it tell the same -/
theorem Ck.meet {s t : Rat} (hst : s < t) : ∀ {L : List Pc} {f : Pc}, Ck f L → (∀ p ∈ L, val p.s ≤ s ∨ t ≤ val p.s) → tv (selQ s f L) t = tv (selQ t f L) t
  | [], _, _, _ => rfl
  | p :: r, f, h, hs => by
    show tv (selQ s (if s < val p.s then f else p) r) t = tv (selQ t (if t < val p.s then f else p) r) t
    have hu := Ck.up h.2.2
    rcases hs p List.mem_cons_self with a | a
    · rw [if_neg (by grind), if_neg (by grind)]
      exact Ck.meet hst h.2.2 fun q hq => hs q (List.mem_cons_of_mem _ hq)
    · rw [if_pos (by grind), selQ_first r f fun q hq => by have := hu q hq; grind]
      by_cases e : t < val p.s
      · rw [if_pos e, selQ_first r f fun q hq => by have := hu q hq; grind]
      · have e' : t = val p.s := by grind
        rw [if_neg e, selQ_first r p fun q hq => by have := hu q hq; grind]
        rw [e', h.2.1, tv_self]
/-- the last of the places that is not behind x -/
def lastQ (x : Rat) (s : Pr) : List Pr → Pr
  | [] => s
  | t :: r => lastQ x (if x < val t then s else t) r
def Up (s : Pr) : List Pr → Prop
  | [] => True
  | t :: r => val s < val t ∧ Up t r
theorem Up.all : ∀ {S : List Pr} {s : Pr}, Up s S → ∀ t ∈ S, val s < val t
  | [], _, _, _, h => nomatch h
  | u :: r, s, h, t, ht => by
    rcases List.mem_cons.mp ht with rfl | ht
    · exact h.1
    · have := Up.all h.2 t ht
      have := h.1
      grind
theorem lastQ_first {x : Rat} : ∀ (S : List Pr) (s : Pr), (∀ t ∈ S, x < val t) → lastQ x s S = s
  | [], _, _ => rfl
  | t :: r, s, h => by
    show lastQ x (if x < val t then s else t) r = s
    rw [if_pos (h t List.mem_cons_self)]
    exact lastQ_first r s fun u hu => h u (List.mem_cons_of_mem _ hu)
theorem lastQ_ok {x : Rat} : ∀ {S : List Pr} {s : Pr}, Up s S → val s ≤ x → val (lastQ x s S) ≤ x ∧ val s ≤ val (lastQ x s S) ∧ (∀ t ∈ S, val t ≤ x → val t ≤ val (lastQ x s S)) ∧ (lastQ x s S = s ∨ lastQ x s S ∈ S)
  | [], s, _, h => ⟨h, by show val s ≤ val s; grind, fun t ht => (nomatch ht), .inl rfl⟩
  | t :: r, s, u, h => by
    show val (lastQ x (if x < val t then s else t) r) ≤ x ∧ val s ≤ val (lastQ x (if x < val t then s else t) r) ∧ (∀ t' ∈ t :: r, val t' ≤ x → val t' ≤ val (lastQ x (if x < val t then s else t) r)) ∧ (lastQ x (if x < val t then s else t) r = s ∨ lastQ x (if x < val t then s else t) r ∈ t :: r)
    have ua := Up.all u.2
    by_cases c : x < val t
    · rw [if_pos c, lastQ_first r s fun v hv => by have := ua v hv; grind]
      refine ⟨h, by grind, fun t' ht' hx => ?_, .inl rfl⟩
      rcases List.mem_cons.mp ht' with rfl | ht'
      · grind
      · have := ua t' ht'
        grind
    · rw [if_neg c]
      obtain ⟨a, b, d, e⟩ := lastQ_ok u.2 (show val t ≤ x by grind)
      have := u.1
      refine ⟨a, by grind, fun t' ht' hx => ?_, ?_⟩
      · rcases List.mem_cons.mp ht' with rfl | ht'
        · exact b
        · exact d t' ht' hx
      · rcases e with e | e
        · exact .inr (by rw [e]; exact List.mem_cons_self)
        · exact .inr (List.mem_cons_of_mem _ e)
theorem selQ_map {x : Rat} {c : Pr → Pc} (hc : ∀ s, (c s).s = s) : ∀ (S : List Pr) (s : Pr), selQ x (c s) (S.map c) = c (lastQ x s S)
  | [], _ => rfl
  | t :: r, s => by
    show selQ x (if x < val (c t).s then c s else c t) (r.map c) = c (lastQ x (if x < val t then s else t) r)
    rw [hc, ← selQ_map hc r]
    congr 1
    split <;> rfl
/-- the piece at a place is the one at the last start before it -/
theorem selQ_last {x : Rat} {S : List Pr} {s : Pr} (u : Up s S) (h : val s ≤ x) {L : List Pc} {f : Pc} (hL : ∀ p ∈ L, p.s = s ∨ p.s ∈ S) : selQ x f L = selQ (val (lastQ x s S)) f L := by
  obtain ⟨a, b, d, e⟩ := lastQ_ok u h
  refine selQ_congr L f fun p hp => ?_
  rcases hL p hp with q | q
  · rw [q]
    constructor <;> intro z <;> grind
  · constructor
    · intro z
      grind
    · intro z
      by_cases c : x < val p.s
      · exact c
      · have := d _ q (by grind)
        grind
/-- neighbours of a rising row of places have no third one between them -/
theorem Up.next {S : List Pr} {s : Pr} (u : Up s S) {a b : Pr} : ∀ {pre post : List Pr}, s :: S = pre ++ a :: b :: post → val a < val b ∧ ∀ t ∈ s :: S, val t ≤ val a ∨ val b ≤ val t
  | [], post, e => by
    cases e
    refine ⟨u.1, fun t ht => ?_⟩
    rcases List.mem_cons.mp ht with rfl | ht
    · exact .inl (by grind)
    · rcases List.mem_cons.mp ht with rfl | ht
      · exact .inr (by grind)
      · have := Up.all u.2 t ht
        exact .inr (by grind)
  | p :: pre, post, e => by
    cases hS : S with
    | nil =>
      rw [hS] at e
      cases pre <;> cases e
    | cons t r =>
      rw [hS] at e u
      obtain ⟨e0, e'⟩ := List.cons.inj e
      replace e' : t :: r = pre ++ a :: b :: post := e'
      subst e0
      obtain ⟨h1, h2⟩ := Up.next u.2 e'
      refine ⟨h1, fun v hv => ?_⟩
      rcases List.mem_cons.mp hv with rfl | hv
      · have h3 : a ∈ t :: r := by rw [e']; simp
        have := Up.all u a h3
        exact .inl (by grind)
      · exact h2 v hv


/-! ### joined pieces -/
def joinT (g : Pc) : List Pc → List Pc
  | [] => []
  | c :: r => if c.m = g.m then joinT g r else c :: joinT c r
theorem joinT_mem : ∀ {R : List Pc} {g p : Pc}, p ∈ joinT g R → p ∈ R
  | [], _, _, h => nomatch h
  | c :: r, g, p, h => by
    unfold joinT at h
    split at h
    · exact List.mem_cons_of_mem _ (joinT_mem h)
    · rcases List.mem_cons.mp h with rfl | h
      · exact List.mem_cons_self
      · exact List.mem_cons_of_mem _ (joinT_mem h)
theorem tv_eq {g c : Pc} (hm : g.m = c.m) {y : Rat} (h : tv g y = tv c y) (x : Rat) : tv g x = tv c x := by
  unfold tv at *
  rw [hm] at *
  grind
theorem joinL_ok : ∀ {R : List Pc} {g c : Pc}, Ck c R → g.m = c.m → (∀ y, tv g y = tv c y) → val g.s ≤ val c.s → Lk g (joinT g R) ∧ ∀ x, tv (selQ x g (joinT g R)) x = tv (selQ x c R) x
  | [], g, c, _, _, ht, _ => ⟨trivial, fun x => ht x⟩
  | p :: r, g, c, h, hm, ht, hs => by
    have hu := Ck.up h.2.2
    have h1 := h.1
    have h2 := h.2.1
    unfold joinT
    by_cases e : p.m = g.m
    · rw [if_pos e]
      have tp : ∀ y, tv g y = tv p y := fun y => tv_eq e.symm (y := val p.s) (by rw [ht, h2, tv_self]) y
      obtain ⟨a, b⟩ := joinL_ok h.2.2 e.symm tp (by grind)
      refine ⟨a, fun x => ?_⟩
      show _ = tv (selQ x (if x < val p.s then c else p) r) x
      rw [b x]
      by_cases z : x < val p.s
      · rw [if_pos z, selQ_first r c fun q hq => by have := hu q hq; grind, selQ_first r p fun q hq => by have := hu q hq; grind, ← ht, tp]
      · rw [if_neg z]
    · rw [if_neg e]
      obtain ⟨a, b⟩ := joinL_ok h.2.2 rfl (fun y => rfl) (show val p.s ≤ val p.s by grind)
      refine ⟨⟨by grind, fun z => e z.symm, by rw [ht, h2], a⟩, fun x => ?_⟩
      show tv (selQ x (if x < val p.s then g else p) (joinT p r)) x = tv (selQ x (if x < val p.s then c else p) r) x
      by_cases z : x < val p.s
      · rw [if_pos z, if_pos z, selQ_first r c fun q hq => by have := hu q hq; grind, selQ_first (joinT p r) g fun q hq => by have := hu q (joinT_mem hq); grind]
        exact ht x
      · rw [if_neg z, if_neg z]
        exact b x
/-! ### the program's sum of two lines, as data -/
def comb (p q : Pc) (s : Pr) : Pc := ⟨s, padd (tell p s) (tell q s), padd p.m q.m⟩
def pieceAt (L : List Pc) (s : Pr) : Pc := sel s (head0 L) L
def sumAt (L M : List Pc) (s : Pr) : Pc := comb (pieceAt L s) (pieceAt M s) s
theorem tv_comb {k m : Nat} {p q : Pc} (hp : PcOk k p) (hq : PcOk k q) {s : Pr} (hs : Pb m s) (x : Rat) : tv (comb p q s) x = tv p x + tv q x := by
  have e1 := val_tell hp hs
  have e2 := val_tell hq hs
  have e3 : val (padd (tell p s) (tell q s)) = tv p (val s) + tv q (val s) := by rw [val_padd (tell_num hp hs).1 (tell_num hq hs).1, e1, e2]
  have e4 : val (padd p.m q.m) = val p.m + val q.m := val_padd hp.m.1 hq.m.1
  show val (padd (tell p s) (tell q s)) + val (padd p.m q.m) * (x - val s) = _
  rw [e3, e4]
  unfold tv
  grind
/-- a line, as the law has it -/
structure Line (k : Nat) (L : List Pc) : Prop where
  ne : L ≠ []
  ok : ∀ p ∈ L, PcOk k p
  s0 : (head0 L).s = (0, 1)
  lk : Lk (head0 L) L.tail
theorem Line.eq {k : Nat} {L : List Pc} (h : Line k L) : L = head0 L :: L.tail := by
  cases L with
  | nil => exact absurd rfl h.ne
  | cons p r => rfl
theorem Line.pieceQ {k : Nat} {L : List Pc} (h : Line k L) {s : Pr} (hs : Low s) (h0 : 0 ≤ val s) : pieceAt L s = selQ (val s) (head0 L) L.tail := by
  have e := h.eq
  unfold pieceAt
  rw [sel_selQ hs L _ fun p hp => (h.ok p hp).s.2]
  have hz : ¬ val s < val (head0 L).s := by
    rw [h.s0, val_zero]
    grind
  generalize head0 L = f at *
  generalize L.tail = r at *
  rw [e]
  show selQ (val s) (if val s < val f.s then f else f) r = _
  rw [if_neg hz]
theorem Line.piece_ok {k : Nat} {L : List Pc} (h : Line k L) (s : Pr) : PcOk k (pieceAt L s) := sel_ok h.ne h.ok s
theorem Line.tellQ {k m : Nat} {L : List Pc} (h : Line k L) {x : Pr} (hx : Num m x) (h0 : 0 ≤ val x) : val (tellL L x) = tv (selQ (val x) (head0 L) L.tail) (val x) := by
  show val (tell (pieceAt L x) x) = _
  rw [val_tell (h.piece_ok x) hx.1, h.pieceQ hx.2 h0]
/-- the sums at a rising row of places that has all starts -/
theorem sums_ck {k m : Nat} {L M : List Pc} (hL : Line k L) (hM : Line k M) : ∀ {S pre : List Pr} {s s0 : Pr} {S0 : List Pr}, Up s0 S0 → s0 :: S0 = pre ++ s :: S → (∀ t ∈ s0 :: S0, Num m t) → s0 = (0, 1) →
    (∀ p ∈ L.tail, p.s = s0 ∨ p.s ∈ S0) → (∀ p ∈ M.tail, p.s = s0 ∨ p.s ∈ S0) → Ck (sumAt L M s) (S.map (sumAt L M))
  | [], _, _, _, _, _, _, _, _, _, _ => trivial
  | t :: r, pre, s, s0, S0, u, e, hn, z0, aL, aM => by
    obtain ⟨h1, h2⟩ := Up.next u e
    have hs : s ∈ s0 :: S0 := by rw [e]; simp
    have ht : t ∈ s0 :: S0 := by rw [e]; simp
    have pos : ∀ v ∈ s0 :: S0, 0 ≤ val v := fun v hv => by
      rcases List.mem_cons.mp hv with q | q
      · rw [q, z0, val_zero]
        grind
      · have := Up.all u v q
        rw [z0, val_zero] at this
        grind
    refine ⟨h1, ?_, ?_⟩
    · have g : ∀ {N : List Pc}, Line k N → (∀ p ∈ N.tail, p.s = s0 ∨ p.s ∈ S0) → tv (pieceAt N s) (val t) = tv (pieceAt N t) (val t) := fun hN aN => by
        rw [hN.pieceQ (hn s hs).2 (pos s hs), hN.pieceQ (hn t ht).2 (pos t ht)]
        exact Ck.meet h1 hN.lk.ck fun p hp => h2 p.s (by
          rcases aN p hp with q | q
          · rw [q]; exact List.mem_cons_self
          · exact List.mem_cons_of_mem _ q)
      show tv (comb (pieceAt L s) (pieceAt M s) s) (val t) = val (padd (tell (pieceAt L t) t) (tell (pieceAt M t) t))
      rw [tv_comb (hL.piece_ok s) (hM.piece_ok s) (hn s hs).1, val_padd (tell_num (hL.piece_ok t) (hn t ht).1).1 (tell_num (hM.piece_ok t) (hn t ht).1).1, val_tell (hL.piece_ok t) (hn t ht).1, val_tell (hM.piece_ok t) (hn t ht).1, g hL aL, g hM aM]
    · exact sums_ck hL hM (pre := pre ++ [s]) u (by rw [e]; simp) hn z0 aL aM
/-- what the sum tells -/
theorem sums_tell {k m : Nat} {L M : List Pc} (hL : Line k L) (hM : Line k M) {s0 : Pr} {S0 : List Pr} (u : Up s0 S0) (hn : ∀ t ∈ s0 :: S0, Num m t) (z0 : s0 = (0, 1)) (aL : ∀ p ∈ L.tail, p.s = s0 ∨ p.s ∈ S0) (aM : ∀ p ∈ M.tail, p.s = s0 ∨ p.s ∈ S0)
    {x : Rat} (hx : 0 ≤ x) : tv (selQ x (sumAt L M s0) (S0.map (sumAt L M))) x = tv (selQ x (head0 L) L.tail) x + tv (selQ x (head0 M) M.tail) x := by
  have h0 : val s0 ≤ x := by
    rw [z0, val_zero]
    exact hx
  obtain ⟨a, b, d, e⟩ := lastQ_ok u h0
  have hm : lastQ x s0 S0 ∈ s0 :: S0 := by
    rcases e with e | e
    · rw [e]; exact List.mem_cons_self
    · exact List.mem_cons_of_mem _ e
  have hp : 0 ≤ val (lastQ x s0 S0) := by
    have z : val s0 = 0 := by rw [z0, val_zero]
    grind
  rw [selQ_map (fun s => rfl) S0 s0]
  show tv (comb (pieceAt L (lastQ x s0 S0)) (pieceAt M (lastQ x s0 S0)) (lastQ x s0 S0)) x = _
  rw [tv_comb (hL.piece_ok _) (hM.piece_ok _) (hn _ hm).1, hL.pieceQ (hn _ hm).2 hp, hM.pieceQ (hn _ hm).2 hp, selQ_last u h0 aL, selQ_last u h0 aM]

/-- the sum, joined -/
def addL (L M : List Pc) (s0 : Pr) (S0 : List Pr) : List Pc := sumAt L M s0 :: joinT (sumAt L M s0) (S0.map (sumAt L M))
theorem sumAt_ok {k m : Nat} {L M : List Pc} (hL : Line k L) (hM : Line k M) {s : Pr} (hs : Num m s) (hm : m ≤ 5 * k + 5 * k + 2 * m + 7) : PcOk (5 * k + 5 * k + 2 * m + 7) (sumAt L M s) := by
  have p := hL.piece_ok s
  have q := hM.piece_ok s
  have t1 := tell_num p hs.1
  have t2 := tell_num q hs.1
  refine ⟨⟨hs.1.mono hm, hs.2⟩, ?_, ?_⟩
  · have := padd_num t1.1 t2.1
    exact ⟨this.1.mono (by omega), this.2⟩
  · have := padd_num p.m.1 q.m.1
    exact ⟨this.1.mono (by omega), this.2⟩
theorem addL_line {k m K : Nat} {L M : List Pc} (hL : Line k L) (hM : Line k M) {s0 : Pr} {S0 : List Pr} (u : Up s0 S0) (hn : ∀ t ∈ s0 :: S0, Num m t) (z0 : s0 = (0, 1)) (aL : ∀ p ∈ L.tail, p.s = s0 ∨ p.s ∈ S0) (aM : ∀ p ∈ M.tail, p.s = s0 ∨ p.s ∈ S0) (hK : ∀ t ∈ s0 :: S0, PcOk K (sumAt L M t)) : Line K (addL L M s0 S0) := by
  have ck := sums_ck hL hM (pre := []) u rfl hn z0 aL aM
  refine ⟨List.cons_ne_nil _ _, fun p hp => ?_, z0, (joinL_ok ck rfl (fun y => rfl) (show val s0 ≤ val s0 by grind)).1⟩
  rcases List.mem_cons.mp hp with rfl | hp
  · exact hK _ List.mem_cons_self
  · obtain ⟨t, ht, rfl⟩ := List.mem_map.mp (joinT_mem hp)
    exact hK t (List.mem_cons_of_mem _ ht)
theorem addL_tell {k m K n : Nat} {L M : List Pc} (hL : Line k L) (hM : Line k M) {s0 : Pr} {S0 : List Pr} (u : Up s0 S0) (hn : ∀ t ∈ s0 :: S0, Num m t) (z0 : s0 = (0, 1)) (aL : ∀ p ∈ L.tail, p.s = s0 ∨ p.s ∈ S0) (aM : ∀ p ∈ M.tail, p.s = s0 ∨ p.s ∈ S0) (hK : ∀ t ∈ s0 :: S0, PcOk K (sumAt L M t))
    {x : Pr} (hx : Num n x) (h0 : 0 ≤ val x) : tellL (addL L M s0 S0) x = padd (tellL L x) (tellL M x) := by
  have ck := sums_ck hL hM (pre := []) u rfl hn z0 aL aM
  have ln := addL_line hL hM u hn z0 aL aM hK
  have tL : Num (k + (k + (n + k + 1)) + 1) (tellL L x) := tell_num (hL.piece_ok x) hx.1
  have tM : Num (k + (k + (n + k + 1)) + 1) (tellL M x) := tell_num (hM.piece_ok x) hx.1
  have tF : Num (K + (K + (n + K + 1)) + 1) (tellL (addL L M s0 S0) x) := tell_num (ln.piece_ok x) hx.1
  refine low_inj tF.2 (padd_num tL.1 tM.1).2 ?_
  rw [val_padd tL.1 tM.1, hL.tellQ hx h0, hM.tellQ hx h0, ln.tellQ hx h0, ← sums_tell hL hM u hn z0 aL aM h0]
  exact (joinL_ok ck rfl (fun y => rfl) (show val s0 ≤ val s0 by grind)).2 _
theorem Lk.allB {k : Nat} : ∀ {r : List Pc} {f : Pc}, Lk f r → (∀ p ∈ f :: r, PcOk k p) → (((f :: r).zip r).all fun z => stepB z.1 z.2) = true
  | [], _, _, _ => rfl
  | p :: r, f, h, ok => by
    have kf := ok f List.mem_cons_self
    have kp := ok p (List.mem_cons_of_mem _ List.mem_cons_self)
    have ih := Lk.allB h.2.2.2 fun q hq => ok q (List.mem_cons_of_mem _ hq)
    rw [List.zip_cons_cons, List.all_cons, ih, Bool.and_true]
    show (lt f.s p.s && (!decide (f.m = p.m) && decide (tell f p.s = p.v))) = true
    have e : tell f p.s = p.v := low_inj (tell_num kf kp.s.1).2 kp.v.2 (by rw [val_tell kf kp.s.1, h.2.2.1])
    rw [lt_val kf.s.2 kp.s.2, decide_eq_true h.1, decide_eq_false h.2.1, decide_eq_true e]
    rfl
theorem Line.isB {k : Nat} {L : List Pc} (h : Line k L) : linB L = true := by
  have e := h.eq
  have s0 := h.s0
  have a := Lk.allB h.lk (fun p hp => h.ok p (by rw [e]; exact hp))
  generalize head0 L = f at *
  generalize L.tail = r at *
  rw [e]
  show (decide (f.s = (0, 1)) && _) = true
  rw [decide_eq_true s0, Bool.true_and]
  exact a


/-! ### the starts of two lines, in their order -/
def Lt (a b : Pr) : Prop := val a < val b
def popA (a : Pr) (B : List Pr) : List Pr := B.takeWhile fun b => lt b a
def popR (a : Pr) (B : List Pr) : List Pr := match B.dropWhile fun b => lt b a with
  | [] => []
  | b :: r => if b = a then r else b :: r
theorem pw_unique : ∀ {A B : List Pr}, A.Pairwise Lt → B.Pairwise Lt → (∀ x, x ∈ A ↔ x ∈ B) → A = B
  | [], [], _, _, _ => rfl
  | [], b :: B, _, _, h => nomatch (h b).mpr List.mem_cons_self
  | a :: A, [], _, _, h => nomatch (h a).mp List.mem_cons_self
  | a :: A, b :: B, hA, hB, h => by
    obtain ⟨a1, a2⟩ := List.pairwise_cons.mp hA
    obtain ⟨b1, b2⟩ := List.pairwise_cons.mp hB
    have e : a = b := by
      rcases List.mem_cons.mp ((h a).mp List.mem_cons_self) with q | q
      · exact q
      · rcases List.mem_cons.mp ((h b).mpr List.mem_cons_self) with p | p
        · exact p.symm
        · have x1 := b1 a q
          have x2 := a1 b p
          unfold Lt at x1 x2
          grind
    subst e
    refine congrArg _ (pw_unique a2 b2 fun x => ?_)
    constructor
    · intro hx
      rcases List.mem_cons.mp ((h x).mp (List.mem_cons_of_mem _ hx)) with q | q
      · have := a1 x hx
        rw [q] at this
        unfold Lt at this
        grind
      · exact q
    · intro hx
      rcases List.mem_cons.mp ((h x).mpr (List.mem_cons_of_mem _ hx)) with q | q
      · have := b1 x hx
        rw [q] at this
        unfold Lt at this
        grind
      · exact q
/-- one start more -/
structure Mg (A : List Pr) (B found left : List Pr) : Prop where
  f : found.Pairwise Lt
  l : left.Pairwise Lt
  fl : ∀ x ∈ found, ∀ y ∈ left, Lt x y
  mem : ∀ x, x ∈ found ∨ x ∈ left ↔ x ∈ A ∨ x ∈ B
theorem Mg.step {A B found left : List Pr} (M : Mg A B found left) {a : Pr} (fa : ∀ x ∈ found, Lt x a) (la : Low a) (ll : ∀ y ∈ left, Low y) : Mg (A ++ [a]) B (found ++ popA a left ++ [a]) (popR a left) ∧ ∀ x ∈ found ++ popA a left ++ [a], val x ≤ val a := by
  have sp : popA a left ++ (left.dropWhile fun b => lt b a) = left := List.takeWhile_append_dropWhile ..
  have pa : ∀ x ∈ popA a left, x ∈ left ∧ Lt x a := fun x hx => by
    have h1 : x ∈ left := (List.takeWhile_sublist _).mem hx
    have h2 : lt x a = true := List.all_eq_true.mp (List.all_takeWhile (p := fun b => lt b a) (l := left)) x hx
    rw [lt_val (ll x h1) la] at h2
    exact ⟨h1, (of_decide_eq_true h2 : val x < val a)⟩
  have dl : (left.dropWhile fun b => lt b a).Pairwise Lt := M.l.sublist (List.dropWhile_sublist _)
  have pl : (popA a left).Pairwise Lt := M.l.sublist (List.takeWhile_sublist _)
  have pd : ∀ x ∈ popA a left, ∀ y ∈ left.dropWhile (fun b => lt b a), Lt x y := by
    have h := M.l
    rw [← sp, List.pairwise_append] at h
    exact h.2.2
  have dm : ∀ y ∈ left.dropWhile (fun b => lt b a), y ∈ left := fun y hy => (List.dropWhile_sublist _).mem hy
  have dh : ∀ b r, left.dropWhile (fun b => lt b a) = b :: r → ¬ val b < val a := fun b r e z => by
    have hb : b ∈ left := dm b (by rw [e]; exact List.mem_cons_self)
    have := List.head?_dropWhile_not (p := fun b => lt b a) left
    rw [e] at this
    simp only [List.head?_cons] at this
    rw [lt_val (ll b hb) la, decide_eq_true z] at this
    cases this
  have rr : (popR a left).Pairwise Lt ∧ (∀ y ∈ popR a left, Lt a y ∧ y ∈ left.dropWhile fun b => lt b a) ∧ ∀ y ∈ left.dropWhile (fun b => lt b a), y = a ∨ y ∈ popR a left := by
    unfold popR
    cases e : left.dropWhile fun b => lt b a with
    | nil => exact ⟨.nil, fun y hy => (nomatch hy), fun y hy => (nomatch hy)⟩
    | cons b r =>
      rw [e] at dl
      obtain ⟨d1, d2⟩ := List.pairwise_cons.mp dl
      have nb := dh b r e
      have hb : b ∈ left := dm b (by rw [e]; exact List.mem_cons_self)
      by_cases q : b = a
      · simp only [if_pos q]
        subst q
        refine ⟨d2, fun y hy => ⟨d1 y hy, List.mem_cons_of_mem _ hy⟩, fun y hy => ?_⟩
        rcases List.mem_cons.mp hy with h | h
        · exact .inl h
        · exact .inr h
      · simp only [if_neg q]
        have ne : val a < val b := by
          by_cases z : val b = val a
          · exact absurd (low_inj (ll b hb) la z) q
          · grind
        refine ⟨dl, fun y hy => ⟨?_, hy⟩, fun y hy => .inr hy⟩
        rcases List.mem_cons.mp hy with h | h
        · rw [h]
          exact ne
        · have := d1 y h
          unfold Lt at *
          grind
  obtain ⟨r1, r2, r3⟩ := rr
  refine ⟨⟨?_, r1, fun x hx y hy => ?_, fun x => ?_⟩, fun x hx => ?_⟩
  · rw [List.append_assoc, List.pairwise_append]
    refine ⟨M.f, ?_, fun x hx y hy => ?_⟩
    · rw [List.pairwise_append]
      refine ⟨pl, List.pairwise_singleton _ _, fun x hx y hy => ?_⟩
      rw [List.mem_singleton.mp hy]
      exact (pa x hx).2
    · rcases List.mem_append.mp hy with h | h
      · exact M.fl x hx y (pa y h).1
      · rw [List.mem_singleton.mp h]
        exact fa x hx
  · rcases List.mem_append.mp hx with h | h
    · rcases List.mem_append.mp h with h | h
      · exact M.fl x h y (dm y (r2 y hy).2)
      · exact pd x h y (r2 y hy).2
    · rw [List.mem_singleton.mp h]
      exact (r2 y hy).1
  · have m0 := M.mem x
    have ml : x ∈ left ↔ x ∈ popA a left ∨ x ∈ left.dropWhile fun b => lt b a := by
      rw [← List.mem_append, sp]
    simp only [List.mem_append, List.mem_singleton]
    constructor
    · rintro (((h | h) | h) | h)
      · rcases m0.mp (.inl h) with q | q
        · exact .inl (.inl q)
        · exact .inr q
      · rcases m0.mp (.inr (pa x h).1) with q | q
        · exact .inl (.inl q)
        · exact .inr q
      · exact .inl (.inr h)
      · rcases m0.mp (.inr (dm x (r2 x h).2)) with q | q
        · exact .inl (.inl q)
        · exact .inr q
    · intro h
      have go : (x ∈ found ∨ x ∈ left) → ((x ∈ found ∨ x ∈ popA a left) ∨ x = a) ∨ x ∈ popR a left := fun h => by
        rcases h with q | q
        · exact .inl (.inl (.inl q))
        · rcases ml.mp q with q | q
          · exact .inl (.inl (.inr q))
          · rcases r3 x q with q | q
            · exact .inl (.inr q)
            · exact .inr q
      rcases h with (h | h) | h
      · exact go (m0.mpr (.inl h))
      · exact .inl (.inr h)
      · exact go (m0.mpr (.inr h))
  · rcases List.mem_append.mp hx with h | h
    · rcases List.mem_append.mp h with h | h
      · have := fa x h
        unfold Lt at this
        grind
      · have := (pa x h).2
        unfold Lt at this
        grind
    · rw [List.mem_singleton.mp h]
      grind
theorem popR_len (a : Pr) (B : List Pr) : (popR a B).length ≤ B.length := by
  have : (B.dropWhile fun b => lt b a).length ≤ B.length := (List.dropWhile_sublist _).length_le
  unfold popR
  split
  · simp
  · rename_i b r e
    rw [e] at this
    split
    · simp at this
      omega
    · exact this
/-! ### the program's loops -/
theorem cmp_lt {p q : Pr} {k : Nat} (hk : k ≤ 700) (h : Num k p) (g : Num k q) : F_compare [DP p, DP q] = .ok (.int (ord p.1 p.2 q.1 q.2)) := compare_ok (h.1.1.mono (by omega)) (h.1.2.1.mono (by omega)) (g.1.1.mono (by omega)) (g.1.2.1.mono (by omega)) h.1.2.2 g.1.2.2
theorem ord_lt (p q : Pr) : decide (ord p.1 p.2 q.1 q.2 < 0) = lt p q := by
  unfold ord lt
  by_cases h : p.1 * q.2 < q.1 * p.2
  · rw [if_pos h, decide_eq_true h]
    rfl
  · rw [if_neg h, decide_eq_false h]
    split <;> rfl
theorem starts_while {k : Nat} (hk : k ≤ 700) {a : Pr} (ha : Num k a) {u v x y : En} : ∀ (left found : List Pr) (n : Nat), left.length < n → left.length + found.length < 10000 → (∀ b ∈ left, Num k b) →
    gWhile (bAnd (bOwn 2) (bVal (fBin (gCmp fun i j => decide (i < j)) (fCallD F_compare (fCons (fIxO 2 (fC (.int 0))) (fCons (fVar 4) fNil))) (fC (.int 0))))) l__starts_1 n [u, v, .o (left.map DP), .o (found.map DP), .v (DP a), x, y] =
      .nx [u, v, .o ((left.dropWhile fun b => lt b a).map DP), .o ((found ++ popA a left).map DP), .v (DP a), x, y]
  | _, _, 0, h, _, _ => by omega
  | [], found, n + 1, _, _, _ => by
    unfold gWhile popA
    rw [List.takeWhile_nil, List.append_nil]
    rfl
  | b :: left, found, n + 1, h, hl, hb => by
    have kb := hb b List.mem_cons_self
    have c1 := cmp_lt hk kb ha
    have o1 := ord_lt b a
    have i0 : gIx (.list (DP b :: left.map DP)) (.int 0) = .ok (DP b) := gIx_list (j := 0) rfl
    unfold gWhile
    have tc : bAnd (bOwn 2) (bVal (fBin (gCmp fun i j => decide (i < j)) (fCallD F_compare (fCons (fIxO 2 (fC (.int 0))) (fCons (fVar 4) fNil))) (fC (.int 0)))) [u, v, .o ((b :: left).map DP), .o (found.map DP), .v (DP a), x, y] = .ok (lt b a) := by
      rw [← o1]
      simp only [gSeq, gPar, gPar3, gIfS, gAsg, gNext, gRet, gApp, gOwn, xf, fBin, fUn, fC, fVar, fCall, fCallD, fCons, fNil, fIf, fAnd, fOr, fNot, bOr, bNot, bAnd, bTru, truth, bVal, hName, R.bind, gInt1, gAdd, gSubI, gNeg, gCmp, List.getElem?_cons_succ, List.getElem?_cons_zero, List.set_cons_succ, List.set_cons_zero, Bool.not_true, Bool.not_false, Bool.false_eq_true, if_false, if_true, decide_true, decide_false, bOwn, fIxO, List.map_cons, List.isEmpty_cons, i0, c1]
    rw [tc]
    cases hlt : lt b a with
    | false =>
      simp only [xf, Bool.false_eq_true, if_false]
      unfold popA
      rw [List.takeWhile_cons, hlt, List.dropWhile_cons, hlt]
      simp
    | true =>
      simp only [xf, if_true]
      have st : l__starts_1 [u, v, .o ((b :: left).map DP), .o (found.map DP), .v (DP a), x, y] = .nx [u, v, .o (left.map DP), .o ((found ++ [b]).map DP), .v (DP a), x, y] := by
        have hz : (found.map DP).length < 100000 := by rw [List.length_map]; simp at hl; omega
        unfold l__starts_1 gAppX xPopAt
        rw [List.map_append, List.map_cons]
        have ii : inM 0 = true := by decide
        have ij : ixN (DP b :: left.map DP).length 0 = some 0 := Evl.ixN_nat (j := 0) (by simp)
        simp only [isOwn, xE, fCons, fNil, fC, R.bind, List.getElem?_cons_succ, List.getElem?_cons_zero, List.set_cons_succ, List.set_cons_zero, if_true, ii, ij, List.eraseIdx_cons_zero, hz]
        rfl
      rw [st]
      have ih := starts_while hk ha (u := u) (v := v) (x := x) (y := y) left (found ++ [b]) n (by simp at h; omega) (by simp at hl ⊢; omega) fun c hc => hb c (List.mem_cons_of_mem _ hc)
      simp only
      rw [ih]
      unfold popA
      rw [List.takeWhile_cons, hlt, List.dropWhile_cons, hlt]
      simp

theorem popR_run {a : Pr} {u v x y : En} (left found : List Pr) (hl : found.length < 100000) : gSeq (gIfS (bAnd (bOwn 2) (bVal (fBin gEq (fIxO 2 (fC (.int 0))) (fVar 4)))) (gDropX (xPopAt 2 (xE (fCons (fC (.int 0)) fNil)))) gNext) (gApp 3 (fVar 4))
    [u, v, .o ((left.dropWhile fun b => lt b a).map DP), .o (found.map DP), .v (DP a), x, y] = .nx [u, v, .o ((popR a left).map DP), .o ((found ++ [a]).map DP), .v (DP a), x, y] := by
  have hz : (found.map DP).length < 100000 := by rw [List.length_map]; exact hl
  have app : ∀ l : List D, gApp 3 (fVar 4) [u, v, .o l, .o (found.map DP), .v (DP a), x, y] = .nx [u, v, .o l, .o ((found ++ [a]).map DP), .v (DP a), x, y] := fun l => by
    simp only [gSeq, gPar, gPar3, gIfS, gAsg, gNext, gRet, gApp, gOwn, xf, fBin, fUn, fC, fVar, fCall, fCallD, fCons, fNil, fIf, fAnd, fOr, fNot, bOr, bNot, bAnd, bTru, truth, bVal, hName, R.bind, gInt1, gAdd, gSubI, gNeg, gCmp, List.getElem?_cons_succ, List.getElem?_cons_zero, List.set_cons_succ, List.set_cons_zero, Bool.not_true, Bool.not_false, Bool.false_eq_true, if_false, if_true, decide_true, decide_false, hz, List.map_append, List.map_cons, List.map_nil]
  unfold popR
  cases e : left.dropWhile fun b => lt b a with
  | nil =>
    rw [seq_nx (show gIfS _ _ _ _ = .nx [u, v, .o [], .o (found.map DP), .v (DP a), x, y] from rfl), app]
    rfl
  | cons b r =>
    have i0 : gIx (.list (DP b :: r.map DP)) (.int 0) = .ok (DP b) := gIx_list (j := 0) rfl
    have q := gEq_DP b a
    have tc : bAnd (bOwn 2) (bVal (fBin gEq (fIxO 2 (fC (.int 0))) (fVar 4))) [u, v, .o ((b :: r).map DP), .o (found.map DP), .v (DP a), x, y] = .ok (decide (b = a)) := by
      simp only [gSeq, gPar, gPar3, gIfS, gAsg, gNext, gRet, gApp, gOwn, xf, fBin, fUn, fC, fVar, fCall, fCallD, fCons, fNil, fIf, fAnd, fOr, fNot, bOr, bNot, bAnd, bTru, truth, bVal, hName, R.bind, gInt1, gAdd, gSubI, gNeg, gCmp, List.getElem?_cons_succ, List.getElem?_cons_zero, List.set_cons_succ, List.set_cons_zero, Bool.not_true, Bool.not_false, Bool.false_eq_true, if_false, if_true, decide_true, decide_false, bOwn, fIxO, List.map_cons, List.isEmpty_cons, i0, q]
    by_cases h : b = a
    · rw [decide_eq_true h] at tc
      simp only [if_pos h]
      have st : gDropX (xPopAt 2 (xE (fCons (fC (.int 0)) fNil))) [u, v, .o ((b :: r).map DP), .o (found.map DP), .v (DP a), x, y] = .nx [u, v, .o (r.map DP), .o (found.map DP), .v (DP a), x, y] := by
        unfold gDropX xPopAt
        have ii : inM 0 = true := by decide
        have ij : ixN (DP b :: r.map DP).length 0 = some 0 := Evl.ixN_nat (j := 0) (by simp)
        simp only [isOwn, xE, fCons, fNil, fC, R.bind, List.map_cons, List.getElem?_cons_succ, List.getElem?_cons_zero, List.set_cons_succ, List.set_cons_zero, if_true, ii, ij, List.eraseIdx_cons_zero]
      rw [seq_nx ((if_nx tc).trans ((if_pos rfl).trans st)), app]
    · rw [decide_eq_false h] at tc
      simp only [if_neg h]
      rw [seq_nx (show gIfS _ (gDropX (xPopAt 2 (xE (fCons (fC (.int 0)) fNil)))) gNext [u, v, .o ((b :: r).map DP), .o (found.map DP), .v (DP a), x, y] = .nx [u, v, .o ((b :: r).map DP), .o (found.map DP), .v (DP a), x, y] from (if_nx tc).trans (if_neg (by decide))), app]
theorem starts_ok {k : Nat} (hk : k ≤ 700) {L M : List Pc} (okL : ∀ p ∈ L, PcOk k p) (okM : ∀ p ∈ M, PcOk k p) (pL : (L.map (·.s)).Pairwise Lt) (pM : (M.map (·.s)).Pairwise Lt) (zL : L.length ≤ 100) (zM : M.length ≤ 100) :
    ∃ S : List Pr, S.Pairwise Lt ∧ (∀ x, x ∈ S ↔ x ∈ L.map (·.s) ∨ x ∈ M.map (·.s)) ∧ S.length ≤ L.length + M.length ∧ F__starts [.list (L.map DPc), .list (M.map DPc)] = .ok (.list (S.map DP)) := by
  have nm : ∀ x, x ∈ L.map (·.s) ∨ x ∈ M.map (·.s) → Num k x := fun x hx => by
    rcases hx with h | h
    · obtain ⟨p, hp, rfl⟩ := List.mem_map.mp h
      exact (okL p hp).s
    · obtain ⟨p, hp, rfl⟩ := List.mem_map.mp h
      exact (okM p hp).s
  have e0 : fLc (sSeq (fVar 1)) (hName 6) bYes (fBin gIx (fVar 6) (fC (.int 0))) [6] [.v (.list (L.map DPc)), .v (.list (M.map DPc)), .un, .un, .un, .un, .un] = .ok (.list ((M.map (·.s)).map DP)) := by
    rw [List.map_map]
    exact lc_map (f := DPc) (g := fun p => DP p.s) rfl (by omega) fun p hp => by simp only [gSeq, gPar, gPar3, gIfS, gAsg, gNext, gRet, gApp, gOwn, xf, fBin, fUn, fC, fVar, fCall, fCallD, fCons, fNil, fIf, fAnd, fOr, fNot, bOr, bNot, bAnd, bTru, truth, bVal, hName, R.bind, gInt1, gAdd, gSubI, gNeg, gCmp, List.getElem?_cons_succ, List.getElem?_cons_zero, List.set_cons_succ, List.set_cons_zero, Bool.not_true, Bool.not_false, Bool.false_eq_true, if_false, if_true, decide_true, decide_false, DPc_0]
  obtain ⟨s', e1, left, found, x4, x5, hs, M1, _, hl⟩ := loop_inv (tg := hTup 3 (hCons (hName 4) (hCons (hName 5) (hCons (hName 5) hNil)))) (b := l__starts_2)
    (fun i s => ∃ (left found : List Pr) (x4 x5 : En), s = [.v (.list (L.map DPc)), .v (.list (M.map DPc)), .o (left.map DP), .o (found.map DP), x4, x5, .un] ∧ Mg ((L.take i).map (·.s)) (M.map (·.s)) found left ∧ (∀ x ∈ found, ∀ a ∈ (L.drop i).map (·.s), Lt x a) ∧ found.length + left.length ≤ i + M.length)
    (L.map DPc) 0 [.v (.list (L.map DPc)), .v (.list (M.map DPc)), .o ((M.map (·.s)).map DP), .o [], .un, .un, .un]
    ⟨M.map (·.s), [], _, _, rfl, ⟨.nil, pM, fun x hx => (nomatch hx), fun x => by simp⟩, fun x hx => (nomatch hx), by simp⟩ (by
      rintro i d s hd ⟨left, found, x4, x5, rfl, M1, fa, hl⟩
      simp only [Nat.zero_add] at M1 fa hl ⊢
      obtain ⟨p, ha, rfl⟩ := map_getP hd
      have hi : i < L.length := (List.getElem?_eq_some_iff.mp ha).1
      have hp : p ∈ L := List.mem_of_getElem? ha
      have edrop : L.drop i = p :: L.drop (i + 1) := by
        rw [List.drop_eq_getElem_cons hi]
        congr 1
        exact (List.getElem?_eq_some_iff.mp ha).2
      have etake : L.take (i + 1) = L.take i ++ [p] := by
        rw [List.take_add_one, ha]
        rfl
      have nl : ∀ b ∈ left, Num k b := fun b hb => nm b (by
        rcases (M1.mem b).mp (.inr hb) with q | q
        · obtain ⟨p', hp', rfl⟩ := List.mem_map.mp q
          exact .inl (List.mem_map.mpr ⟨p', List.mem_of_mem_take hp', rfl⟩)
        · exact .inr q)
      have fp : ∀ x ∈ found, Lt x p.s := fun x hx => fa x hx p.s (by rw [edrop]; exact List.mem_cons_self)
      obtain ⟨M2, up⟩ := M1.step fp (okL p hp).s.2 fun b hb => (nl b hb).2
      have w := starts_while hk (okL p hp).s (u := .v (.list (L.map DPc))) (v := .v (.list (M.map DPc))) (x := .v (DP p.m)) (y := .un) left found 100000 (by omega) (by omega) nl
      have lp : (popA p.s left).length + (left.dropWhile fun b => lt b p.s).length = left.length := by
        rw [← List.length_append]
        exact congrArg _ (List.takeWhile_append_dropWhile ..)
      have lr : (popR p.s left).length ≤ (left.dropWhile fun b => lt b p.s).length := by
        unfold popR
        split
        · simp
        · rename_i b r e
          rw [e]
          split
          · simp
          · exact Nat.le_refl _
      refine ⟨[.v (.list (L.map DPc)), .v (.list (M.map DPc)), .o (left.map DP), .o (found.map DP), .v (DP p.s), .v (DP p.m), .un], [.v (.list (L.map DPc)), .v (.list (M.map DPc)), .o ((popR p.s left).map DP), .o ((found ++ popA p.s left ++ [p.s]).map DP), .v (DP p.s), .v (DP p.m), .un], rfl, .inl ?_, popR p.s left, found ++ popA p.s left ++ [p.s], _, _, rfl, ?_, fun x hx a ha' => ?_, ?_⟩
      · unfold l__starts_2
        rw [seq_nx w]
        exact popR_run left (found ++ popA p.s left) (by rw [List.length_append]; omega)
      · rw [etake, List.map_append]
        exact M2
      · have h1 := up x hx
        have h2 : (L.map (·.s)).drop i = p.s :: (L.map (·.s)).drop (i + 1) := by
          rw [← List.map_drop, ← List.map_drop, edrop]
          rfl
        have h3 := pL.sublist (List.drop_sublist i _)
        rw [h2] at h3
        have h4 := (List.pairwise_cons.mp h3).1 a (by rw [← List.map_drop]; exact ha')
        unfold Lt at *
        grind
      · simp only [List.length_append, List.length_cons, List.length_nil]
        omega)
  subst hs
  rw [List.length_map, Nat.zero_add] at hl M1
  rw [List.take_of_length_le (Nat.le_refl _)] at M1
  refine ⟨found ++ left, ?_, fun x => ?_, by rw [List.length_append]; omega, ?_⟩
  · exact List.pairwise_append.mpr ⟨M1.f, M1.l, M1.fl⟩
  · rw [List.mem_append]
    exact M1.mem x
  · have hz : (found.map DP).length + (left.map DP).length ≤ 100000 := by rw [List.length_map, List.length_map]; omega
    refine run_rt (s := [.v (.list (L.map DPc)), .v (.list (M.map DPc)), .un, .un, .un, .un, .un]) rfl ?_
    unfold m__starts
    rw [seq_nx (own_nx e0)]
    simp only [List.set_cons_succ, List.set_cons_zero]
    rw [seq_nx (show gOwn 3 (fLst fNil) _ = .nx [.v (.list (L.map DPc)), .v (.list (M.map DPc)), .o ((M.map (·.s)).map DP), .o [], .un, .un, .un] from rfl)]
    rw [seq_nx ((for_nx (show sSeq (fVar 0) _ = .ok (L.map DPc) from rfl)).trans e1)]
    simp only [gSeq, gPar, gPar3, gIfS, gAsg, gNext, gRet, gApp, gOwn, xf, fBin, fUn, fC, fVar, fCall, fCallD, fCons, fNil, fIf, fAnd, fOr, fNot, bOr, bNot, bAnd, bTru, truth, bVal, hName, R.bind, gInt1, gAdd, gSubI, gNeg, gCmp, List.getElem?_cons_succ, List.getElem?_cons_zero, List.set_cons_succ, List.set_cons_zero, Bool.not_true, Bool.not_false, Bool.false_eq_true, if_false, if_true, decide_true, decide_false, gLet, hz, List.map_append]


/-! ### cut, joined -/
theorem ix_end (l : List D) (d : D) : gIx (.list (l ++ [d])) (.int (-1)) = .ok d := by
  show (match atI (l ++ [d]) (-1) with | some d => R.ok d | none => .no) = _
  have : atI (l ++ [d]) (-1) = some d := by
    have e : ixN (l ++ [d]).length (-1) = some l.length := by
      unfold ixN
      rw [if_neg (by decide), if_pos (by simp; omega)]
      congr 1
      simp
      omega
    unfold atI
    rw [e]
    simp
  rw [this]
theorem sel_app (x : Pr) : ∀ (A : List Pc) (f : Pc) (B : List Pc), sel x f (A ++ B) = sel x (sel x f A) B
  | [], _, _ => rfl
  | p :: r, f, B => by
    show sel x _ (r ++ B) = sel x (sel x _ r) B
    exact sel_app x r _ B
theorem sel_stay {x : Pr} : ∀ {B : List Pc} {p : Pc}, (∀ q ∈ B, lt x q.s = true) → sel x p B = p
  | [], _, _ => rfl
  | q :: r, p, h => by
    show sel x (if lt x q.s = true then p else q) r = p
    rw [if_pos (h q List.mem_cons_self)]
    exact sel_stay fun y hy => h y (List.mem_cons_of_mem _ hy)
theorem sel_at {x : Pr} {L : List Pc} {n : Nat} {p f : Pc} (hp : L[n]? = some p) (h1 : lt x p.s = false) (h2 : ∀ q ∈ L.drop (n + 1), lt x q.s = true) : sel x f L = p := by
  have hn := (List.getElem?_eq_some_iff.mp hp).1
  have e : L = L.take n ++ p :: L.drop (n + 1) := by
    have := List.take_append_drop n L
    rw [List.drop_eq_getElem_cons hn, (List.getElem?_eq_some_iff.mp hp).2] at this
    exact this.symm
  rw [e, sel_app]
  show sel x (if lt x p.s = true then _ else p) _ = p
  rw [h1, if_neg (by decide)]
  exact sel_stay h2
def fromP (p : Pc) (s : Pr) : Pc := ⟨s, tell p s, p.m⟩
theorem from_ok {p : Pc} (h : PcOk 700 p) {s : Pr} (g : Pb 700 s) : F__from [DPc p, DP s] = .ok (DPc (fromP p s)) := by
  have e := told_ok h g
  refine run_rt (s := [.v (DPc p), .v (DP s)]) rfl ?_
  unfold m__from
  simp only [gSeq, gPar, gPar3, gIfS, gAsg, gNext, gRet, gApp, gOwn, xf, fBin, fUn, fC, fVar, fCall, fCallD, fCons, fNil, fIf, fAnd, fOr, fNot, bOr, bNot, bAnd, bTru, truth, bVal, hName, R.bind, gInt1, gAdd, gSubI, gNeg, gCmp, List.getElem?_cons_succ, List.getElem?_cons_zero, List.set_cons_succ, List.set_cons_zero, Bool.not_true, Bool.not_false, Bool.false_eq_true, if_false, if_true, decide_true, decide_false, fTup, e, DPc_2, List.length_cons, List.length_nil, Nat.reduceAdd, Nat.reduceLeDiff]
  rfl
theorem cut79 {L : List Pc} {S : List Pr} (okL : ∀ p ∈ L, PcOk 700 p) (hS : ∀ s ∈ S, Num 700 s) (pS : S.Pairwise Lt) (pL : (L.map (·.s)).Pairwise Lt) (ne : L ≠ []) (h0 : ∀ s ∈ S, val (head0 L).s ≤ val s) (al : ∀ p ∈ L.drop 1, p.s ∈ S) (zL : L.length ≤ 100) (zS : S.length ≤ 1000) :
    F__cut [.list (L.map DPc), .list (S.map DP)] = .ok (.list ((S.map fun s => fromP (pieceAt L s) s).map DPc)) := by
  have lenL : 0 < L.length := List.length_pos_iff.mpr ne
  obtain ⟨s', e1, n, x4, hs, hn, _⟩ := loop_inv (tg := hName 4) (b := l__cut_1)
    (fun i s => ∃ (n : Nat) (x4 : En), s = [.v (.list (L.map DPc)), .v (.list (S.map DP)), .o (((S.take i).map fun s => fromP (pieceAt L s) s).map DPc), .v (.int (n : Int)), x4] ∧ n < L.length ∧ (∀ p, L[n]? = some p → ∀ x ∈ S.drop i, val p.s ≤ val x) ∧ ∀ q ∈ L.drop (n + 1), q.s ∈ S.drop i)
    (S.map DP) 0 [.v (.list (L.map DPc)), .v (.list (S.map DP)), .o [], .v (.int 0), .un]
    ⟨0, _, rfl, lenL, fun p hp x hx => by
      have e : head0 L = p := by
        cases L with
        | nil => cases hp
        | cons q r => cases hp; rfl
      rw [← e]
      exact h0 x hx, al⟩ (by
      rintro i d s hd ⟨n, x4, rfl, hn, hlo, hhi⟩
      simp only [Nat.zero_add] at hlo hhi ⊢
      obtain ⟨a, ha, rfl⟩ := map_getP hd
      have hi : i < S.length := (List.getElem?_eq_some_iff.mp ha).1
      have na := hS a (List.mem_of_getElem? ha)
      have edrop : S.drop i = a :: S.drop (i + 1) := by
        rw [List.drop_eq_getElem_cons hi]
        congr 1
        exact (List.getElem?_eq_some_iff.mp ha).2
      have etake : S.take (i + 1) = S.take i ++ [a] := by
        rw [List.take_add_one, ha]
        rfl
      have later : ∀ x ∈ S.drop (i + 1), Lt a x := by
        have := pS.sublist (List.drop_sublist i _)
        rw [edrop] at this
        exact (List.pairwise_cons.mp this).1
      have up : ∀ (j : Nat) (p : Pc), L[j]? = some p → ∀ q ∈ L.drop (j + 1), Lt p.s q.s := fun j p hp q hq => by
        have := pL.sublist (List.drop_sublist j _)
        rw [← List.map_drop, List.drop_eq_getElem_cons (List.getElem?_eq_some_iff.mp hp).1, (List.getElem?_eq_some_iff.mp hp).2, List.map_cons] at this
        exact (List.pairwise_cons.mp this).1 _ (List.mem_map.mpr ⟨q, hq, rfl⟩)
      -- the piece that is taken
      have key : ∃ (n' : Nat) (p : Pc), L[n']? = some p ∧ val p.s ≤ val a ∧ (∀ q ∈ L.drop (n' + 1), q.s ∈ S.drop (i + 1)) ∧
          gIfS (bAnd (bVal (fBin (gCmp fun i j => decide (i < j)) (fBin gAdd (fVar 3) (fC (.int 1))) (fCall gLen (fCons (fVar 0) fNil)))) (bVal (fBin gEq (fBin gIx (fBin gIx (fVar 0) (fBin gAdd (fVar 3) (fC (.int 1)))) (fC (.int 0))) (fVar 4)))) (gAsg (fBin gAugA (fVar 3) (fC (.int 1))) (hName 3)) gNext
            [.v (.list (L.map DPc)), .v (.list (S.map DP)), .o (((S.take i).map fun s => fromP (pieceAt L s) s).map DPc), .v (.int (n : Int)), .v (DP a)] = .nx [.v (.list (L.map DPc)), .v (.list (S.map DP)), .o (((S.take i).map fun s => fromP (pieceAt L s) s).map DPc), .v (.int (n' : Int)), .v (DP a)] := by
        obtain ⟨p, hp⟩ : ∃ p, L[n]? = some p := ⟨_, List.getElem?_eq_getElem hn⟩
        have pa : val p.s ≤ val a := hlo p hp a (by rw [edrop]; exact List.mem_cons_self)
        have ll : gLen [.list (L.map DPc)] = .ok (.int (L.length : Int)) := by show R.ok _ = _; rw [List.length_map]
        by_cases h1 : n + 1 < L.length
        · have d1 : decide ((n : Int) + 1 < (L.length : Int)) = true := decide_eq_true (by omega)
          obtain ⟨q, hq⟩ : ∃ q, L[n + 1]? = some q := ⟨_, List.getElem?_eq_getElem h1⟩
          have ix : gIx (.list (L.map DPc)) (.int ((n : Int) + 1)) = .ok (DPc q) := gIx_list (j := n + 1) (by rw [List.getElem?_map, hq]; rfl)
          have eq' := gEq_DP q.s a
          have eL : L.drop (n + 1) = q :: L.drop (n + 1 + 1) := by
            rw [List.drop_eq_getElem_cons h1]
            congr 1
            exact (List.getElem?_eq_some_iff.mp hq).2
          have qS : q.s ∈ S.drop i := hhi q (by rw [eL]; exact List.mem_cons_self)
          by_cases e : q.s = a
          · refine ⟨n + 1, q, hq, by rw [e]; grind, fun w hw => ?_, ?_⟩
            · have h := hhi w (by rw [eL]; exact List.mem_cons_of_mem _ hw)
              rw [edrop] at h
              rcases List.mem_cons.mp h with z | z
              · have := up (n + 1) q hq w hw
                unfold Lt at this
                rw [e, z] at this
                grind
              · exact z
            · rw [decide_eq_true e] at eq'
              simp only [gSeq, gPar, gPar3, gIfS, gAsg, gNext, gRet, gApp, gOwn, xf, fBin, fUn, fC, fVar, fCall, fCallD, fCons, fNil, fIf, fAnd, fOr, fNot, bOr, bNot, bAnd, bTru, truth, bVal, hName, R.bind, gInt1, gAdd, gSubI, gNeg, gCmp, List.getElem?_cons_succ, List.getElem?_cons_zero, List.set_cons_succ, List.set_cons_zero, Bool.not_true, Bool.not_false, Bool.false_eq_true, if_false, if_true, decide_true, decide_false, bAnd, ll, d1, ix, DPc_0, eq']
              rfl
          · refine ⟨n, p, hp, pa, fun w hw => ?_, ?_⟩
            · have h := hhi w hw
              rw [edrop] at h
              rcases List.mem_cons.mp h with z | z
              · rw [edrop] at qS
                rcases List.mem_cons.mp qS with y | y
                · exact absurd y e
                · have l1 := later _ y
                  rw [eL] at hw
                  rcases List.mem_cons.mp hw with v | v
                  · rw [v] at z
                    exact absurd z e
                  · have := up (n + 1) q hq w v
                    rw [z] at this
                    unfold Lt at *
                    grind
              · exact z
            · rw [decide_eq_false e] at eq'
              simp only [gSeq, gPar, gPar3, gIfS, gAsg, gNext, gRet, gApp, gOwn, xf, fBin, fUn, fC, fVar, fCall, fCallD, fCons, fNil, fIf, fAnd, fOr, fNot, bOr, bNot, bAnd, bTru, truth, bVal, hName, R.bind, gInt1, gAdd, gSubI, gNeg, gCmp, List.getElem?_cons_succ, List.getElem?_cons_zero, List.set_cons_succ, List.set_cons_zero, Bool.not_true, Bool.not_false, Bool.false_eq_true, if_false, if_true, decide_true, decide_false, bAnd, ll, d1, ix, DPc_0, eq']
        · have d1 : decide ((n : Int) + 1 < (L.length : Int)) = false := decide_eq_false (by omega)
          refine ⟨n, p, hp, pa, fun w hw => ?_, ?_⟩
          · rw [List.drop_eq_nil_of_le (by omega)] at hw
            cases hw
          · simp only [gSeq, gPar, gPar3, gIfS, gAsg, gNext, gRet, gApp, gOwn, xf, fBin, fUn, fC, fVar, fCall, fCallD, fCons, fNil, fIf, fAnd, fOr, fNot, bOr, bNot, bAnd, bTru, truth, bVal, hName, R.bind, gInt1, gAdd, gSubI, gNeg, gCmp, List.getElem?_cons_succ, List.getElem?_cons_zero, List.set_cons_succ, List.set_cons_zero, Bool.not_true, Bool.not_false, Bool.false_eq_true, if_false, if_true, decide_true, decide_false, bAnd, ll, d1]
      obtain ⟨n', p, hp, pa, hq, st⟩ := key
      have hn' := (List.getElem?_eq_some_iff.mp hp).1
      have kp := okL p (List.mem_of_getElem? hp)
      have ep : pieceAt L a = p := sel_at hp (by rw [lt_val na.2 kp.s.2]; exact decide_eq_false (by grind)) fun q hq' => by
        have h := later _ (hq q hq')
        rw [lt_val na.2 (okL q (List.mem_of_mem_drop hq')).s.2]
        exact decide_eq_true h
      have fo := from_ok kp na.1
      have ix : gIx (.list (L.map DPc)) (.int (n' : Int)) = .ok (DPc p) := gIx_list (j := n') (by rw [List.getElem?_map, hp]; rfl)
      have hz : (((S.take i).map fun s => fromP (pieceAt L s) s).map DPc).length < 100000 := by
        rw [List.length_map, List.length_map, List.length_take]
        omega
      refine ⟨[.v (.list (L.map DPc)), .v (.list (S.map DP)), .o (((S.take i).map fun s => fromP (pieceAt L s) s).map DPc), .v (.int (n : Int)), .v (DP a)], [.v (.list (L.map DPc)), .v (.list (S.map DP)), .o (((S.take (i + 1)).map fun s => fromP (pieceAt L s) s).map DPc), .v (.int (n' : Int)), .v (DP a)], rfl, .inl ?_, n', _, rfl, hn', fun p' hp' x hx => ?_, hq⟩
      · unfold l__cut_1
        rw [seq_nx st, etake, List.map_append, List.map_append, List.map_cons, List.map_nil, List.map_cons, List.map_nil, ep]
        simp only [gSeq, gPar, gPar3, gIfS, gAsg, gNext, gRet, gApp, gOwn, xf, fBin, fUn, fC, fVar, fCall, fCallD, fCons, fNil, fIf, fAnd, fOr, fNot, bOr, bNot, bAnd, bTru, truth, bVal, hName, R.bind, gInt1, gAdd, gSubI, gNeg, gCmp, List.getElem?_cons_succ, List.getElem?_cons_zero, List.set_cons_succ, List.set_cons_zero, Bool.not_true, Bool.not_false, Bool.false_eq_true, if_false, if_true, decide_true, decide_false, ix, fo, hz]
      · rw [hp] at hp'
        cases hp'
        have := later x hx
        unfold Lt at this
        grind)
  subst hs
  rw [List.length_map, Nat.zero_add, List.take_of_length_le (Nat.le_refl _)] at e1
  refine run_rt (s := [.v (.list (L.map DPc)), .v (.list (S.map DP)), .un, .un, .un]) rfl ?_
  unfold m__cut
  rw [seq_nx (show gOwn 2 (fLst fNil) _ = .nx [.v (.list (L.map DPc)), .v (.list (S.map DP)), .o [], .un, .un] from rfl)]
  rw [seq_nx (show gAsg (fC (.int 0)) (hName 3) _ = .nx [.v (.list (L.map DPc)), .v (.list (S.map DP)), .o [], .v (.int 0), .un] from rfl)]
  rw [seq_nx ((for_nx (show sSeq (fVar 1) _ = .ok (S.map DP) from rfl)).trans e1)]
  rfl


/-! ### the program's joining, sums and multiples -/
theorem joined_loop {c0 : Pc} {Q : List Pc} (hz : Q.length ≤ 10000) {b : Ev → Fl} (hb : b = gIfS (bVal (fBin gNe (fBin gIx (fVar 2) (fC (.int 2))) (fBin gIx (fIxO 1 (fUn gNeg (fC (.int 1)))) (fC (.int 2))))) (gApp 1 (fVar 2)) gNext) (V : En) :
    ∃ x2, gLoop (hName 2) b (Q.map DPc) [V, .o [DPc c0], .un] = .nx [V, .o ((c0 :: joinT c0 Q).map DPc), x2] := by
  obtain ⟨s', e1, acc, g, x2, hs, ht, _⟩ := loop_inv (tg := hName 2) (b := b)
    (fun i s => ∃ (acc : List Pc) (g : Pc) (x2 : En), s = [V, .o (acc.map DPc ++ [DPc g]), x2] ∧ acc ++ g :: joinT g (Q.drop i) = c0 :: joinT c0 Q ∧ acc.length ≤ i) (Q.map DPc) 0 [V, .o [DPc c0], .un] ⟨[], c0, _, rfl, rfl, Nat.zero_le _⟩ (by
      rintro i d s hd ⟨acc, g, x2, rfl, ht, hl⟩
      simp only [Nat.zero_add] at ht hl ⊢
      obtain ⟨p, ha, rfl⟩ := map_getP hd
      have hi : i < Q.length := (List.getElem?_eq_some_iff.mp ha).1
      have edrop : Q.drop i = p :: Q.drop (i + 1) := by
        rw [List.drop_eq_getElem_cons hi]
        congr 1
        exact (List.getElem?_eq_some_iff.mp ha).2
      have il := ix_end (acc.map DPc) (DPc g)
      have q := gNe_DP p.m g.m
      have ng : gNeg (.int 1) = .ok (.int (-1)) := rfl
      have hz' : (acc.map DPc ++ [DPc g]).length < 100000 := by simp; omega
      rw [edrop, show joinT g (p :: Q.drop (i + 1)) = if p.m = g.m then joinT g (Q.drop (i + 1)) else p :: joinT p (Q.drop (i + 1)) from rfl] at ht
      subst hb
      by_cases e : p.m = g.m
      · rw [if_pos e] at ht
        rw [decide_eq_true e] at q
        refine ⟨[V, .o (acc.map DPc ++ [DPc g]), .v (DPc p)], [V, .o (acc.map DPc ++ [DPc g]), .v (DPc p)], rfl, .inl ?_, acc, g, _, rfl, ht, by omega⟩
        simp only [gIfS, bVal, fBin, fUn, fC, fVar, fIxO, xf, gNext, R.bind, List.getElem?_cons_succ, List.getElem?_cons_zero, ng, il, DPc_2, q, Bool.not_true, Bool.false_eq_true, if_false]
      · rw [if_neg e] at ht
        rw [decide_eq_false e] at q
        refine ⟨[V, .o (acc.map DPc ++ [DPc g]), .v (DPc p)], [V, .o ((acc ++ [g]).map DPc ++ [DPc p]), .v (DPc p)], rfl, .inl ?_, acc ++ [g], p, _, rfl, by rw [List.append_assoc]; exact ht, by simp; omega⟩
        rw [List.map_append]
        simp only [gIfS, bVal, fBin, fUn, fC, fVar, fIxO, xf, gNext, gApp, R.bind, List.getElem?_cons_succ, List.getElem?_cons_zero, List.set_cons_succ, List.set_cons_zero, ng, il, DPc_2, q, Bool.not_false, if_true, hz']
        rfl)
  subst hs
  refine ⟨x2, e1.trans ?_⟩
  rw [Nat.zero_add, List.length_map, List.drop_eq_nil_of_le (Nat.le_refl _)] at ht
  rw [← ht]
  simp [joinT]
theorem cut_tl79 (d : D) (r : List D) : gCut (.list (d :: r)) (some 1) none = .ok (.list r) := by
  show R.ok (PyData.list (Sf.cutD (d :: r) (some ((1 : Nat) : Int)) none)) = _
  unfold Sf.cutD
  rw [HT.sIx_none, HT.sIx_nat, Nat.min_eq_left (by simp), List.take_of_length_le (by simp)]
  rfl
theorem cut_hd79 (d : D) (r : List D) : gCutL (.list (d :: r)) none (some 1) = .ok (.list [d]) := by
  show R.ok (PyData.list (Sf.cutD (d :: r) none (some ((1 : Nat) : Int)))) = _
  unfold Sf.cutD
  rw [HT.sIx_none, HT.sIx_nat, Nat.min_eq_left (by simp)]
  rfl
theorem joined_ok {c0 : Pc} {Q : List Pc} (hz : Q.length ≤ 10000) : F__joined [.list ((c0 :: Q).map DPc)] = .ok (.list ((c0 :: joinT c0 Q).map DPc)) := by
  obtain ⟨x2, e⟩ := joined_loop (c0 := c0) hz (b := l__joined_1) rfl (.v (.list ((c0 :: Q).map DPc)))
  have c1 := cut_hd79 (DPc c0) (Q.map DPc)
  have c2 := cut_tl79 (DPc c0) (Q.map DPc)
  refine run_rt (s := [.v (.list ((c0 :: Q).map DPc)), .un, .un]) rfl ?_
  unfold m__joined
  rw [seq_nx (show gOwn 1 _ _ = .nx [.v (.list ((c0 :: Q).map DPc)), .o [DPc c0], .un] by
    simp only [gSeq, gPar, gPar3, gIfS, gAsg, gNext, gRet, gApp, gOwn, xf, fBin, fUn, fC, fVar, fCall, fCallD, fCons, fNil, fIf, fAnd, fOr, fNot, bOr, bNot, bAnd, bTru, truth, bVal, hName, R.bind, gInt1, gAdd, gSubI, gNeg, gCmp, List.getElem?_cons_succ, List.getElem?_cons_zero, List.set_cons_succ, List.set_cons_zero, Bool.not_true, Bool.not_false, Bool.false_eq_true, if_false, if_true, decide_true, decide_false, fSlL, oSome, oNone, List.map_cons, c1])]
  rw [seq_nx ((for_nx (show sSeq _ _ = .ok (Q.map DPc) by simp only [sSeq, gSeq, gPar, gPar3, gIfS, gAsg, gNext, gRet, gApp, gOwn, xf, fBin, fUn, fC, fVar, fCall, fCallD, fCons, fNil, fIf, fAnd, fOr, fNot, bOr, bNot, bAnd, bTru, truth, bVal, hName, R.bind, gInt1, gAdd, gSubI, gNeg, gCmp, List.getElem?_cons_succ, List.getElem?_cons_zero, List.set_cons_succ, List.set_cons_zero, Bool.not_true, Bool.not_false, Bool.false_eq_true, if_false, if_true, decide_true, decide_false, fSl, oSome, oNone, List.map_cons, c2, items])).trans e)]
  rfl
theorem joinedL_ok {c0 : Pc} {Q : List Pc} (hz : Q.length ≤ 10000) : FL__joined [.list ((c0 :: Q).map DPc)] = .ok ((c0 :: joinT c0 Q).map DPc) := by
  obtain ⟨x2, e⟩ := joined_loop (c0 := c0) hz (b := l_L__joined_1) rfl (.v (.list ((c0 :: Q).map DPc)))
  have c1 := cut_hd79 (DPc c0) (Q.map DPc)
  have c2 := cut_tl79 (DPc c0) (Q.map DPc)
  have : mL__joined [.v (.list ((c0 :: Q).map DPc)), .un, .un] = .rl ((c0 :: joinT c0 Q).map DPc) := by
    unfold mL__joined
    rw [seq_nx (show gOwn 1 _ _ = .nx [.v (.list ((c0 :: Q).map DPc)), .o [DPc c0], .un] by
      simp only [gSeq, gPar, gPar3, gIfS, gAsg, gNext, gRet, gApp, gOwn, xf, fBin, fUn, fC, fVar, fCall, fCallD, fCons, fNil, fIf, fAnd, fOr, fNot, bOr, bNot, bAnd, bTru, truth, bVal, hName, R.bind, gInt1, gAdd, gSubI, gNeg, gCmp, List.getElem?_cons_succ, List.getElem?_cons_zero, List.set_cons_succ, List.set_cons_zero, Bool.not_true, Bool.not_false, Bool.false_eq_true, if_false, if_true, decide_true, decide_false, fSlL, oSome, oNone, List.map_cons, c1])]
    rw [seq_nx ((for_nx (show sSeq _ _ = .ok (Q.map DPc) by simp only [sSeq, gSeq, gPar, gPar3, gIfS, gAsg, gNext, gRet, gApp, gOwn, xf, fBin, fUn, fC, fVar, fCall, fCallD, fCons, fNil, fIf, fAnd, fOr, fNot, bOr, bNot, bAnd, bTru, truth, bVal, hName, R.bind, gInt1, gAdd, gSubI, gNeg, gCmp, List.getElem?_cons_succ, List.getElem?_cons_zero, List.set_cons_succ, List.set_cons_zero, Bool.not_true, Bool.not_false, Bool.false_eq_true, if_false, if_true, decide_true, decide_false, fSl, oSome, oNone, List.map_cons, c2, items])).trans e)]
    rfl
  show (match mL__joined [.v (.list ((c0 :: Q).map DPc)), .un, .un] with | .rl es => R.ok es | .ex e _ => .ex e | _ => .no) = _
  rw [this]
/-- everything that a sum of two lines wants -/
structure Two (k : Nat) (L M : List Pc) (s0 : Pr) (S0 : List Pr) : Prop where
  hL : Line k L
  hM : Line k M
  u : Up s0 S0
  hn : ∀ t ∈ s0 :: S0, Num k t
  z0 : s0 = (0, 1)
  aL : ∀ p ∈ L.tail, p.s = s0 ∨ p.s ∈ S0
  aM : ∀ p ∈ M.tail, p.s = s0 ∨ p.s ∈ S0
  sz : S0.length ≤ L.length + M.length
  st : F__starts [.list (L.map DPc), .list (M.map DPc)] = .ok (.list ((s0 :: S0).map DP))
theorem up_of : ∀ {S : List Pr} {s : Pr}, (s :: S).Pairwise Lt → Up s S
  | [], _, _ => trivial
  | t :: r, s, h => by
    obtain ⟨h1, h2⟩ := List.pairwise_cons.mp h
    exact ⟨h1 t List.mem_cons_self, up_of h2⟩
theorem of_up : ∀ {S : List Pr} {s : Pr}, Up s S → (s :: S).Pairwise Lt
  | [], _, _ => List.pairwise_singleton _ _
  | t :: r, s, h => List.pairwise_cons.mpr ⟨fun x hx => Up.all h x hx, of_up h.2⟩
theorem Ck.pw : ∀ {R : List Pc} {f : Pc}, Ck f R → ((f :: R).map (·.s)).Pairwise Lt
  | [], _, _ => List.pairwise_singleton _ _
  | p :: r, f, h => List.pairwise_cons.mpr ⟨fun x hx => by
      obtain ⟨q, hq, rfl⟩ := List.mem_map.mp hx
      exact Ck.up h q hq, Ck.pw h.2.2⟩
theorem Line.pw {k : Nat} {L : List Pc} (h : Line k L) : (L.map (·.s)).Pairwise Lt := by
  have e := h.eq
  have := Ck.pw h.lk.ck
  rw [← e] at this
  exact this
theorem Line.pos {k : Nat} {L : List Pc} (h : Line k L) : ∀ p ∈ L, 0 ≤ val p.s := fun p hp => by
  have e := h.eq
  rw [e] at hp
  rcases List.mem_cons.mp hp with q | q
  · rw [q, h.s0, val_zero]
    grind
  · have := Ck.up h.lk.ck p q
    rw [h.s0, val_zero] at this
    grind
theorem Line.has0 {k : Nat} {L : List Pc} (h : Line k L) : (0, 1) ∈ L.map (·.s) := by
  have e := h.eq
  exact List.mem_map.mpr ⟨head0 L, head_mem h.ne, h.s0⟩
theorem two_ok {k : Nat} (hk : k ≤ 700) {L M : List Pc} (hL : Line k L) (hM : Line k M) (zL : L.length ≤ 100) (zM : M.length ≤ 100) : ∃ (s0 : Pr) (S0 : List Pr), Two k L M s0 S0 ∧ ∀ x, x ∈ s0 :: S0 ↔ x ∈ L.map (·.s) ∨ x ∈ M.map (·.s) := by
  obtain ⟨S, h1, h2, h3, h4⟩ := starts_ok hk hL.ok hM.ok hL.pw hM.pw zL zM
  have m0 : ((0, 1) : Pr) ∈ S := (h2 _).mpr (.inl hL.has0)
  have pos : ∀ x ∈ S, 0 ≤ val x ∧ Num k x := fun x hx => by
    rcases (h2 x).mp hx with q | q
    · obtain ⟨p, hp, rfl⟩ := List.mem_map.mp q
      exact ⟨hL.pos p hp, (hL.ok p hp).s⟩
    · obtain ⟨p, hp, rfl⟩ := List.mem_map.mp q
      exact ⟨hM.pos p hp, (hM.ok p hp).s⟩
  cases hS : S with
  | nil =>
    rw [hS] at m0
    cases m0
  | cons s0 S0 =>
    rw [hS] at h1 h2 h3 h4 m0 pos
    have u := up_of h1
    have z0 : s0 = (0, 1) := by
      rcases List.mem_cons.mp m0 with q | q
      · exact q.symm
      · have h5 := Up.all u _ q
        have h6 := (pos s0 List.mem_cons_self).1
        rw [val_zero] at h5
        grind
    have al : ∀ {N : List Pc}, Line k N → (∀ x, x ∈ N.map (·.s) → x ∈ s0 :: S0) → ∀ p ∈ N.tail, p.s = s0 ∨ p.s ∈ S0 := fun hN h p hp => List.mem_cons.mp (h _ (List.mem_map.mpr ⟨p, List.mem_of_mem_tail hp, rfl⟩))
    exact ⟨s0, S0, ⟨hL, hM, u, fun t ht => (pos t ht).2, z0, al hL fun x hx => (h2 x).mpr (.inl hx), al hM fun x hx => (h2 x).mpr (.inr hx), by simp at h3; omega, h4⟩, h2⟩


theorem cloop_map79 {α : Type} {tg : D → Ev → R Ev} {f : Ev → R D} {s : Ev} {h g : α → D} : ∀ {L : List α}, (∀ x ∈ L, ∃ s1, tg (h x) s = .ok s1 ∧ f s1 = .ok (g x)) → cLoop tg bYes f s (L.map h) = .ok (L.map g)
  | [], _ => rfl
  | d :: r, k => by
    obtain ⟨s1, h1, h2⟩ := k d List.mem_cons_self
    rw [List.map_cons, List.map_cons]
    unfold cLoop
    rw [h1]
    simp only [bYes, h2, cloop_map79 (L := r) fun d hd => k d (List.mem_cons_of_mem _ hd)]
    rfl
theorem retL1 {F : List D → R (List D)} {f : Ev → R D} {s : Ev} {d : D} {es : List D} (h : f s = .ok d) (j : F [d] = .ok es) : gRetL (fCallL F (fCons f fNil)) s = .rl es := by
  simp only [gRetL, fCallL, fCons, fNil, h, R.bind, j, xf]
theorem zip_maps {α : Type} (f g : α → D) : ∀ L : List α, ((L.map f).zip (L.map g)).map (fun p => (PyData.tuple [p.1, p.2])) = L.map fun x => .tuple [f x, g x]
  | [] => rfl
  | x :: r => by
    rw [List.map_cons, List.map_cons, List.zip_cons_cons, List.map_cons, zip_maps f g r]
    rfl
section
variable {k : Nat} {L M : List Pc} {s0 : Pr} {S0 : List Pr}
theorem side_ok (T : Two k L M s0 S0) (hk : k ≤ 700) (zL : L.length ≤ 100) (zM : M.length ≤ 100) : F__side_by_side [.list (L.map DPc), .list (M.map DPc)] = .ok (.list ((s0 :: S0).map fun s => .tuple [DPc (fromP (pieceAt L s) s), DPc (fromP (pieceAt M s) s)])) := by
  have pw := of_up T.u
  have pos : ∀ s ∈ s0 :: S0, 0 ≤ val s := fun s hs => by
    rcases List.mem_cons.mp hs with q | q
    · rw [q, T.z0, val_zero]
      grind
    · have := Up.all T.u s q
      rw [T.z0, val_zero] at this
      grind
  have n7 : ∀ s ∈ s0 :: S0, Num 700 s := fun s hs => ⟨(T.hn s hs).1.mono hk, (T.hn s hs).2⟩
  have go : ∀ {N : List Pc}, Line k N → (∀ p ∈ N.tail, p.s = s0 ∨ p.s ∈ S0) → N.length ≤ 100 → F__cut [.list (N.map DPc), .list ((s0 :: S0).map DP)] = .ok (.list (((s0 :: S0).map fun s => fromP (pieceAt N s) s).map DPc)) := fun hN aN zN =>
    cut79 (fun p hp => (hN.ok p hp).mono hk) n7 pw hN.pw hN.ne (fun s hs => by
      rw [hN.s0, val_zero]
      exact pos s hs) (fun p hp => List.mem_cons.mpr (aN p (by rw [← List.drop_one]; exact hp))) zN (by have := T.sz; simp; omega)
  have c1 := go T.hL T.aL zL
  have c2 := go T.hM T.aM zM
  have st := T.st
  refine run_rt (s := [.v (.list (L.map DPc)), .v (.list (M.map DPc)), .un]) rfl ?_
  unfold m__side_by_side
  generalize s0 :: S0 = S at *
  refine seq_step (s1 := [.v (.list (L.map DPc)), .v (.list (M.map DPc)), .v (.list (S.map DP))]) (by simp only [gSeq, gPar, gPar3, gIfS, gAsg, gNext, gRet, gApp, gOwn, xf, fBin, fUn, fC, fVar, fCall, fCallD, fCons, fNil, fIf, fAnd, fOr, fNot, bOr, bNot, bAnd, bTru, truth, bVal, hName, R.bind, gInt1, gAdd, gSubI, gNeg, gCmp, List.getElem?_cons_succ, List.getElem?_cons_zero, List.set_cons_succ, List.set_cons_zero, Bool.not_true, Bool.not_false, Bool.false_eq_true, if_false, if_true, decide_true, decide_false, st]) ?_
  refine ret_rt ?_
  rw [List.map_map] at c1 c2
  simp only [gSeq, gPar, gPar3, gIfS, gAsg, gNext, gRet, gApp, gOwn, xf, fBin, fUn, fC, fVar, fCall, fCallD, fCons, fNil, fIf, fAnd, fOr, fNot, bOr, bNot, bAnd, bTru, truth, bVal, hName, R.bind, gInt1, gAdd, gSubI, gNeg, gCmp, List.getElem?_cons_succ, List.getElem?_cons_zero, List.set_cons_succ, List.set_cons_zero, Bool.not_true, Bool.not_false, Bool.false_eq_true, if_false, if_true, decide_true, decide_false, fListZip, c1, c2, gZip]
  rw [zip_maps]
  rfl
theorem sumPiece_ok (T : Two k L M s0 S0) (hk : k ≤ 700) {s : Pr} (hs : s ∈ s0 :: S0) (a b : En) : fTup (fCons (fBin gIx (fVar 2) (fC (.int 0))) (fCons (fCallD F_plus (fCons (fBin gIx (fVar 2) (fC (.int 1))) (fCons (fBin gIx (fVar 3) (fC (.int 1))) fNil))) (fCons (fCallD F_plus (fCons (fBin gIx (fVar 2) (fC (.int 2))) (fCons (fBin gIx (fVar 3) (fC (.int 2))) fNil))) fNil)))
    [a, b, .v (DPc (fromP (pieceAt L s) s)), .v (DPc (fromP (pieceAt M s) s))] = .ok (DPc (sumAt L M s)) := by
  have p := T.hL.piece_ok s
  have q := T.hM.piece_ok s
  have ns := T.hn s hs
  have t1 := tell_num p ns.1
  have t2 := tell_num q ns.1
  have e1 : F_plus [DP (fromP (pieceAt L s) s).v, DP (fromP (pieceAt M s) s).v] = .ok (DP (padd (tell (pieceAt L s) s) (tell (pieceAt M s) s))) := pplus_ok (t1.1.mono (by omega)) (t2.1.mono (by omega))
  have e2 : F_plus [DP (fromP (pieceAt L s) s).m, DP (fromP (pieceAt M s) s).m] = .ok (DP (padd (pieceAt L s).m (pieceAt M s).m)) := pplus_ok (p.m.1.mono (by omega)) (q.m.1.mono (by omega))
  simp only [gSeq, gPar, gPar3, gIfS, gAsg, gNext, gRet, gApp, gOwn, xf, fBin, fUn, fC, fVar, fCall, fCallD, fCons, fNil, fIf, fAnd, fOr, fNot, bOr, bNot, bAnd, bTru, truth, bVal, hName, R.bind, gInt1, gAdd, gSubI, gNeg, gCmp, List.getElem?_cons_succ, List.getElem?_cons_zero, List.set_cons_succ, List.set_cons_zero, Bool.not_true, Bool.not_false, Bool.false_eq_true, if_false, if_true, decide_true, decide_false, fTup, DPc_0, DPc_1, DPc_2, e1, e2, List.length_cons, List.length_nil, Nat.reduceAdd, Nat.reduceLeDiff]
  rfl
theorem sumsLc_ok (T : Two k L M s0 S0) (hk : k ≤ 700) (zL : L.length ≤ 100) (zM : M.length ≤ 100) : fLc (sSeq (fCallD F__side_by_side (fCons (fVar 0) (fCons (fVar 1) fNil)))) (hTup 2 (hCons (hName 2) (hCons (hName 3) hNil))) bYes (fTup (fCons (fBin gIx (fVar 2) (fC (.int 0))) (fCons (fCallD F_plus (fCons (fBin gIx (fVar 2) (fC (.int 1))) (fCons (fBin gIx (fVar 3) (fC (.int 1))) fNil))) (fCons (fCallD F_plus (fCons (fBin gIx (fVar 2) (fC (.int 2))) (fCons (fBin gIx (fVar 3) (fC (.int 2))) fNil))) fNil)))) [2, 3]
    [.v (.list (L.map DPc)), .v (.list (M.map DPc)), .un, .un] = .ok (.list ((sumAt L M s0 :: S0.map (sumAt L M)).map DPc)) := by
  have sd := side_ok T hk zL zM
  have sz := T.sz
  refine lc_ok (ds := (s0 :: S0).map fun s => .tuple [DPc (fromP (pieceAt L s) s), DPc (fromP (pieceAt M s) s)]) (by simp only [sSeq, gSeq, gPar, gPar3, gIfS, gAsg, gNext, gRet, gApp, gOwn, xf, fBin, fUn, fC, fVar, fCall, fCallD, fCons, fNil, fIf, fAnd, fOr, fNot, bOr, bNot, bAnd, bTru, truth, bVal, hName, R.bind, gInt1, gAdd, gSubI, gNeg, gCmp, List.getElem?_cons_succ, List.getElem?_cons_zero, List.set_cons_succ, List.set_cons_zero, Bool.not_true, Bool.not_false, Bool.false_eq_true, if_false, if_true, decide_true, decide_false, sd, items]) (by rw [List.length_map]; simp; omega) ?_
  have := cloop_map79 (tg := hTup 2 (hCons (hName 2) (hCons (hName 3) hNil))) (f := fTup (fCons (fBin gIx (fVar 2) (fC (.int 0))) (fCons (fCallD F_plus (fCons (fBin gIx (fVar 2) (fC (.int 1))) (fCons (fBin gIx (fVar 3) (fC (.int 1))) fNil))) (fCons (fCallD F_plus (fCons (fBin gIx (fVar 2) (fC (.int 2))) (fCons (fBin gIx (fVar 3) (fC (.int 2))) fNil))) fNil)))) (s := wipeE [.v (.list (L.map DPc)), .v (.list (M.map DPc)), .un, .un] [2, 3])
    (h := fun s => .tuple [DPc (fromP (pieceAt L s) s), DPc (fromP (pieceAt M s) s)]) (g := fun s => DPc (sumAt L M s)) (L := s0 :: S0) fun s hs => ⟨_, rfl, sumPiece_ok T hk hs _ _⟩
  rw [this, ← List.map_cons (f := sumAt L M), List.map_map]
  rfl
theorem add_ok (T : Two k L M s0 S0) (hk : k ≤ 700) (zL : L.length ≤ 100) (zM : M.length ≤ 100) : F_add_lines [.list (L.map DPc), .list (M.map DPc)] = .ok (.list ((addL L M s0 S0).map DPc)) := by
  have e := sumsLc_ok T hk zL zM
  have j := joined_ok (c0 := sumAt L M s0) (Q := S0.map (sumAt L M)) (by rw [List.length_map]; have := T.sz; omega)
  refine run_rt (s := [.v (.list (L.map DPc)), .v (.list (M.map DPc)), .un, .un]) rfl ?_
  unfold m_add_lines
  refine ret_rt ?_
  rw [callD1_ok e, j]
  rfl
theorem addL_ok (T : Two k L M s0 S0) (hk : k ≤ 700) (zL : L.length ≤ 100) (zM : M.length ≤ 100) : FL_add_lines [.list (L.map DPc), .list (M.map DPc)] = .ok ((addL L M s0 S0).map DPc) := by
  have e := sumsLc_ok T hk zL zM
  have j := joinedL_ok (c0 := sumAt L M s0) (Q := S0.map (sumAt L M)) (by rw [List.length_map]; have := T.sz; omega)
  have : mL_add_lines [.v (.list (L.map DPc)), .v (.list (M.map DPc)), .un, .un] = .rl ((addL L M s0 S0).map DPc) := by
    exact retL1 e j
  show (match mL_add_lines [.v (.list (L.map DPc)), .v (.list (M.map DPc)), .un, .un] with | .rl es => R.ok es | .ex e _ => .ex e | _ => .no) = _
  rw [this]
end
/-! ### multiples -/
def sclP (n : Pr) (p : Pc) : Pc := ⟨p.s, pmul p.v n, pmul p.m n⟩
def sclL (L : List Pc) (n : Pr) : List Pc := sclP n (head0 L) :: joinT (sclP n (head0 L)) (L.tail.map (sclP n))
theorem tv_scl {k m : Nat} {p : Pc} (hp : PcOk k p) {n : Pr} (hn : Pb m n) (x : Rat) : tv (sclP n p) x = val n * tv p x := by
  show val (pmul p.v n) + val (pmul p.m n) * (x - val p.s) = _
  rw [val_pmul hp.v.1 hn, val_pmul hp.m.1 hn]
  unfold tv
  grind
theorem scl_ck {k m : Nat} {n : Pr} (hn : Pb m n) : ∀ {r : List Pc} {f : Pc}, Ck f r → (∀ p ∈ f :: r, PcOk k p) → Ck (sclP n f) (r.map (sclP n))
  | [], _, _, _ => trivial
  | p :: r, f, h, ok => ⟨h.1, by
      rw [tv_scl (ok f List.mem_cons_self) hn]
      show val n * tv f (val p.s) = val (pmul p.v n)
      rw [h.2.1, val_pmul (ok p (List.mem_cons_of_mem _ List.mem_cons_self)).v.1 hn]
      grind, scl_ck hn h.2.2 fun q hq => ok q (List.mem_cons_of_mem _ hq)⟩
theorem scl_sel {x : Rat} {n : Pr} : ∀ (r : List Pc) (f : Pc), selQ x (sclP n f) (r.map (sclP n)) = sclP n (selQ x f r)
  | [], _ => rfl
  | p :: r, f => by
    show selQ x (if x < val p.s then sclP n f else sclP n p) (r.map (sclP n)) = sclP n (selQ x (if x < val p.s then f else p) r)
    rw [← scl_sel r]
    congr 1
    split <;> rfl
theorem selQ_ok {k : Nat} {x : Rat} {r : List Pc} {f : Pc} (ok : ∀ p ∈ f :: r, PcOk k p) : PcOk k (selQ x f r) := by
  rcases selQ_mem (x := x) r f with h | h
  · rw [h]
    exact ok f List.mem_cons_self
  · exact ok _ (List.mem_cons_of_mem _ h)
theorem sclL_line {k m : Nat} {L : List Pc} (hL : Line k L) {n : Pr} (hn : Pb m n) : Line (k + m) (sclL L n) := by
  have e := hL.eq
  have ok : ∀ p ∈ head0 L :: L.tail, PcOk k p := fun p hp => hL.ok p (by rw [e]; exact hp)
  refine ⟨List.cons_ne_nil _ _, fun p hp => ?_, hL.s0, (joinL_ok (scl_ck hn hL.lk.ck ok) rfl (fun y => rfl) (show val (head0 L).s ≤ val (head0 L).s by grind)).1⟩
  have : ∃ q ∈ head0 L :: L.tail, p = sclP n q := by
    rcases List.mem_cons.mp hp with h | h
    · exact ⟨_, List.mem_cons_self, h⟩
    · obtain ⟨q, hq, rfl⟩ := List.mem_map.mp (joinT_mem h)
      exact ⟨q, List.mem_cons_of_mem _ hq, rfl⟩
  obtain ⟨q, hq, rfl⟩ := this
  have kq := ok q hq
  exact ⟨⟨kq.s.1.mono (by omega), kq.s.2⟩, pmul_num kq.v.1 hn, pmul_num kq.m.1 hn⟩
theorem sclL_tell {k m a : Nat} {L : List Pc} (hL : Line k L) {n : Pr} (hn : Pb m n) {x : Pr} (hx : Num a x) (h0 : 0 ≤ val x) : tellL (sclL L n) x = pmul n (tellL L x) := by
  have e := hL.eq
  have ok : ∀ p ∈ head0 L :: L.tail, PcOk k p := fun p hp => hL.ok p (by rw [e]; exact hp)
  have ln := sclL_line hL hn
  have t1 := tell_num (ln.piece_ok x) hx.1
  have t2 := tell_num (hL.piece_ok x) hx.1
  refine low_inj t1.2 (pmul_num hn t2.1).2 ?_
  show val (tellL (sclL L n) x) = val (pmul n (tellL L x))
  have e2 : val (pmul n (tellL L x)) = val n * val (tellL L x) := val_pmul hn t2.1
  rw [ln.tellQ hx h0, e2, hL.tellQ hx h0]
  have j := (joinL_ok (scl_ck hn hL.lk.ck ok) rfl (fun y => rfl) (show val (head0 L).s ≤ val (head0 L).s by grind)).2 (val x)
  refine Eq.trans j ?_
  rw [scl_sel, tv_scl (selQ_ok ok) hn]
theorem sclLc_ok {k m : Nat} {L : List Pc} (hL : Line k L) {n : Pr} (hn : Pb m n) (hk : k ≤ 700) (hm : m ≤ 700) (zL : L.length ≤ 100) : fLc (sSeq (fVar 0)) (hTup 3 (hCons (hName 2) (hCons (hName 3) (hCons (hName 4) hNil)))) bYes (fTup (fCons (fVar 2) (fCons (fCallD F_times (fCons (fVar 3) (fCons (fVar 1) fNil))) (fCons (fCallD F_times (fCons (fVar 4) (fCons (fVar 1) fNil))) fNil)))) [2, 3, 4]
    [.v (.list (L.map DPc)), .v (DP n), .un, .un, .un] = .ok (.list ((sclP n (head0 L) :: L.tail.map (sclP n)).map DPc)) := by
  have e := hL.eq
  refine lc_ok (ds := L.map DPc) rfl (by rw [List.length_map]; omega) ?_
  have := cloop_map79 (tg := hTup 3 (hCons (hName 2) (hCons (hName 3) (hCons (hName 4) hNil)))) (f := fTup (fCons (fVar 2) (fCons (fCallD F_times (fCons (fVar 3) (fCons (fVar 1) fNil))) (fCons (fCallD F_times (fCons (fVar 4) (fCons (fVar 1) fNil))) fNil)))) (s := wipeE [.v (.list (L.map DPc)), .v (DP n), .un, .un, .un] [2, 3, 4])
    (h := DPc) (g := fun p => DPc (sclP n p)) (L := L) fun p hp => ⟨[.v (.list (L.map DPc)), .v (DP n), .v (DP p.s), .v (DP p.v), .v (DP p.m)], rfl, by
      have kp := hL.ok p hp
      have e1 := ptimes_ok (kp.v.1.mono (show k ≤ 4400 by omega)) (hn.mono (show m ≤ 4400 by omega))
      have e2 := ptimes_ok (kp.m.1.mono (show k ≤ 4400 by omega)) (hn.mono (show m ≤ 4400 by omega))
      simp only [gSeq, gPar, gPar3, gIfS, gAsg, gNext, gRet, gApp, gOwn, xf, fBin, fUn, fC, fVar, fCall, fCallD, fCons, fNil, fIf, fAnd, fOr, fNot, bOr, bNot, bAnd, bTru, truth, bVal, hName, R.bind, gInt1, gAdd, gSubI, gNeg, gCmp, List.getElem?_cons_succ, List.getElem?_cons_zero, List.set_cons_succ, List.set_cons_zero, Bool.not_true, Bool.not_false, Bool.false_eq_true, if_false, if_true, decide_true, decide_false, fTup, e1, e2, List.length_cons, List.length_nil, Nat.reduceAdd, Nat.reduceLeDiff]
      rfl⟩
  rw [this, ← List.map_cons (f := sclP n), ← e, List.map_map]
  rfl
theorem sclFL_ok {k m : Nat} {L : List Pc} (hL : Line k L) {n : Pr} (hn : Pb m n) (hk : k ≤ 700) (hm : m ≤ 700) (zL : L.length ≤ 100) : FL_scale_line [.list (L.map DPc), DP n] = .ok ((sclL L n).map DPc) := by
  have e := sclLc_ok hL hn hk hm zL
  have j := joinedL_ok (c0 := sclP n (head0 L)) (Q := L.tail.map (sclP n)) (by rw [List.length_map, List.length_tail]; omega)
  have : mL_scale_line [.v (.list (L.map DPc)), .v (DP n), .un, .un, .un] = .rl ((sclL L n).map DPc) := by
    exact retL1 e j
  show (match mL_scale_line [.v (.list (L.map DPc)), .v (DP n), .un, .un, .un] with | .rl es => R.ok es | .ex e _ => .ex e | _ => .no) = _
  rw [this]


/-! ### drawn lines -/
def Links (L : List Pc) : Prop := ∀ (i : Nat) (p q : Pc), L[i]? = some p → L[i + 1]? = some q → val p.s < val q.s ∧ p.m ≠ q.m ∧ tv p (val q.s) = val q.v
theorem links_one (p : Pc) : Links [p] := fun i a b _ h => by simp at h
theorem links_snoc {L : List Pc} {i : Nat} {p q : Pc} (h : Links L) (hl : L.length = i + 1) (hp : L[i]? = some p) (a : val p.s < val q.s) (b : p.m ≠ q.m) (c : tv p (val q.s) = val q.v) : Links (L ++ [q]) := fun j u v hu hv => by
  by_cases hj : j + 1 < L.length
  · rw [List.getElem?_append_left (by omega)] at hu
    rw [List.getElem?_append_left hj] at hv
    exact h j u v hu hv
  · have hj2 : j + 1 = L.length := by
      have := (List.getElem?_eq_some_iff.mp hv).1
      simp at this
      omega
    rw [List.getElem?_append_left (by omega), show j = i by omega, hp] at hu
    rw [List.getElem?_append_right (by omega), hj2, Nat.sub_self] at hv
    cases hu
    cases hv
    exact ⟨a, b, c⟩
theorem lk_of : ∀ {r : List Pc} {f : Pc}, Links (f :: r) → Lk f r
  | [], _, _ => trivial
  | p :: r, f, h => by
    obtain ⟨a, b, c⟩ := h 0 f p rfl rfl
    exact ⟨a, b, c, lk_of fun i u v hu hv => h (i + 1) u v hu hv⟩
theorem line_of {k : Nat} {L : List Pc} (ne : L ≠ []) (ok : ∀ p ∈ L, PcOk k p) (h0 : (head0 L).s = (0, 1)) (h : Links L) : Line k L := ⟨ne, ok, h0, by
  cases L with
  | nil => exact absurd rfl ne
  | cons p r => exact lk_of h⟩
theorem step_all : ∀ q1 < 5, ∀ q2 < 3, lt (0, 1) (nrmP (1 + ((q1 : Nat) : Int)) (1 + ((q2 : Nat) : Int))) = true := by decide +kernel
theorem step_pos {q1 q2 : Nat} (h1 : q1 < 5) (h2 : q2 < 3) : 0 < val (nrmP (1 + (q1 : Int)) (1 + (q2 : Int))) := by
  have h := step_all q1 h1 q2 h2
  have lo : Low (nrmP (1 + (q1 : Int)) (1 + (q2 : Int))) := (nrmP_num (k := 40) (by omega) (by unfold Bn; omega) (by unfold Bn; omega)).2
  rw [lt_val low_one lo, val_zero] at h
  exact of_decide_eq_true h
theorem drawnL_ok {l : List D} (h : StOk l) : ∃ (L : List Pc) (l' : List D), StOk l' ∧ 1 ≤ L.length ∧ L.length ≤ 4 ∧ (∀ p ∈ L, PcOk 110 p) ∧ (∀ p ∈ L, Num 13 p.s ∧ Num 22 p.m) ∧ Line 110 L ∧ F__law_line [] l [] = .ok (.list (L.map DPc), l') := by
  obtain ⟨v0, l1, k1, nv0, e1⟩ := amount_ok h
  obtain ⟨m0, l2, k2, nm0, e2⟩ := amount_ok k1
  obtain ⟨r, l3, k3, c3, e3⟩ := draw_ok k2 (m := 4) (by decide) (by decide)
  replace e3 : F__law_draw [] l2 [.int 4] = .ok (.int (r : Int), l3) := e3
  obtain ⟨s', e, L, l4, st, va, sl, x2, x6, x7, hs, hl, k4, ok, b1, b2, b3, f1, f2, f3, f4⟩ := loop_inv (tg := hName 2) (b := l__law_line_1)
    (fun i s => ∃ (L : List Pc) (l4 : List D) (st va sl : Pr) (x2 x6 x7 : En), s = [.m l4, .o (L.map DPc), x2, .v (DP st), .v (DP va), .v (DP sl), x6, x7] ∧ L.length = i + 1 ∧ StOk l4 ∧ (∀ p ∈ L, PcOk 110 p) ∧ Num (4 * i + 1) st ∧ Num (26 * i + 20) va ∧ Num 22 sl ∧ (∀ p ∈ L, Num 13 p.s ∧ Num 22 p.m) ∧ L[i]? = some ⟨st, va, sl⟩ ∧ Links L ∧ (head0 L).s = (0, 1)) (rng 0 r) 0
    [.m l3, .o [DPc ⟨(0, 1), v0, m0⟩], .un, .v (DP (0, 1)), .v (DP v0), .v (DP m0), .un, .un] ⟨[⟨(0, 1), v0, m0⟩], l3, (0, 1), v0, m0, _, _, _, rfl, rfl, k3, fun p hp => by
      rw [List.mem_singleton.mp hp]
      exact ⟨num_zero (by decide), Num.mono nv0 (by decide), Num.mono nm0 (by decide)⟩, num_zero (by decide), nv0, Num.mono nm0 (by decide), fun p hp => by
      rw [List.mem_singleton.mp hp]
      exact ⟨num_zero (by decide), Num.mono nm0 (by decide)⟩, rfl, links_one _, rfl⟩ (by
      rintro i d s hd ⟨L, l4, st, va, sl, x2, x6, x7, rfl, hl, k4, ok, b1, b2, b3, f1, f2, f3, f4⟩
      obtain ⟨hi, rfl⟩ := rng_get hd
      rw [Nat.zero_add] at hl b1 b2 f2 ⊢
      obtain ⟨q1, l5, k5, c5, e5⟩ := draw_ok k4 (m := 5) (by decide) (by decide)
      replace e5 : F__law_draw [] l4 [.int 5] = .ok (.int (q1 : Int), l5) := e5
      obtain ⟨q2, l6, k6, c6, e6⟩ := draw_ok k5 (m := 3) (by decide) (by decide)
      replace e6 : F__law_draw [] l5 [.int 3] = .ok (.int (q2 : Int), l6) := e6
      obtain ⟨ot, l7, k7, no, e7⟩ := amount_ok k6
      have sp : 0 < val (nrmP (1 + (q1 : Int)) (1 + (q2 : Int))) := step_pos c5 c6
      have nstep : Num 3 (nrmP (1 + (q1 : Int)) (1 + (q2 : Int))) := nrmP_num (by omega) (by unfold Bn; omega) (by unfold Bn; omega)
      have gst : F__law_number [.int (1 + (q1 : Int)), .int (1 + (q2 : Int))] = .ok (DP (nrmP (1 + (q1 : Int)) (1 + (q2 : Int)))) := lnum_ok (by omega) ((show Bn 3 (1 + (q2 : Int)) by unfold Bn; omega).mono (by decide))
      generalize nrmP (1 + (q1 : Int)) (1 + (q2 : Int)) = step at *
      have hi4 : i ≤ 3 := by omega
      have t1 := pltimes_ok (b3.1.mono (show 22 ≤ 4400 by decide)) (nstep.1.mono (show 3 ≤ 4400 by decide))
      have nt := pmul_num b3.1 nstep.1
      have t2 := plplus_ok (b2.1.mono (show 26 * i + 20 ≤ 4400 by omega)) (nt.1.mono (show 22 + 3 ≤ 4400 by decide))
      have nva := padd_num b2.1 nt.1
      have t3 := plplus_ok (b1.1.mono (show 4 * i + 1 ≤ 4400 by omega)) (nstep.1.mono (show 3 ≤ 4400 by decide))
      have nst := padd_num b1.1 nstep.1
      have w1 : val (padd va (pmul sl step)) = val va + val sl * val step := by rw [val_padd b2.1 nt.1, val_pmul b3.1 nstep.1]
      have w2 : val (padd st step) = val st + val step := val_padd b1.1 nstep.1
      generalize padd va (pmul sl step) = va' at *
      generalize padd st step = st' at *
      -- the slope
      obtain ⟨sl', ns, nes, es⟩ : ∃ sl' : Pr, Num 22 sl' ∧ sl ≠ sl' ∧ ∀ x2 x6 : En, gIfS (bVal (fBin gEq (fVar 7) (fVar 5))) (gAsg (fCallD F__law_plus (fCons (fVar 7) (fCons (fTup (fCons (fC (.int 1)) (fCons (fC (.int 1)) fNil))) fNil))) (hName 7)) gNext [.m l7, .o (L.map DPc), x2, .v (DP st'), .v (DP va'), .v (DP sl), x6, .v (DP ot)] = .nx [.m l7, .o (L.map DPc), x2, .v (DP st'), .v (DP va'), .v (DP sl), x6, .v (DP sl')] := by
        have q := gEq_DP ot sl
        by_cases hq : ot = sl
        · have t := plplus_ok (no.1.mono (show 20 ≤ 4400 by decide)) ((num_one (k := 1) (by decide)).1.mono (show 1 ≤ 4400 by decide))
          replace t : F__law_plus [DP ot, .tuple [.int 1, .int 1]] = .ok (DP (padd ot (1, 1))) := t
          rw [decide_eq_true hq] at q
          refine ⟨padd ot (1, 1), padd_num no.1 (num_one (k := 1) (by decide)).1, fun z => ?_, fun x2 x6 => ?_⟩
          · have := congrArg val z
            rw [val_padd no.1 (num_one (k := 1) (by decide)).1, val_one, hq] at this
            grind
          simp only [gSeq, gPar, gPar3, gIfS, gAsg, gNext, gRet, gApp, gOwn, xf, fBin, fUn, fC, fVar, fCall, fCallD, fCons, fNil, fIf, fAnd, fOr, fNot, bOr, bNot, bAnd, bTru, truth, bVal, hName, R.bind, gInt1, gAdd, gSubI, gNeg, gCmp, List.getElem?_cons_succ, List.getElem?_cons_zero, List.set_cons_succ, List.set_cons_zero, Bool.not_true, Bool.not_false, Bool.false_eq_true, if_false, if_true, decide_true, decide_false, fTup, List.length_cons, List.length_nil, Nat.reduceAdd, Nat.reduceLeDiff, q, t]
        · rw [decide_eq_false hq] at q
          exact ⟨ot, Num.mono no (by decide), fun z => hq z.symm, fun x2 x6 => by simp only [gSeq, gPar, gPar3, gIfS, gAsg, gNext, gRet, gApp, gOwn, xf, fBin, fUn, fC, fVar, fCall, fCallD, fCons, fNil, fIf, fAnd, fOr, fNot, bOr, bNot, bAnd, bTru, truth, bVal, hName, R.bind, gInt1, gAdd, gSubI, gNeg, gCmp, List.getElem?_cons_succ, List.getElem?_cons_zero, List.set_cons_succ, List.set_cons_zero, Bool.not_true, Bool.not_false, Bool.false_eq_true, if_false, if_true, decide_true, decide_false, q]⟩
      have hz : (L.map DPc).length < 100000 := by rw [List.length_map]; omega
      refine ⟨[.m l4, .o (L.map DPc), .v (.int (0 + (i : Int))), .v (DP st), .v (DP va), .v (DP sl), x6, x7], [.m l7, .o ((L ++ [Pc.mk st' va' sl']).map DPc), .v (.int (0 + (i : Int))), .v (DP st'), .v (DP va'), .v (DP sl'), .v (DP step), .v (DP sl')], rfl, .inl ?_, L ++ [Pc.mk st' va' sl'], l7, st', va', sl', _, _, _, rfl, by rw [List.length_append, hl]; rfl, k7, fun p hp => ?_, Num.mono nst (by omega), Num.mono nva (by omega), ns, fun p hp => ?_, by rw [List.getElem?_append_right (by omega), hl, Nat.sub_self]; rfl, links_snoc f3 (i := i) hl f2 (by show val st < val st'; rw [w2]; grind) nes (by show val va + val sl * (val st' - val st) = val va'; rw [w1, w2]; grind), by
          cases L with
          | nil => cases hl
          | cons a r => exact f4⟩
      · unfold l__law_line_1
        refine seq_step (s1 := [.m l6, .o (L.map DPc), .v (.int (0 + (i : Int))), .v (DP st), .v (DP va), .v (DP sl), .v (DP step), x7]) (by simp only [gSeq, gPar, gPar3, gIfS, gAsg, gNext, gRet, gApp, gOwn, xf, fBin, fUn, fC, fVar, fCall, fCallD, fCons, fNil, fIf, fAnd, fOr, fNot, bOr, bNot, bAnd, bTru, truth, bVal, hName, R.bind, gInt1, gAdd, gSubI, gNeg, gCmp, List.getElem?_cons_succ, List.getElem?_cons_zero, List.set_cons_succ, List.set_cons_zero, Bool.not_true, Bool.not_false, Bool.false_eq_true, if_false, if_true, decide_true, decide_false, gAsgX, xCall, xCons, xBin, xCallM, isList, xHere, xE, e5, e6, gst]) ?_
        refine seq_step (s1 := [.m l6, .o (L.map DPc), .v (.int (0 + (i : Int))), .v (DP st), .v (DP va'), .v (DP sl), .v (DP step), x7]) (by simp only [gSeq, gPar, gPar3, gIfS, gAsg, gNext, gRet, gApp, gOwn, xf, fBin, fUn, fC, fVar, fCall, fCallD, fCons, fNil, fIf, fAnd, fOr, fNot, bOr, bNot, bAnd, bTru, truth, bVal, hName, R.bind, gInt1, gAdd, gSubI, gNeg, gCmp, List.getElem?_cons_succ, List.getElem?_cons_zero, List.set_cons_succ, List.set_cons_zero, Bool.not_true, Bool.not_false, Bool.false_eq_true, if_false, if_true, decide_true, decide_false, t1, t2]) ?_
        refine seq_step (s1 := [.m l6, .o (L.map DPc), .v (.int (0 + (i : Int))), .v (DP st'), .v (DP va'), .v (DP sl), .v (DP step), x7]) (by simp only [gSeq, gPar, gPar3, gIfS, gAsg, gNext, gRet, gApp, gOwn, xf, fBin, fUn, fC, fVar, fCall, fCallD, fCons, fNil, fIf, fAnd, fOr, fNot, bOr, bNot, bAnd, bTru, truth, bVal, hName, R.bind, gInt1, gAdd, gSubI, gNeg, gCmp, List.getElem?_cons_succ, List.getElem?_cons_zero, List.set_cons_succ, List.set_cons_zero, Bool.not_true, Bool.not_false, Bool.false_eq_true, if_false, if_true, decide_true, decide_false, t3]) ?_
        refine seq_step (s1 := [.m l7, .o (L.map DPc), .v (.int (0 + (i : Int))), .v (DP st'), .v (DP va'), .v (DP sl), .v (DP step), .v (DP ot)]) (by simp only [gSeq, gPar, gPar3, gIfS, gAsg, gNext, gRet, gApp, gOwn, xf, fBin, fUn, fC, fVar, fCall, fCallD, fCons, fNil, fIf, fAnd, fOr, fNot, bOr, bNot, bAnd, bTru, truth, bVal, hName, R.bind, gInt1, gAdd, gSubI, gNeg, gCmp, List.getElem?_cons_succ, List.getElem?_cons_zero, List.set_cons_succ, List.set_cons_zero, Bool.not_true, Bool.not_false, Bool.false_eq_true, if_false, if_true, decide_true, decide_false, gAsgX, xCallM, isList, xHere, xE, e7]) ?_
        refine seq_step (es _ _) ?_
        refine seq_step (s1 := [.m l7, .o (L.map DPc), .v (.int (0 + (i : Int))), .v (DP st'), .v (DP va'), .v (DP sl'), .v (DP step), .v (DP sl')]) (by simp only [gSeq, gPar, gPar3, gIfS, gAsg, gNext, gRet, gApp, gOwn, xf, fBin, fUn, fC, fVar, fCall, fCallD, fCons, fNil, fIf, fAnd, fOr, fNot, bOr, bNot, bAnd, bTru, truth, bVal, hName, R.bind, gInt1, gAdd, gSubI, gNeg, gCmp, List.getElem?_cons_succ, List.getElem?_cons_zero, List.set_cons_succ, List.set_cons_zero, Bool.not_true, Bool.not_false, Bool.false_eq_true, if_false, if_true, decide_true, decide_false]) ?_
        refine (app_ok (ds := L.map DPc) (d := DPc (Pc.mk st' va' sl')) rfl ?_ hz).trans ?_
        · simp only [gSeq, gPar, gPar3, gIfS, gAsg, gNext, gRet, gApp, gOwn, xf, fBin, fUn, fC, fVar, fCall, fCallD, fCons, fNil, fIf, fAnd, fOr, fNot, bOr, bNot, bAnd, bTru, truth, bVal, hName, R.bind, gInt1, gAdd, gSubI, gNeg, gCmp, List.getElem?_cons_succ, List.getElem?_cons_zero, List.set_cons_succ, List.set_cons_zero, Bool.not_true, Bool.not_false, Bool.false_eq_true, if_false, if_true, decide_true, decide_false, fTup, List.length_cons, List.length_nil, Nat.reduceAdd, Nat.reduceLeDiff]
          rfl
        · rw [List.map_append]
          rfl
      · rcases List.mem_append.mp hp with hp | hp
        · exact ok p hp
        · rw [List.mem_singleton.mp hp]
          exact ⟨Num.mono nst (by omega), Num.mono nva (by omega), Num.mono ns (by decide)⟩
      · rcases List.mem_append.mp hp with hp | hp
        · exact f1 p hp
        · rw [List.mem_singleton.mp hp]
          exact ⟨Num.mono nst (by omega), ns⟩)
  rw [rng_len, Nat.zero_add] at hl
  subst hs
  refine ⟨L, l4, k4, by omega, by omega, ok, f1, line_of (by intro z; rw [z] at hl; simp at hl) ok f4 f3, outM (s := [.m l, .un, .un, .un, .un, .un, .un, .un]) (as := []) (bs := []) rfl ?_⟩
  unfold m__law_line
  refine seq_step (s1 := [.m l2, .un, .un, .v (DP (0, 1)), .v (DP v0), .v (DP m0), .un, .un]) ?_ ?_
  · simp only [gSeq, gPar, gPar3, gIfS, gAsg, gNext, gRet, gApp, gOwn, xf, fBin, fUn, fC, fVar, fCall, fCallD, fCons, fNil, fIf, fAnd, fOr, fNot, bOr, bNot, bAnd, bTru, truth, bVal, hName, R.bind, gInt1, gAdd, gSubI, gNeg, gCmp, List.getElem?_cons_succ, List.getElem?_cons_zero, List.set_cons_succ, List.set_cons_zero, Bool.not_true, Bool.not_false, Bool.false_eq_true, if_false, if_true, decide_true, decide_false, gPar3X, xCons, xCallM, isList, xHere, xE, fTup, List.length_cons, List.length_nil, Nat.reduceAdd, Nat.reduceLeDiff, e1, e2]
    rfl
  refine seq_step (s1 := [.m l2, .o [DPc ⟨(0, 1), v0, m0⟩], .un, .v (DP (0, 1)), .v (DP v0), .v (DP m0), .un, .un]) ?_ ?_
  · simp only [gSeq, gPar, gPar3, gIfS, gAsg, gNext, gRet, gApp, gOwn, xf, fBin, fUn, fC, fVar, fCall, fCallD, fCons, fNil, fIf, fAnd, fOr, fNot, bOr, bNot, bAnd, bTru, truth, bVal, hName, R.bind, gInt1, gAdd, gSubI, gNeg, gCmp, List.getElem?_cons_succ, List.getElem?_cons_zero, List.set_cons_succ, List.set_cons_zero, Bool.not_true, Bool.not_false, Bool.false_eq_true, if_false, if_true, decide_true, decide_false, fLst, fTup, List.length_cons, List.length_nil, Nat.reduceAdd, Nat.reduceLeDiff]
    rfl
  refine seq_step (s1 := [.m l4, .o (L.map DPc), x2, .v (DP st), .v (DP va), .v (DP sl), x6, x7]) ?_ ?_
  · unfold gForX
    have src : xRng1 (xCons (xCallM 0 F__law_draw (xHere (xE (fCons (fC (.int 4)) fNil)))) (xE fNil)) [.m l2, .o [DPc ⟨(0, 1), v0, m0⟩], .un, .v (DP (0, 1)), .v (DP v0), .v (DP m0), .un, .un] = .ok (rng 0 r, [.m l3, .o [DPc ⟨(0, 1), v0, m0⟩], .un, .v (DP (0, 1)), .v (DP v0), .v (DP m0), .un, .un]) := by
      simp only [gSeq, gPar, gPar3, gIfS, gAsg, gNext, gRet, gApp, gOwn, xf, fBin, fUn, fC, fVar, fCall, fCallD, fCons, fNil, fIf, fAnd, fOr, fNot, bOr, bNot, bAnd, bTru, truth, bVal, hName, R.bind, gInt1, gAdd, gSubI, gNeg, gCmp, List.getElem?_cons_succ, List.getElem?_cons_zero, List.set_cons_succ, List.set_cons_zero, Bool.not_true, Bool.not_false, Bool.false_eq_true, if_false, if_true, decide_true, decide_false, xRng1, xCons, xCallM, isList, xHere, xE, e3, gRng1_ok (n := r) (by omega)]
    rw [src]
    exact e
  simp only [gSeq, gPar, gPar3, gIfS, gAsg, gNext, gRet, gApp, gOwn, xf, fBin, fUn, fC, fVar, fCall, fCallD, fCons, fNil, fIf, fAnd, fOr, fNot, bOr, bNot, bAnd, bTru, truth, bVal, hName, R.bind, gInt1, gAdd, gSubI, gNeg, gCmp, List.getElem?_cons_succ, List.getElem?_cons_zero, List.set_cons_succ, List.set_cons_zero, Bool.not_true, Bool.not_false, Bool.false_eq_true, if_false, if_true, decide_true, decide_false, gLet, gRetM, xE]
theorem runL_rl {m : Nat} {G : Ev → Fl} {ds : List D} {s : Ev} {es : List D} (hs : ds.map En.v ++ List.replicate (m - ds.length) En.un = s) (h : G s = .rl es) : runL m G ds = .ok es := by
  unfold runL
  rw [hs, h]
theorem retL_rl {f : Ev → R D} {s : Ev} {es : List D} (h : f s = .ok (.list es)) : gRetL f s = .rl es := by
  unfold gRetL
  rw [h]
  rfl
theorem places79_ok {k : Nat} (hk : k ≤ 700) {S : Pr → Prop} (Sh : ∀ a b, Pb k a → Pb k b → S a → S b → S (pmul (padd a b) (1, 2))) (Sn : ∀ a, Pb k a → S a → S (padd a (1, 1))) {Ls : List (List Pc)} (h0 : Ls ≠ []) (hn : Ls.length ≤ 10) (ok : ∀ L ∈ Ls, L ≠ [] ∧ L.length ≤ 100 ∧ ∀ p ∈ L, Num k p.s ∧ S p.s) :
    ∃ X : List Pr, X.length ≤ 2100 ∧ (∀ x ∈ X, Num (2 * k + 3) x ∧ S x) ∧ FL__law_places [.list (Ls.map fun L => .list (L.map DPc))] = .ok (X.map DP) := by
  -- the starts, each once
  obtain ⟨s1, e1, F, x2, x7, hs1, hF, okF, neF⟩ := loop_inv (tg := hName 2) (b := l_L__law_places_4)
    (fun i s => ∃ (F : List Pr) (x2 x7 : En), s = [.v (.list (Ls.map fun L => .list (L.map DPc))), .o (F.map DP), x2, .un, .un, .un, .un, x7, .un, .un] ∧ F.length ≤ 100 * i ∧ (∀ x ∈ F, Num k x ∧ S x) ∧ (1 ≤ i → F ≠ [])) (Ls.map fun L => .list (L.map DPc)) 0
    [.v (.list (Ls.map fun L => .list (L.map DPc))), .o [], .un, .un, .un, .un, .un, .un, .un, .un] ⟨[], _, _, rfl, Nat.zero_le _, fun x hx => (nomatch hx), fun h => by omega⟩ (by
      rintro i d s hd ⟨F, x2, x7, rfl, hF, okF, neF⟩
      obtain ⟨L, hL, rfl⟩ := map_getP hd
      rw [Nat.zero_add] at hF neF ⊢
      obtain ⟨n1, n2, n3⟩ := ok L (List.mem_of_getElem? hL)
      have hiL : i < Ls.length := (List.getElem?_eq_some_iff.mp hL).1
      obtain ⟨s2, e2, G, y7, hs2, hG, okG, neG⟩ := loop_inv (tg := hName 7) (b := l_L__law_places_3)
        (fun j s => ∃ (G : List Pr) (y7 : En), s = [.v (.list (Ls.map fun L => .list (L.map DPc))), .o (G.map DP), .v (.list (L.map DPc)), .un, .un, .un, .un, y7, .un, .un] ∧ G.length ≤ F.length + j ∧ (∀ x ∈ G, Num k x ∧ S x) ∧ (1 ≤ j → G ≠ [])) (L.map DPc) 0
        [.v (.list (Ls.map fun L => .list (L.map DPc))), .o (F.map DP), .v (.list (L.map DPc)), .un, .un, .un, .un, x7, .un, .un] ⟨F, _, rfl, Nat.le_refl _, okF, fun h => by omega⟩ (by
          rintro j d s hd ⟨G, y7, rfl, hG, okG, neG⟩
          obtain ⟨p, hp, rfl⟩ := map_getP hd
          rw [Nat.zero_add] at hG neG ⊢
          have hj : j < L.length := (List.getElem?_eq_some_iff.mp hp).1
          have kp := n3 p (List.mem_of_getElem? hp)
          have nt := notIn_DP p.s G
          have hz : (G.map DP).length < 100000 := by rw [List.length_map]; omega
          cases hb : G.any fun q => decide (q = p.s) with
          | true =>
            rw [hb] at nt
            refine ⟨[.v (.list (Ls.map fun L => .list (L.map DPc))), .o (G.map DP), .v (.list (L.map DPc)), .un, .un, .un, .un, .v (DPc p), .un, .un], [.v (.list (Ls.map fun L => .list (L.map DPc))), .o (G.map DP), .v (.list (L.map DPc)), .un, .un, .un, .un, .v (DPc p), .un, .un], rfl, .inl ?_, G, _, rfl, by omega, okG, fun _ => fun z => by rw [z] at hb; cases hb⟩
            unfold l_L__law_places_3
            simp only [gSeq, gPar, gPar3, gIfS, gAsg, gNext, gRet, gApp, gOwn, xf, fBin, fUn, fC, fVar, fCall, fCallD, fCons, fNil, fIf, fAnd, fOr, fNot, bOr, bNot, bAnd, bTru, truth, bVal, hName, R.bind, gInt1, gAdd, gSubI, gNeg, gCmp, List.getElem?_cons_succ, List.getElem?_cons_zero, List.set_cons_succ, List.set_cons_zero, Bool.not_true, Bool.not_false, Bool.false_eq_true, if_false, if_true, decide_true, decide_false, bLend, DPc_0, nt]
          | false =>
            rw [hb] at nt
            refine ⟨[.v (.list (Ls.map fun L => .list (L.map DPc))), .o (G.map DP), .v (.list (L.map DPc)), .un, .un, .un, .un, .v (DPc p), .un, .un], [.v (.list (Ls.map fun L => .list (L.map DPc))), .o ((G ++ [p.s]).map DP), .v (.list (L.map DPc)), .un, .un, .un, .un, .v (DPc p), .un, .un], rfl, .inl ?_, G ++ [p.s], _, rfl, by rw [List.length_append]; simp; omega, fun x hx => ?_, fun _ => by simp⟩
            · unfold l_L__law_places_3
              simp only [gSeq, gPar, gPar3, gIfS, gAsg, gNext, gRet, gApp, gOwn, xf, fBin, fUn, fC, fVar, fCall, fCallD, fCons, fNil, fIf, fAnd, fOr, fNot, bOr, bNot, bAnd, bTru, truth, bVal, hName, R.bind, gInt1, gAdd, gSubI, gNeg, gCmp, List.getElem?_cons_succ, List.getElem?_cons_zero, List.set_cons_succ, List.set_cons_zero, Bool.not_true, Bool.not_false, Bool.false_eq_true, if_false, if_true, decide_true, decide_false, bLend, DPc_0, nt, hz, List.map_append, List.map_cons, List.map_nil]
            · rcases List.mem_append.mp hx with hx | hx
              · exact okG x hx
              · rw [List.mem_singleton.mp hx]
                exact ⟨kp.1, kp.2⟩)
      rw [Nat.zero_add, List.length_map] at hG neG
      subst hs2
      refine ⟨[.v (.list (Ls.map fun L => .list (L.map DPc))), .o (F.map DP), .v (.list (L.map DPc)), .un, .un, .un, .un, x7, .un, .un], _, rfl, .inl ((for_nx (show sSeq (fVar 2) _ = .ok (L.map DPc) from rfl)).trans e2), G, _, _, rfl, by omega, okG, fun _ => neG (List.length_pos_iff.mpr n1)⟩)
  rw [Nat.zero_add, List.length_map] at hF neF
  subst hs1
  have hFl : F.length ≤ 1000 := by omega
  have neF' : F ≠ [] := neF (List.length_pos_iff.mpr h0)
  -- in order
  obtain ⟨s3, e3, O, x4, x8, hs3, hO, okO⟩ := loop_inv (tg := hName 4) (b := l_L__law_places_2)
    (fun i s => ∃ (O : List Pr) (x4 x8 : En), s = [.v (.list (Ls.map fun L => .list (L.map DPc))), .v (.list (F.map DP)), x2, .v (.list (O.map DP)), x4, .un, .un, x7, x8, .un] ∧ O.length = i ∧ (∀ x ∈ O, Num k x ∧ S x)) (F.map DP) 0
    [.v (.list (Ls.map fun L => .list (L.map DPc))), .v (.list (F.map DP)), x2, .v (.list []), .un, .un, .un, x7, .un, .un] ⟨[], _, _, rfl, rfl, fun x hx => (nomatch hx)⟩ (by
      rintro i d s hd ⟨O, x4, x8, rfl, hO, okO⟩
      obtain ⟨q, hq, rfl⟩ := map_getP hd
      rw [Nat.zero_add] at hO ⊢
      have hi : i < F.length := (List.getElem?_eq_some_iff.mp hq).1
      have kq := okF q (List.mem_of_getElem? hq)
      -- how many are less
      have lc : fLc (sSeq (fVar 3)) (hName 9) (bTru (fCallD F__law_less (fCons (fVar 9) (fCons (fVar 4) fNil)))) (fVar 9) [9] [.v (.list (Ls.map fun L => .list (L.map DPc))), .v (.list (F.map DP)), x2, .v (.list (O.map DP)), .v (DP q), .un, .un, x7, x8, .un] = .ok (.list ((O.filter fun o => lt o q).map DP)) := by
        refine lc_ok (ds := O.map DP) rfl (by rw [List.length_map]; omega) ?_
        show cLoop _ _ _ [.v (.list (Ls.map fun L => .list (L.map DPc))), .v (.list (F.map DP)), x2, .v (.list (O.map DP)), .v (DP q), .un, .un, x7, x8, .un] _ = _
        have aux : ∀ M : List Pr, (∀ x ∈ M, Num k x) → cLoop (hName 9) (bTru (fCallD F__law_less (fCons (fVar 9) (fCons (fVar 4) fNil)))) (fVar 9) [.v (.list (Ls.map fun L => .list (L.map DPc))), .v (.list (F.map DP)), x2, .v (.list (O.map DP)), .v (DP q), .un, .un, x7, x8, .un] (M.map DP) = .ok ((M.filter fun o => lt o q).map DP) := by
          intro M
          induction M with
          | nil => intro _; rfl
          | cons o t ih =>
            intro hM
            have ih' := ih fun x hx => hM x (List.mem_cons_of_mem _ hx)
            have c := plless_ok ((hM o List.mem_cons_self).1.mono (show k ≤ 4400 by omega)) (kq.1.1.mono (show k ≤ 4400 by omega))
            rw [List.map_cons, List.filter_cons]
            unfold cLoop
            cases hc : lt o q with
            | true =>
              rw [hc] at c
              simp only [hName, bTru, fCallD, fCons, fVar, fNil, truth, R.bind, List.set_cons_succ, List.set_cons_zero, List.getElem?_cons_succ, List.getElem?_cons_zero, c, if_true, List.map_cons] at ih' ⊢
              rw [ih']
            | false =>
              rw [hc] at c
              simp only [hName, bTru, fCallD, fCons, fVar, fNil, truth, R.bind, List.set_cons_succ, List.set_cons_zero, List.getElem?_cons_succ, List.getElem?_cons_zero, c, Bool.false_eq_true, if_false] at ih' ⊢
              rw [ih']
        exact aux O fun x hx => (okO x hx).1
      obtain ⟨n, hn, hnO⟩ : ∃ n, ((O.filter fun o => lt o q).map DP).length = n ∧ n ≤ O.length := ⟨_, rfl, by rw [List.length_map]; exact List.length_filter_le _ _⟩
      have ln : gLen [.list ((O.filter fun o => lt o q).map DP)] = .ok (.int (n : Int)) := by rw [len_list, hn]
      have c1 := cut_at (ds := O.map DP) (n := n) (by rw [List.length_map]; exact hnO)
      have c2 := cut_from (ds := O.map DP) (n := n) (by rw [List.length_map]; exact hnO)
      have o1 : ∀ xs ys : List D, xs.length + ys.length ≤ 100000 → gAdd (.list xs) (.list ys) = .ok (.list (xs ++ ys)) := fun xs ys h => if_pos h
      have a1 := o1 ((O.map DP).take n) [DP q] (by rw [List.length_take, List.length_map]; simp; omega)
      have a2 := o1 ((O.map DP).take n ++ [DP q]) ((O.map DP).drop n) (by simp; omega)
      have eq : (O.map DP).take n ++ [DP q] ++ (O.map DP).drop n = (O.take n ++ [q] ++ O.drop n).map DP := by simp [List.map_take, List.map_drop]
      rw [eq] at a2
      refine ⟨[.v (.list (Ls.map fun L => .list (L.map DPc))), .v (.list (F.map DP)), x2, .v (.list (O.map DP)), .v (DP q), .un, .un, x7, x8, .un], [.v (.list (Ls.map fun L => .list (L.map DPc))), .v (.list (F.map DP)), x2, .v (.list ((O.take n ++ [q] ++ O.drop n).map DP)), .v (DP q), .un, .un, x7, .v (.int (n : Int)), .un], rfl, .inl ?_, O.take n ++ [q] ++ O.drop n, _, _, rfl, by simp; omega, fun x hx => ?_⟩
      · unfold l_L__law_places_2
        refine seq_step (s1 := [.v (.list (Ls.map fun L => .list (L.map DPc))), .v (.list (F.map DP)), x2, .v (.list (O.map DP)), .v (DP q), .un, .un, x7, .v (.int (n : Int)), .un]) (asg_nx ((call1_ok lc).trans ln)) ?_
        refine asg_nx (d := .list ((O.take n ++ [q] ++ O.drop n).map DP)) ?_
        refine (bin_ok (x := .list ((O.map DP).take n ++ [DP q])) (y := .list ((O.map DP).drop n)) ?_ ?_).trans a2
        · refine (bin_ok (x := .list ((O.map DP).take n)) (y := .list [DP q]) ?_ rfl).trans a1
          simp only [gSeq, gPar, gPar3, gIfS, gAsg, gNext, gRet, gApp, gOwn, xf, fBin, fUn, fC, fVar, fCall, fCallD, fCons, fNil, fIf, fAnd, fOr, fNot, bOr, bNot, bAnd, bTru, truth, bVal, hName, R.bind, gInt1, gAdd, gSubI, gNeg, gCmp, List.getElem?_cons_succ, List.getElem?_cons_zero, List.set_cons_succ, List.set_cons_zero, Bool.not_true, Bool.not_false, Bool.false_eq_true, if_false, if_true, decide_true, decide_false, fSl, oSome, oNone, c1]
        · simp only [gSeq, gPar, gPar3, gIfS, gAsg, gNext, gRet, gApp, gOwn, xf, fBin, fUn, fC, fVar, fCall, fCallD, fCons, fNil, fIf, fAnd, fOr, fNot, bOr, bNot, bAnd, bTru, truth, bVal, hName, R.bind, gInt1, gAdd, gSubI, gNeg, gCmp, List.getElem?_cons_succ, List.getElem?_cons_zero, List.set_cons_succ, List.set_cons_zero, Bool.not_true, Bool.not_false, Bool.false_eq_true, if_false, if_true, decide_true, decide_false, fSl, oSome, oNone, c2]
      · rcases List.mem_append.mp hx with hx | hx
        · rcases List.mem_append.mp hx with hx | hx
          · exact okO x (List.mem_of_mem_take hx)
          · rw [List.mem_singleton.mp hx]
            exact kq
        · exact okO x (List.mem_of_mem_drop hx))
  rw [Nat.zero_add, List.length_map] at hO
  subst hs3
  have hO1 : 1 ≤ O.length := by rw [hO]; exact List.length_pos_iff.mpr neF'
  have atO : ∀ j : Nat, j < O.length → Num k (at0 O j) ∧ S (at0 O j) := fun j hj => okO _ (by unfold at0; rw [List.getD_eq_getElem?_getD, List.getElem?_eq_getElem hj]; exact List.getElem_mem hj)
  have half : Num 2 (1, 2) := ⟨⟨by unfold Bn; decide, by unfold Bn; decide, by decide⟩, ⟨by decide, by decide⟩⟩
  -- the halves
  obtain ⟨s5, e5, T, x6, hs5, hT, okT⟩ := loop_inv (tg := hName 6) (b := l_L__law_places_1)
    (fun i s => ∃ (T : List Pr) (x6 : En), s = [.v (.list (Ls.map fun L => .list (L.map DPc))), .v (.list (F.map DP)), x2, .v (.list (O.map DP)), x4, .o (T.map DP), x6, x7, x8, .un] ∧ T.length = i ∧ (∀ x ∈ T, Num (2 * k + 3) x ∧ S x)) ((List.range (O.length - 1)).map fun (i : Nat) => .int (1 + (i : Int))) 0
    [.v (.list (Ls.map fun L => .list (L.map DPc))), .v (.list (F.map DP)), x2, .v (.list (O.map DP)), x4, .o [], .un, x7, x8, .un] ⟨[], _, rfl, rfl, fun x hx => (nomatch hx)⟩ (by
      rintro i d s hd ⟨T, x6, rfl, hT, okT⟩
      obtain ⟨j, hj, rfl⟩ := map_getP (f := fun (i : Nat) => .int (1 + (i : Int))) hd
      rw [Nat.zero_add] at hT ⊢
      have hj2 : j = i ∧ i < O.length - 1 := by
        obtain ⟨g1, g2⟩ := List.getElem?_eq_some_iff.mp hj
        simp at g1 g2
        omega
      obtain ⟨rfl, hi⟩ := hj2
      have b1 := atO j (by omega)
      have b2 := atO (j + 1) (by omega)
      have g1 := at_ok (l := O) (k := j) (by omega)
      have g2 := at_ok (l := O) (k := j + 1) (by omega)
      rw [show ((j + 1 : Nat) : Int) = 1 + (j : Int) by omega] at g2
      have es : (1 : Int) + (j : Int) - 1 = (j : Int) := by omega
      have p1 := plplus_ok (b1.1.1.mono (show k ≤ 4400 by omega)) (b2.1.1.mono (show k ≤ 4400 by omega))
      have n1 := padd_num b1.1.1 b2.1.1
      have p2 := pltimes_ok (n1.1.mono (show k + k + 1 ≤ 4400 by omega)) (half.1.mono (show 2 ≤ 4400 by decide))
      replace p2 : F__law_times [DP (padd (at0 O j) (at0 O (j + 1))), .tuple [.int 1, .int 2]] = .ok (DP (pmul (padd (at0 O j) (at0 O (j + 1))) (1, 2))) := p2
      have hz : (T.map DP).length < 100000 := by rw [List.length_map]; omega
      refine ⟨[.v (.list (Ls.map fun L => .list (L.map DPc))), .v (.list (F.map DP)), x2, .v (.list (O.map DP)), x4, .o (T.map DP), .v (.int (1 + (j : Int))), x7, x8, .un], [.v (.list (Ls.map fun L => .list (L.map DPc))), .v (.list (F.map DP)), x2, .v (.list (O.map DP)), x4, .o ((T ++ [pmul (padd (at0 O j) (at0 O (j + 1))) (1, 2)]).map DP), .v (.int (1 + (j : Int))), x7, x8, .un], rfl, .inl ?_, _, _, rfl, by rw [List.length_append, hT]; rfl, fun x hx => ?_⟩
      · unfold l_L__law_places_1
        refine (app_ok (ds := T.map DP) (d := DP (pmul (padd (at0 O j) (at0 O (j + 1))) (1, 2))) rfl ?_ hz).trans ?_
        · simp only [gSeq, gPar, gPar3, gIfS, gAsg, gNext, gRet, gApp, gOwn, xf, fBin, fUn, fC, fVar, fCall, fCallD, fCons, fNil, fIf, fAnd, fOr, fNot, bOr, bNot, bAnd, bTru, truth, bVal, hName, R.bind, gInt1, gAdd, gSubI, gNeg, gCmp, List.getElem?_cons_succ, List.getElem?_cons_zero, List.set_cons_succ, List.set_cons_zero, Bool.not_true, Bool.not_false, Bool.false_eq_true, if_false, if_true, decide_true, decide_false, fTup, List.length_cons, List.length_nil, Nat.reduceAdd, Nat.reduceLeDiff, es, g1, g2, p1, p2]
        · rw [List.map_append]
          rfl
      · rcases List.mem_append.mp hx with hx | hx
        · exact okT x hx
        · rw [List.mem_singleton.mp hx]
          exact ⟨Num.mono (pmul_num n1.1 half.1) (by omega), Sh _ _ b1.1.1 b2.1.1 b1.2 b2.2⟩)
  rw [Nat.zero_add, List.length_map, List.length_range] at hT
  subst hs5
  have bl := atO (O.length - 1) (by omega)
  have gl := at_ok (l := O) (k := O.length - 1) (by omega)
  have pl := plplus_ok (bl.1.1.mono (show k ≤ 4400 by omega)) ((num_one (k := 1) (by decide)).1.mono (show 1 ≤ 4400 by decide))
  replace pl : F__law_plus [DP (at0 O (O.length - 1)), .tuple [.int 1, .int 1]] = .ok (DP (padd (at0 O (O.length - 1)) (1, 1))) := pl
  refine ⟨O ++ T ++ [padd (at0 O (O.length - 1)) (1, 1)], by simp; omega, fun x hx => ?_, runL_rl (s := [.v (.list (Ls.map fun L => .list (L.map DPc))), .un, .un, .un, .un, .un, .un, .un, .un, .un]) rfl ?_⟩
  · rcases List.mem_append.mp hx with hx | hx
    · rcases List.mem_append.mp hx with hx | hx
      · exact ⟨Num.mono (okO x hx).1 (by omega), (okO x hx).2⟩
      · exact okT x hx
    · rw [List.mem_singleton.mp hx]
      exact ⟨Num.mono (padd_num bl.1.1 (num_one (k := 1) (by decide)).1) (by omega), Sn _ bl.1.1 bl.2⟩
  unfold mL__law_places
  refine seq_step (own_nx (lst_nil _)) ?_
  simp only [List.set_cons_succ, List.set_cons_zero]
  refine seq_step ((for_nx (show sSeq (fVar 0) _ = .ok (Ls.map fun L => PyData.list (L.map DPc)) from rfl)).trans e1) ?_
  refine seq_step (asg_nx (lst_nil _)) ?_
  simp only [List.set_cons_succ, List.set_cons_zero]
  refine seq_step (s1 := [.v (.list (Ls.map fun L => .list (L.map DPc))), .v (.list (F.map DP)), x2, .v (.list (O.map DP)), x4, .un, .un, x7, x8, .un]) ((for_nx (show sSeq (fVar 1) [.v (.list (Ls.map fun L => .list (L.map DPc))), .v (.list (F.map DP)), x2, .v (.list []), .un, .un, .un, x7, .un, .un] = .ok (F.map DP) from rfl)).trans e3) ?_
  refine seq_step (own_nx (lst_nil _)) ?_
  simp only [List.set_cons_succ, List.set_cons_zero]
  have kl : gLen [.list (O.map DP)] = .ok (.int (O.length : Int)) := by rw [len_list, List.length_map]
  have src : sRng2 (fCons (fC (.int 1)) (fCons (fCall gLen (fCons (fVar 3) fNil)) fNil)) [.v (.list (Ls.map fun L => .list (L.map DPc))), .v (.list (F.map DP)), x2, .v (.list (O.map DP)), x4, .o [], .un, x7, x8, .un] = .ok ((List.range (O.length - 1)).map fun (i : Nat) => .int (1 + (i : Int))) := by
    refine rng2_ok (lo := 1) (n := O.length - 1) ?_ (by omega) (by omega)
    simp only [gSeq, gPar, gPar3, gIfS, gAsg, gNext, gRet, gApp, gOwn, xf, fBin, fUn, fC, fVar, fCall, fCallD, fCons, fNil, fIf, fAnd, fOr, fNot, bOr, bNot, bAnd, bTru, truth, bVal, hName, R.bind, gInt1, gAdd, gSubI, gNeg, gCmp, List.getElem?_cons_succ, List.getElem?_cons_zero, List.set_cons_succ, List.set_cons_zero, Bool.not_true, Bool.not_false, Bool.false_eq_true, if_false, if_true, decide_true, decide_false, kl]
    rw [show (O.length : Int) = 1 + ((O.length - 1 : Nat) : Int) by omega]
  refine seq_step ((for_nx src).trans e5) ?_
  have el : (O.length : Int) - 1 = ((O.length - 1 : Nat) : Int) := by omega
  have o1 : ∀ xs ys : List D, xs.length + ys.length ≤ 100000 → gAdd (.list xs) (.list ys) = .ok (.list (xs ++ ys)) := fun xs ys h => if_pos h
  have a1 := o1 (O.map DP) (T.map DP) (by simp; omega)
  have a2 := o1 (O.map DP ++ T.map DP) [DP (padd (at0 O (O.length - 1)) (1, 1))] (by simp; omega)
  rw [← List.map_append] at a1 a2
  have a3 : (List.map DP (O ++ T) ++ [DP (padd (at0 O (O.length - 1)) (1, 1))]) = (O ++ T ++ [padd (at0 O (O.length - 1)) (1, 1)]).map DP := by rw [List.map_append (l₂ := [_])]; rfl
  rw [a3] at a2
  have a2L : gAddL (.list (List.map DP (O ++ T))) (.list [DP (padd (at0 O (O.length - 1)) (1, 1))]) = .ok (.list ((O ++ T ++ [padd (at0 O (O.length - 1)) (1, 1)]).map DP)) := a2
  refine (show gLet 5 _ _ = gRetL _ _ from rfl).trans (retL_rl ?_)
  refine (bin_ok (x := .list ((O ++ T).map DP)) (y := .list [DP (padd (at0 O (O.length - 1)) (1, 1))]) ?_ ?_).trans a2L
  · exact (bin_ok (x := .list (O.map DP)) (y := .list (T.map DP)) rfl rfl).trans a1
  · refine lst_ok ?_ (by simp)
    simp only [gSeq, gPar, gPar3, gIfS, gAsg, gNext, gRet, gApp, gOwn, xf, fBin, fUn, fC, fVar, fCall, fCallD, fCons, fNil, fIf, fAnd, fOr, fNot, bOr, bNot, bAnd, bTru, truth, bVal, hName, R.bind, gInt1, gAdd, gSubI, gNeg, gCmp, List.getElem?_cons_succ, List.getElem?_cons_zero, List.set_cons_succ, List.set_cons_zero, Bool.not_true, Bool.not_false, Bool.false_eq_true, if_false, if_true, decide_true, decide_false, fTup, List.length_cons, List.length_nil, Nat.reduceAdd, Nat.reduceLeDiff, kl, el, gl, pl]



theorem val_neg79 : val ((-1, 1) : Pr) = -1 := by
  have := val_pneg (p := (1, 1))
  rw [val_one] at this
  exact this


/-! ### a line with the starts of another -/
structure FineP (p : Pc) : Prop where
  s : Num 13 p.s
  v : Num 230 p.v
  m : Num 23 p.m
theorem FineP.ok {p : Pc} (h : FineP p) : PcOk 230 p := ⟨h.s.mono (by decide), h.v, h.m.mono (by decide)⟩
theorem neg1_b : Pb 1 ((-1, 1) : Pr) := ⟨by unfold Bn; decide, by unfold Bn; decide, by decide⟩
theorem same79 {l : List D} (h : StOk l) {L : List Pc} (L1 : 1 ≤ L.length) (L4 : L.length ≤ 4) (okL : ∀ p ∈ L, PcOk 110 p) (fL : ∀ p ∈ L, Num 13 p.s ∧ Num 22 p.m) (lk : Links L) (h0 : (head0 L).s = (0, 1)) :
    ∃ (M : List Pc) (l' : List D), StOk l' ∧ M.length = L.length ∧ (∀ p ∈ M, FineP p) ∧ Line 230 M ∧ F__law_same_starts [] l [.list (L.map DPc)] = .ok (.list (M.map DPc), l') := by
  obtain ⟨v0, l1, k1, nv0, e1⟩ := amount_ok h
  have ll : gLen [.list (L.map DPc)] = .ok (.int (L.length : Int)) := by show R.ok _ = _; rw [List.length_map]
  obtain ⟨s', e, F, l2, va, x4, x5, hs, hF, k2, nva, fF, same, lkF⟩ := loop_inv (tg := hName 4) (b := l__law_same_starts_1)
    (fun i s => ∃ (F : List Pc) (l2 : List D) (va : Pr) (x4 x5 : En), s = [.m l2, .v (.list (L.map DPc)), .o (F.map DPc), .v (DP va), x4, x5] ∧ F.length = i ∧ StOk l2 ∧ Num (20 + 51 * i) va ∧ (∀ p ∈ F, Num 13 p.s ∧ Num (20 + 51 * i) p.v ∧ Num 23 p.m) ∧ (∀ (j : Nat) (p q : Pc), F[j]? = some p → L[j]? = some q → p.s = q.s ∧ (1 < L.length → p.m = pmul (-1, 1) q.m)) ∧ Links F) (rng 0 L.length) 0
    [.m l1, .v (.list (L.map DPc)), .o [], .v (DP v0), .un, .un] ⟨[], l1, v0, _, _, rfl, rfl, k1, nv0, fun p hp => (nomatch hp), fun j p q hp => by simp at hp, fun j p q hp => by simp at hp⟩ (by
      rintro i d s hd ⟨F, l2, va, x4, x5, rfl, hF, k2, nva, fF, same, lkF⟩
      obtain ⟨hi, rfl⟩ := rng_get hd
      simp only [Nat.zero_add, Int.zero_add] at hF nva fF ⊢
      obtain ⟨q, hq⟩ : ∃ q, L[i]? = some q := ⟨_, List.getElem?_eq_getElem hi⟩
      have kq := okL q (List.mem_of_getElem? hq)
      obtain ⟨sq, mq⟩ := fL q (List.mem_of_getElem? hq)
      have ix : gIx (.list (L.map DPc)) (.int (i : Int)) = .ok (DPc q) := gIx_list (by rw [List.getElem?_map, hq]; rfl)
      -- the value
      obtain ⟨w, nw, hw, ew⟩ : ∃ w : Pr, Num (20 + 51 * (i + 1)) w ∧ (∀ p, 0 < i → F[i - 1]? = some p → w = tell p q.s) ∧ ∀ x5 : En, gIfS (bVal (fBin (gCmp fun i j => decide (j < i)) (fVar 4) (fC (.int 0)))) (gAsg (fCallD F__law_piece_tells (fCons (fIxO 2 (fBin gSubI (fVar 4) (fC (.int 1)))) (fCons (fBin gIx (fBin gIx (fVar 1) (fVar 4)) (fC (.int 0))) fNil))) (hName 3)) gNext [.m l2, .v (.list (L.map DPc)), .o (F.map DPc), .v (DP va), .v (.int (i : Int)), x5] = .nx [.m l2, .v (.list (L.map DPc)), .o (F.map DPc), .v (DP w), .v (.int (i : Int)), x5] := by
        by_cases h : 0 < i
        · obtain ⟨p, hp⟩ : ∃ p, F[i - 1]? = some p := ⟨_, List.getElem?_eq_getElem (by omega)⟩
          obtain ⟨ps, pv, pm⟩ := fF p (List.mem_of_getElem? hp)
          have kp : PcOk 700 p := ⟨ps.mono (by decide), pv.mono (by omega), pm.mono (by decide)⟩
          have t := ltold_ok kp (x := q.s) (sq.1.mono (by decide))
          have nt : Num (20 + 51 * (i + 1)) (tell p q.s) := (padd_num pv.1 (pmul_b pm.1 (padd_b sq.1 (pneg_b ps.1)))).mono (by omega)
          have ip : gIx (.list (F.map DPc)) (.int ((i : Int) - 1)) = .ok (DPc p) := by
            rw [show (i : Int) - 1 = ((i - 1 : Nat) : Int) by omega]
            exact gIx_list (by rw [List.getElem?_map, hp]; rfl)
          have d : decide ((0 : Int) < (i : Int)) = true := decide_eq_true (by omega)
          exact ⟨tell p q.s, nt, fun p' _ hp' => by rw [hp] at hp'; cases hp'; rfl, fun x5 => by simp only [gSeq, gPar, gPar3, gIfS, gAsg, gNext, gRet, gApp, gOwn, xf, fBin, fUn, fC, fVar, fCall, fCallD, fCons, fNil, fIf, fAnd, fOr, fNot, bOr, bNot, bAnd, bTru, truth, bVal, hName, R.bind, gInt1, gAdd, gSubI, gNeg, gCmp, List.getElem?_cons_succ, List.getElem?_cons_zero, List.set_cons_succ, List.set_cons_zero, Bool.not_true, Bool.not_false, Bool.false_eq_true, if_false, if_true, decide_true, decide_false, fIxO, d, ip, ix, DPc_0, t]⟩
        · have d : decide ((0 : Int) < (i : Int)) = false := decide_eq_false (by omega)
          exact ⟨va, nva.mono (by omega), fun p h' => absurd h' h, fun x5 => by simp only [gSeq, gPar, gPar3, gIfS, gAsg, gNext, gRet, gApp, gOwn, xf, fBin, fUn, fC, fVar, fCall, fCallD, fCons, fNil, fIf, fAnd, fOr, fNot, bOr, bNot, bAnd, bTru, truth, bVal, hName, R.bind, gInt1, gAdd, gSubI, gNeg, gCmp, List.getElem?_cons_succ, List.getElem?_cons_zero, List.set_cons_succ, List.set_cons_zero, Bool.not_true, Bool.not_false, Bool.false_eq_true, if_false, if_true, decide_true, decide_false, d]⟩
      -- the slope
      have tm : F__law_times [.tuple [.int (-1), .int 1], DP q.m] = .ok (DP (pmul (-1, 1) q.m)) := pltimes_ok (neg1_b.mono (show 1 ≤ 4400 by decide)) (mq.1.mono (show 22 ≤ 4400 by decide))
      have nm : Num 23 (pmul (-1, 1) q.m) := pmul_num neg1_b mq.1
      obtain ⟨r, l3, k3, c3, e3⟩ := draw_ok k2 (m := 4) (by decide) (by decide)
      replace e3 : F__law_draw [] l2 [.int 4] = .ok (.int (r : Int), l3) := e3
      obtain ⟨sl, l4, k4, ns, hsl, es⟩ : ∃ (sl : Pr) (l4 : List D), StOk l4 ∧ Num 23 sl ∧ (1 < L.length → sl = pmul (-1, 1) q.m) ∧ gIfX (xAnd (xVal (xBin gEq (xCallM 0 F__law_draw (xHere (xE (fCons (fC (.int 4)) fNil)))) (xE (fC (.int 0))))) (xE (bVal (fBin gEq (fCall gLen (fCons (fVar 1) fNil)) (fC (.int 1)))))) (gAsgX (xCallM 0 F__law_amount (xHere (xE fNil))) (hName 5)) gNext [.m l2, .v (.list (L.map DPc)), .o (F.map DPc), .v (DP w), .v (.int (i : Int)), .v (DP (pmul (-1, 1) q.m))] = .nx [.m l4, .v (.list (L.map DPc)), .o (F.map DPc), .v (DP w), .v (.int (i : Int)), .v (DP sl)] := by
        by_cases hr : (r : Int) = 0
        · by_cases h1 : (L.length : Int) = 1
          · obtain ⟨ot, l4, k4, no, e4⟩ := amount_ok k3
            refine ⟨ot, l4, k4, no.mono (by decide), fun z => by omega, ?_⟩
            simp only [gSeq, gPar, gPar3, gIfS, gAsg, gNext, gRet, gApp, gOwn, xf, fBin, fUn, fC, fVar, fCall, fCallD, fCons, fNil, fIf, fAnd, fOr, fNot, bOr, bNot, bAnd, bTru, truth, bVal, hName, R.bind, gInt1, gAdd, gSubI, gNeg, gCmp, List.getElem?_cons_succ, List.getElem?_cons_zero, List.set_cons_succ, List.set_cons_zero, Bool.not_true, Bool.not_false, Bool.false_eq_true, if_false, if_true, decide_true, decide_false, gIfX, xAnd, xVal, xBin, xCallM, isList, xHere, xE, e3, gEq_i, decide_eq_true hr, ll, decide_eq_true h1, gAsgX, e4]
          · refine ⟨_, l3, k3, nm, fun _ => rfl, ?_⟩
            simp only [gSeq, gPar, gPar3, gIfS, gAsg, gNext, gRet, gApp, gOwn, xf, fBin, fUn, fC, fVar, fCall, fCallD, fCons, fNil, fIf, fAnd, fOr, fNot, bOr, bNot, bAnd, bTru, truth, bVal, hName, R.bind, gInt1, gAdd, gSubI, gNeg, gCmp, List.getElem?_cons_succ, List.getElem?_cons_zero, List.set_cons_succ, List.set_cons_zero, Bool.not_true, Bool.not_false, Bool.false_eq_true, if_false, if_true, decide_true, decide_false, gIfX, xAnd, xVal, xBin, xCallM, isList, xHere, xE, e3, gEq_i, decide_eq_true hr, ll, decide_eq_false h1]
        · refine ⟨_, l3, k3, nm, fun _ => rfl, ?_⟩
          simp only [gSeq, gPar, gPar3, gIfS, gAsg, gNext, gRet, gApp, gOwn, xf, fBin, fUn, fC, fVar, fCall, fCallD, fCons, fNil, fIf, fAnd, fOr, fNot, bOr, bNot, bAnd, bTru, truth, bVal, hName, R.bind, gInt1, gAdd, gSubI, gNeg, gCmp, List.getElem?_cons_succ, List.getElem?_cons_zero, List.set_cons_succ, List.set_cons_zero, Bool.not_true, Bool.not_false, Bool.false_eq_true, if_false, if_true, decide_true, decide_false, gIfX, xAnd, xVal, xBin, xCallM, isList, xHere, xE, e3, gEq_i, decide_eq_false hr]
      have hz : (F.map DPc).length < 100000 := by rw [List.length_map]; omega
      have ng : gNeg (.int 1) = .ok (.int (-1)) := rfl
      refine ⟨[.m l2, .v (.list (L.map DPc)), .o (F.map DPc), .v (DP va), .v (.int (i : Int)), x5], [.m l4, .v (.list (L.map DPc)), .o ((F ++ [Pc.mk q.s w sl]).map DPc), .v (DP w), .v (.int (i : Int)), .v (DP sl)], rfl, .inl ?_, F ++ [Pc.mk q.s w sl], l4, w, _, _, rfl, by rw [List.length_append, hF]; rfl, k4, nw, fun p hp => ?_, fun j p u hp hu => ?_, ?_⟩
      · unfold l__law_same_starts_1
        refine seq_step (ew _) ?_
        refine seq_step (s1 := [.m l2, .v (.list (L.map DPc)), .o (F.map DPc), .v (DP w), .v (.int (i : Int)), .v (DP (pmul (-1, 1) q.m))]) (by simp only [gSeq, gPar, gPar3, gIfS, gAsg, gNext, gRet, gApp, gOwn, xf, fBin, fUn, fC, fVar, fCall, fCallD, fCons, fNil, fIf, fAnd, fOr, fNot, bOr, bNot, bAnd, bTru, truth, bVal, hName, R.bind, gInt1, gAdd, gSubI, gNeg, gCmp, List.getElem?_cons_succ, List.getElem?_cons_zero, List.set_cons_succ, List.set_cons_zero, Bool.not_true, Bool.not_false, Bool.false_eq_true, if_false, if_true, decide_true, decide_false, fTup, List.length_cons, List.length_nil, Nat.reduceAdd, Nat.reduceLeDiff, ng, ix, DPc_2, tm]) ?_
        refine seq_step es ?_
        refine (app_ok (ds := F.map DPc) (d := DPc (Pc.mk q.s w sl)) rfl ?_ hz).trans ?_
        · simp only [gSeq, gPar, gPar3, gIfS, gAsg, gNext, gRet, gApp, gOwn, xf, fBin, fUn, fC, fVar, fCall, fCallD, fCons, fNil, fIf, fAnd, fOr, fNot, bOr, bNot, bAnd, bTru, truth, bVal, hName, R.bind, gInt1, gAdd, gSubI, gNeg, gCmp, List.getElem?_cons_succ, List.getElem?_cons_zero, List.set_cons_succ, List.set_cons_zero, Bool.not_true, Bool.not_false, Bool.false_eq_true, if_false, if_true, decide_true, decide_false, fTup, List.length_cons, List.length_nil, Nat.reduceAdd, Nat.reduceLeDiff, ix, DPc_0]
          rfl
        · rw [List.map_append]
          rfl
      · rcases List.mem_append.mp hp with hp | hp
        · obtain ⟨a, b, c⟩ := fF p hp
          exact ⟨a, b.mono (by omega), c⟩
        · rw [List.mem_singleton.mp hp]
          exact ⟨sq, nw, ns⟩
      · by_cases hj : j < F.length
        · rw [List.getElem?_append_left hj] at hp
          exact same j p u hp hu
        · have hj2 : j = F.length := by
            have := (List.getElem?_eq_some_iff.mp hp).1
            simp at this
            omega
          subst hj2
          rw [List.getElem?_append_right (Nat.le_refl _), Nat.sub_self] at hp
          cases hp
          rw [hF, hq] at hu
          cases hu
          exact ⟨rfl, hsl⟩
      · by_cases h : 0 < i
        · obtain ⟨p, hp⟩ : ∃ p, F[i - 1]? = some p := ⟨_, List.getElem?_eq_getElem (by omega)⟩
          obtain ⟨u, hu⟩ : ∃ u, L[i - 1]? = some u := ⟨_, List.getElem?_eq_getElem (by omega)⟩
          obtain ⟨l1', l2', l3'⟩ := lk (i - 1) u q hu (by rw [show i - 1 + 1 = i by omega]; exact hq)
          obtain ⟨s1', s2'⟩ := same (i - 1) p u hp hu
          obtain ⟨ps, pv, pm⟩ := fF p (List.mem_of_getElem? hp)
          have ku := fL u (List.mem_of_getElem? hu)
          have kp : PcOk 700 p := ⟨ps.mono (by decide), pv.mono (by omega), pm.mono (by decide)⟩
          refine links_snoc lkF (i := i - 1) (by omega) hp (by rw [s1']; exact l1') (fun z => ?_) ?_
          · have h1 : 1 < L.length := by omega
            replace z : p.m = sl := z
            rw [s2' h1, hsl h1] at z
            have z2 := congrArg val z
            rw [val_pmul neg1_b ku.2.1, val_pmul neg1_b mq.1, show val (-1, 1) = -1 from val_neg79] at z2
            refine l2' (low_inj ku.2.2 mq.2 ?_)
            grind
          · show tv p (val q.s) = val w
            rw [hw p h hp, val_tell kp sq.1]
        · have : F = [] := List.length_eq_zero_iff.mp (by omega)
          rw [this]
          exact links_one _)
  rw [rng_len, Nat.zero_add] at hF nva fF
  subst hs
  have fm : ∀ p ∈ F, FineP p := fun p hp => by
    obtain ⟨a, b, c⟩ := fF p hp
    exact ⟨a, b.mono (by omega), c⟩
  have neF : F ≠ [] := fun z => by rw [z] at hF; simp at hF; omega
  have hd : (head0 F).s = (0, 1) := by
    cases F with
    | nil => exact absurd rfl neF
    | cons p r =>
      cases L with
      | nil => simp at L1
      | cons q t =>
        obtain ⟨a, _⟩ := same 0 p q rfl rfl
        show p.s = (0, 1)
        rw [a]
        exact h0
  refine ⟨F, l2, k2, hF, fm, line_of neF (fun p hp => (fm p hp).ok) hd lkF, outM (s := [.m l, .v (.list (L.map DPc)), .un, .un, .un, .un]) (as := []) (bs := [.list (L.map DPc)]) rfl ?_⟩
  unfold m__law_same_starts
  refine seq_step (s1 := [.m l, .v (.list (L.map DPc)), .o [], .un, .un, .un]) rfl ?_
  refine seq_step (s1 := [.m l1, .v (.list (L.map DPc)), .o [], .v (DP v0), .un, .un]) (by simp only [gSeq, gPar, gPar3, gIfS, gAsg, gNext, gRet, gApp, gOwn, xf, fBin, fUn, fC, fVar, fCall, fCallD, fCons, fNil, fIf, fAnd, fOr, fNot, bOr, bNot, bAnd, bTru, truth, bVal, hName, R.bind, gInt1, gAdd, gSubI, gNeg, gCmp, List.getElem?_cons_succ, List.getElem?_cons_zero, List.set_cons_succ, List.set_cons_zero, Bool.not_true, Bool.not_false, Bool.false_eq_true, if_false, if_true, decide_true, decide_false, gAsgX, xCallM, isList, xHere, xE, e1]) ?_
  refine seq_step ((for_nx (rng1_ok (n := L.length) (by simp only [gSeq, gPar, gPar3, gIfS, gAsg, gNext, gRet, gApp, gOwn, xf, fBin, fUn, fC, fVar, fCall, fCallD, fCons, fNil, fIf, fAnd, fOr, fNot, bOr, bNot, bAnd, bTru, truth, bVal, hName, R.bind, gInt1, gAdd, gSubI, gNeg, gCmp, List.getElem?_cons_succ, List.getElem?_cons_zero, List.set_cons_succ, List.set_cons_zero, Bool.not_true, Bool.not_false, Bool.false_eq_true, if_false, if_true, decide_true, decide_false, ll]) (by omega))).trans e) ?_
  simp only [gSeq, gPar, gPar3, gIfS, gAsg, gNext, gRet, gApp, gOwn, xf, fBin, fUn, fC, fVar, fCall, fCallD, fCons, fNil, fIf, fAnd, fOr, fNot, bOr, bNot, bAnd, bTru, truth, bVal, hName, R.bind, gInt1, gAdd, gSubI, gNeg, gCmp, List.getElem?_cons_succ, List.getElem?_cons_zero, List.set_cons_succ, List.set_cons_zero, Bool.not_true, Bool.not_false, Bool.false_eq_true, if_false, if_true, decide_true, decide_false, gLet, gRetM, xE]


theorem fine_DPc {k : Nat} {p : Pc} (h : PcOk k p) (hk : 0 < k) (hk2 : k ≤ 1900) : Fine 2 ((2 * k + 15) * 3 + 3) (DPc p) := by
  refine (fine_tup (k := 1) (B := 2 * k + 13) (L := [DP p.s, DP p.v, DP p.m]) fun d hd => ?_).mono (Nat.le_refl _) (by simp)
  simp only [List.mem_cons, List.not_mem_nil, or_false] at hd
  rcases hd with rfl | rfl | rfl
  · exact fine_DP h.s.1 hk hk2
  · exact fine_DP h.v.1 hk hk2
  · exact fine_DP h.m.1 hk hk2


/-! ### the law -/
theorem links_of : ∀ {r : List Pc} {f : Pc}, Lk f r → Links (f :: r)
  | [], f, _ => links_one f
  | p :: r, f, h => fun i u v hu hv => by
    cases i with
    | zero =>
      cases hu
      cases hv
      exact ⟨h.1, h.2.1, h.2.2.1⟩
    | succ i => exact links_of h.2.2.2 i u v hu hv
theorem Line.links {k : Nat} {L : List Pc} (h : Line k L) : Links L := by
  have e := h.eq
  rw [e]
  exact links_of h.lk
theorem Line.to {k m : Nat} {L : List Pc} (h : Line k L) (ok : ∀ p ∈ L, PcOk m p) : Line m L := ⟨h.ne, ok, h.s0, h.lk⟩
theorem joinT_len : ∀ (R : List Pc) (g : Pc), (joinT g R).length ≤ R.length
  | [], _ => Nat.le_refl _
  | c :: r, g => by
    unfold joinT
    split
    · exact Nat.le_succ_of_le (joinT_len r g)
    · exact Nat.succ_le_succ (joinT_len r c)
theorem piece_mem {L : List Pc} (ne : L ≠ []) (s : Pr) : pieceAt L s ∈ L := by
  rcases sel_mem s L (head0 L) with h | h
  · show sel s (head0 L) L ∈ L
    rw [h]
    exact head_mem ne
  · exact h
theorem fineTell {p : Pc} (h : FineP p) {s : Pr} (hs : Num 13 s) : Num 281 (tell p s) := padd_num h.v.1 (pmul_b h.m.1 (padd_b hs.1 (pneg_b h.s.1)))
theorem fineSum {L M : List Pc} (nL : L ≠ []) (nM : M ≠ []) (fL : ∀ p ∈ L, FineP p) (fM : ∀ p ∈ M, FineP p) {s : Pr} (hs : Num 13 s) : PcOk 700 (sumAt L M s) := by
  have p := fL _ (piece_mem nL s)
  have q := fM _ (piece_mem nM s)
  exact ⟨hs.mono (by decide), (padd_num (fineTell p hs).1 (fineTell q hs).1).mono (by decide), (padd_num p.m.1 q.m.1).mono (by decide)⟩
theorem padd_swap {a b : Nat} {p q : Pr} (h : Pb a p) (g : Pb b q) : padd p q = padd q p := low_inj (padd_num h g).2 (padd_num g h).2 (by
  rw [val_padd h g, val_padd g h]
  grind)
theorem sum_swap {k m : Nat} {L M : List Pc} (hL : Line k L) (hM : Line k M) {s : Pr} (hs : Num m s) : sumAt M L s = sumAt L M s := by
  have p := hL.piece_ok s
  have q := hM.piece_ok s
  show Pc.mk s (padd (tell (pieceAt M s) s) (tell (pieceAt L s) s)) (padd (pieceAt M s).m (pieceAt L s).m) = Pc.mk s (padd (tell (pieceAt L s) s) (tell (pieceAt M s) s)) (padd (pieceAt L s).m (pieceAt M s).m)
  rw [padd_swap (tell_num q hs.1).1 (tell_num p hs.1).1, padd_swap q.m.1 p.m.1]
theorem gNeS_same79 (x : Str) : gNeS (.str x) (.str x) = .ok (.bool false) := by
  unfold gNeS
  simp
theorem shaped_DPcs (L : List Pc) : SeqAt.shaped (.list (L.map DPc)) = true := shaped_list fun d hd => by
  obtain ⟨p, hp, rfl⟩ := List.mem_map.mp hd
  exact ⟨by simp [DPc, DP, N2, PyData.canLay0, PyData.canLayAll0], by simp [DPc, DP, N2, PyData.depth, PyData.depthAll]⟩
theorem prD_all (X : List Pr) : (X.map DP).all prD = true := by
  rw [List.all_map, List.all_eq_true]
  intro x _
  rfl
theorem law_true (ns : List Int) (hl : ns.length ≤ 63) : F_law [.list (ns.map .int)] = .ok (.bool true) := by
  have st0 : StOk [.list (ns.map .int), .int 0, .int 0] := ⟨ns, 0, 0, rfl, by decide, by decide⟩
  obtain ⟨L, l1, k1, L1, L4, okL, fL0, lnL0, eL⟩ := drawnL_ok st0
  obtain ⟨M0, l2, k2, M01, M04, okM0, fM0, lnM0, eM0⟩ := drawnL_ok k1
  have fine : ∀ {N : List Pc}, (∀ p ∈ N, PcOk 110 p) → (∀ p ∈ N, Num 13 p.s ∧ Num 22 p.m) → ∀ p ∈ N, FineP p := fun a b p hp => ⟨(b p hp).1, (a p hp).v.mono (by decide), (b p hp).2.mono (by decide)⟩
  have fL := fine okL fL0
  have lnL : Line 230 L := lnL0.to fun p hp => (fL p hp).ok
  obtain ⟨r, l3, k3, c3, e3⟩ := draw_ok k2 (m := 4) (by decide) (by decide)
  replace e3 : F__law_draw [] l2 [.int 4] = .ok (.int (r : Int), l3) := e3
  obtain ⟨M, l4, k4, M4, fM, lnM, eM⟩ : ∃ (M : List Pc) (l4 : List D), StOk l4 ∧ M.length ≤ 4 ∧ (∀ p ∈ M, FineP p) ∧ Line 230 M ∧
      gIfX (xVal (xBin gEq (xCallM 1 F__law_draw (xHere (xE (fCons (fC (.int 4)) fNil)))) (xE (fC (.int 0))))) (gAsgX (xCallM 1 F__law_same_starts (xHere (xE (fCons (fVar 7) fNil)))) (hName 8)) gNext [.v (.list (ns.map .int)), .o l2, .un, .un, .un, .un, .un, .v (.list (L.map DPc)), .v (.list (M0.map DPc))] = .nx [.v (.list (ns.map .int)), .o l4, .un, .un, .un, .un, .un, .v (.list (L.map DPc)), .v (.list (M.map DPc))] := by
    by_cases hr : (r : Int) = 0
    · obtain ⟨M, l4, k4, lM, fM, lnM, e4⟩ := same79 k3 L1 L4 okL fL0 lnL0.links lnL0.s0
      refine ⟨M, l4, k4, by omega, fM, lnM, ?_⟩
      simp only [gSeq, gPar, gPar3, gIfS, gAsg, gNext, gRet, gApp, gOwn, xf, fBin, fUn, fC, fVar, fCall, fCallD, fCons, fNil, fIf, fAnd, fOr, fNot, bOr, bNot, bAnd, bTru, truth, bVal, hName, R.bind, gInt1, gAdd, gSubI, gNeg, gCmp, List.getElem?_cons_succ, List.getElem?_cons_zero, List.set_cons_succ, List.set_cons_zero, Bool.not_true, Bool.not_false, Bool.false_eq_true, if_false, if_true, decide_true, decide_false, gIfX, xVal, xBin, xCallM, isList, xHere, xE, e3, gEq_i, decide_eq_true hr, gAsgX, e4]
    · refine ⟨M0, l3, k3, M04, fine okM0 fM0, lnM0.to fun p hp => (fine okM0 fM0 p hp).ok, ?_⟩
      simp only [gSeq, gPar, gPar3, gIfS, gAsg, gNext, gRet, gApp, gOwn, xf, fBin, fUn, fC, fVar, fCall, fCallD, fCons, fNil, fIf, fAnd, fOr, fNot, bOr, bNot, bAnd, bTru, truth, bVal, hName, R.bind, gInt1, gAdd, gSubI, gNeg, gCmp, List.getElem?_cons_succ, List.getElem?_cons_zero, List.set_cons_succ, List.set_cons_zero, Bool.not_true, Bool.not_false, Bool.false_eq_true, if_false, if_true, decide_true, decide_false, gIfX, xVal, xBin, xCallM, isList, xHere, xE, e3, gEq_i, decide_eq_false hr]
  obtain ⟨n, l5, k5, nn, e5⟩ := amount_ok k4
  obtain ⟨s0, S0, T, mem⟩ := two_ok (by decide) lnL lnM (by omega) (by omega)
  obtain ⟨s1, S1, T', mem'⟩ := two_ok (by decide) lnM lnL (by omega) (by omega)
  have n13 : ∀ t ∈ s0 :: S0, Num 13 t := fun t ht => by
    rcases (mem t).mp ht with q | q
    · obtain ⟨p, hp, rfl⟩ := List.mem_map.mp q
      exact (fL p hp).s
    · obtain ⟨p, hp, rfl⟩ := List.mem_map.mp q
      exact (fM p hp).s
  have hK : ∀ t ∈ s0 :: S0, PcOk 700 (sumAt L M t) := fun t ht => fineSum lnL.ne lnM.ne fL fM (n13 t ht)
  have lnA := addL_line lnL lnM T.u T.hn T.z0 T.aL T.aM hK
  have tellA : ∀ {a : Nat} {x : Pr}, Num a x → 0 ≤ val x → tellL (addL L M s0 S0) x = padd (tellL L x) (tellL M x) := fun hx h0 => addL_tell lnL lnM T.u T.hn T.z0 T.aL T.aM hK hx h0
  have lnS : Line 250 (sclL L n) := sclL_line lnL nn.1
  have tellS : ∀ {a : Nat} {x : Pr}, Num a x → 0 ≤ val x → tellL (sclL L n) x = pmul n (tellL L x) := fun hx h0 => sclL_tell lnL nn.1 hx h0
  have eA := addL_ok T (by decide) (by omega) (by omega)
  have eB := add_ok T' (by decide) (by omega) (by omega)
  have eS := sclFL_ok lnL nn.1 (by decide) (by decide) (by omega)
  -- the sum the other way round
  have eSS : s0 :: S0 = s1 :: S1 := pw_unique (of_up T.u) (of_up T'.u) fun x => by
    rw [mem, mem']
    exact Or.comm
  have swap : addL M L s1 S1 = addL L M s0 S0 := by
    obtain ⟨a, b⟩ := List.cons.inj eSS
    subst a b
    have h0 := sum_swap lnL lnM (T.hn s0 List.mem_cons_self)
    have h1 : S0.map (sumAt M L) = S0.map (sumAt L M) := List.map_congr_left fun t ht => sum_swap lnL lnM (T.hn t (List.mem_cons_of_mem _ ht))
    unfold addL
    rw [h0, h1]
  rw [swap] at eB
  have szA : (addL L M s0 S0).length ≤ 9 := by
    have a := joinT_len (S0.map (sumAt L M)) (sumAt L M s0)
    have b := T.sz
    rw [List.length_map] at a
    show (joinT _ _).length + 1 ≤ 9
    omega
  have szS : (sclL L n).length ≤ 9 := by
    have a := joinT_len (L.tail.map (sclP n)) (sclP n (head0 L))
    rw [List.length_map, List.length_tail] at a
    show (joinT _ _).length + 1 ≤ 9
    omega
  have okA7 := lnA.ok
  have okS7 : ∀ p ∈ sclL L n, PcOk 700 p := fun p hp => (lnS.ok p hp).mono (by decide)
  have okL7 : ∀ p ∈ L, PcOk 700 p := fun p hp => (lnL.ok p hp).mono (by decide)
  have okM7 : ∀ p ∈ M, PcOk 700 p := fun p hp => (lnM.ok p hp).mono (by decide)
  have bA : F__law_is_line [.list ((addL L M s0 S0).map DPc)] = .ok (.bool true) := by rw [lisline_ok okA7 (by omega), lnA.isB]
  have bS : F__law_is_line [.list ((sclL L n).map DPc)] = .ok (.bool true) := by rw [lisline_ok okS7 (by omega), lnS.isB]
  -- starts of the three
  have stA : ∀ p ∈ addL L M s0 S0, Num 14 p.s ∧ 0 ≤ val p.s := fun p hp => by
    refine ⟨?_, lnA.pos p hp⟩
    rcases List.mem_cons.mp hp with q | q
    · rw [q]
      exact (n13 s0 List.mem_cons_self).mono (by decide)
    · obtain ⟨t, ht, rfl⟩ := List.mem_map.mp (joinT_mem q)
      exact (n13 t (List.mem_cons_of_mem _ ht)).mono (by decide)
  have stS : ∀ p ∈ sclL L n, Num 14 p.s ∧ 0 ≤ val p.s := fun p hp => by
    refine ⟨?_, lnS.pos p hp⟩
    have : ∃ q ∈ L, p = sclP n q := by
      rcases List.mem_cons.mp hp with h | h
      · exact ⟨_, head_mem lnL.ne, h⟩
      · obtain ⟨q, hq, rfl⟩ := List.mem_map.mp (joinT_mem h)
        exact ⟨q, List.mem_of_mem_tail hq, rfl⟩
    obtain ⟨q, hq, rfl⟩ := this
    exact (fL q hq).s.mono (by decide)
  have stL : ∀ p ∈ L, Num 14 p.s ∧ 0 ≤ val p.s := fun p hp => ⟨(fL p hp).s.mono (by decide), lnL.pos p hp⟩
  have stM : ∀ p ∈ M, Num 14 p.s ∧ 0 ≤ val p.s := fun p hp => ⟨(fM p hp).s.mono (by decide), lnM.pos p hp⟩
  have half : Pb 2 ((1, 2) : Pr) := ⟨by unfold Bn; decide, by unfold Bn; decide, by decide⟩
  have hv : 0 ≤ val ((1, 2) : Pr) := by
    have lo : Low ((1, 2) : Pr) := ⟨by decide, by decide⟩
    have h := lt_val low_one lo
    rw [show lt ((0, 1) : Pr) (1, 2) = true from by decide, val_zero] at h
    have := of_decide_eq_true h.symm
    grind
  have Sh : ∀ a b, Pb 14 a → Pb 14 b → 0 ≤ val a → 0 ≤ val b → 0 ≤ val (pmul (padd a b) (1, 2)) := fun a b ha hb h1 h2 => by
    rw [val_pmul (padd_b ha hb) half, val_padd ha hb]
    exact Rat.mul_nonneg (by grind) hv
  have Sn : ∀ a, Pb 14 a → 0 ≤ val a → 0 ≤ val (padd a (1, 1)) := fun a ha h1 => by
    rw [val_padd ha (num_one (k := 1) (by decide)).1, val_one]
    grind
  obtain ⟨X, hX, okX, eX⟩ := places79_ok (k := 14) (by decide) (S := fun x => 0 ≤ val x) Sh Sn (Ls := [L, M, addL L M s0 S0]) (fun z => nomatch z) (by simp) (fun N hN => by
    simp only [List.mem_cons, List.not_mem_nil, or_false] at hN
    rcases hN with rfl | rfl | rfl
    · exact ⟨lnL.ne, by omega, stL⟩
    · exact ⟨lnM.ne, by omega, stM⟩
    · exact ⟨lnA.ne, by omega, stA⟩)
  replace eX : FL__law_places [.list [.list (L.map DPc), .list (M.map DPc), .list ((addL L M s0 S0).map DPc)]] = .ok (X.map DP) := eX
  obtain ⟨Y, hY, okY, eY⟩ := places79_ok (k := 14) (by decide) (S := fun x => 0 ≤ val x) Sh Sn (Ls := [L, sclL L n]) (fun z => nomatch z) (by simp) (fun N hN => by
    simp only [List.mem_cons, List.not_mem_nil, or_false] at hN
    rcases hN with rfl | rfl
    · exact ⟨lnL.ne, by omega, stL⟩
    · exact ⟨lnS.ne, by omega, stS⟩)
  replace eY : FL__law_places [.list [.list (L.map DPc), .list ((sclL L n).map DPc)]] = .ok (Y.map DP) := eY
  -- what each place shows
  have lt7 : ∀ {N : List Pc}, N ≠ [] → (∀ p ∈ N, PcOk 700 p) → ∀ {x : Pr}, Num 31 x → F__law_tells [.list (N.map DPc), DP x] = .ok (DP (tellL N x)) := fun {N} ne ok {x} hx => ltells_ok ne ok (hx.1.mono (by decide))
  have turnX : ∀ x : Pr, Num 31 x → 0 ≤ val x → F__law_tells [.list ((addL L M s0 S0).map DPc), DP x] = .ok (DP (padd (tellL L x) (tellL M x))) ∧ F__law_plus [DP (tellL L x), DP (tellL M x)] = .ok (DP (padd (tellL L x) (tellL M x))) := fun x hx h0 => by
    refine ⟨by rw [lt7 lnA.ne okA7 hx, tellA hx h0], plplus_ok ((tell_num (lnL.piece_ok x) hx.1).1.mono (by decide)) ((tell_num (lnM.piece_ok x) hx.1).1.mono (by decide))⟩
  have turnY : ∀ x : Pr, Num 31 x → 0 ≤ val x → F__law_tells [.list ((sclL L n).map DPc), DP x] = .ok (DP (pmul n (tellL L x))) ∧ F__law_times [DP n, DP (tellL L x)] = .ok (DP (pmul n (tellL L x))) := fun x hx h0 => by
    refine ⟨by rw [lt7 lnS.ne okS7 hx, tellS hx h0], pltimes_ok (nn.1.mono (by decide)) ((tell_num (lnL.piece_ok x) hx.1).1.mono (by decide))⟩
  -- what is shown
  have fN : ∀ {N : List Pc}, (∀ p ∈ N, PcOk 230 p) → N.length ≤ 4 → Fine 3 6000 (.list (N.map DPc)) := fun ok h4 => by
    refine (fine_list (k := 2) (B := (2 * 230 + 15) * 3 + 3) fun d hd => ?_).mono (by decide) ?_
    · obtain ⟨p, hp, rfl⟩ := List.mem_map.mp hd
      exact fine_DPc (ok p hp) (by decide) (by decide)
    · rw [List.length_map]
      omega
  have fT : Fine 4 20000 (.tuple [.list (L.map DPc), .list (M.map DPc)]) := (fine_tup (k := 3) (B := 6000) fun d hd => by
    simp only [List.mem_cons, List.not_mem_nil, or_false] at hd
    rcases hd with rfl | rfl
    · exact fN lnL.ok L4
    · exact fN lnM.ok M4).mono (by decide) (by simp)
  have rp := repr_fine fT rfl (by decide) (by decide)
  generalize (PyData.tuple [.list (L.map DPc), .list (M.map DPc)]).shown = Tx at rp
  have q1 := gEqS_same Tx
  have q2 := gNeS_same79 Tx
  have q3 : gNe (.list ((addL L M s0 S0).map DPc)) (.list ((addL L M s0 S0).map DPc)) = .ok (.bool false) := gNe_same (shaped_DPcs _)
  generalize addL L M s0 S0 = A at *
  generalize sclL L n = Z at *
  refine run_rt (s := [.v (.list (ns.map .int)), .un, .un, .un, .un, .un, .un, .un, .un]) rfl ?_
  unfold m_law
  refine seq_step (s1 := [.v (.list (ns.map .int)), .o [.list (ns.map .int), .int 0, .int 0], .un, .un, .un, .un, .un, .un, .un]) (by simp only [gSeq, gPar, gPar3, gIfS, gAsg, gNext, gRet, gApp, gOwn, xf, fBin, fUn, fC, fVar, fCall, fCallD, fCons, fNil, fIf, fAnd, fOr, fNot, bOr, bNot, bAnd, bTru, truth, bVal, hName, R.bind, gInt1, gAdd, gSubI, gNeg, gCmp, List.getElem?_cons_succ, List.getElem?_cons_zero, List.set_cons_succ, List.set_cons_zero, Bool.not_true, Bool.not_false, Bool.false_eq_true, if_false, if_true, decide_true, decide_false, fLst, gList, List.length_cons, List.length_nil, Nat.reduceAdd, Nat.reduceLeDiff]) ?_
  refine seq_step (s1 := [.v (.list (ns.map .int)), .o l2, .un, .un, .un, .un, .un, .v (.list (L.map DPc)), .v (.list (M0.map DPc))]) (by simp only [gSeq, gPar, gPar3, gIfS, gAsg, gNext, gRet, gApp, gOwn, xf, fBin, fUn, fC, fVar, fCall, fCallD, fCons, fNil, fIf, fAnd, fOr, fNot, bOr, bNot, bAnd, bTru, truth, bVal, hName, R.bind, gInt1, gAdd, gSubI, gNeg, gCmp, List.getElem?_cons_succ, List.getElem?_cons_zero, List.set_cons_succ, List.set_cons_zero, Bool.not_true, Bool.not_false, Bool.false_eq_true, if_false, if_true, decide_true, decide_false, gParX, xCons, xCallM, isList, xHere, xE, eL, eM0]) ?_
  refine seq_step eM ?_
  refine seq_step (s1 := [.v (.list (ns.map .int)), .o l5, .v (DP n), .un, .un, .un, .un, .v (.list (L.map DPc)), .v (.list (M.map DPc))]) (by simp only [gSeq, gPar, gPar3, gIfS, gAsg, gNext, gRet, gApp, gOwn, xf, fBin, fUn, fC, fVar, fCall, fCallD, fCons, fNil, fIf, fAnd, fOr, fNot, bOr, bNot, bAnd, bTru, truth, bVal, hName, R.bind, gInt1, gAdd, gSubI, gNeg, gCmp, List.getElem?_cons_succ, List.getElem?_cons_zero, List.set_cons_succ, List.set_cons_zero, Bool.not_true, Bool.not_false, Bool.false_eq_true, if_false, if_true, decide_true, decide_false, gAsgX, xCallM, isList, xHere, xE, e5]) ?_
  refine seq_step (s1 := [.v (.list (ns.map .int)), .o l5, .v (DP n), .v (.str Tx), .un, .un, .un, .v (.list (L.map DPc)), .v (.list (M.map DPc))]) (by simp only [gSeq, gPar, gPar3, gIfS, gAsg, gNext, gRet, gApp, gOwn, xf, fBin, fUn, fC, fVar, fCall, fCallD, fCons, fNil, fIf, fAnd, fOr, fNot, bOr, bNot, bAnd, bTru, truth, bVal, hName, R.bind, gInt1, gAdd, gSubI, gNeg, gCmp, List.getElem?_cons_succ, List.getElem?_cons_zero, List.set_cons_succ, List.set_cons_zero, Bool.not_true, Bool.not_false, Bool.false_eq_true, if_false, if_true, decide_true, decide_false, fTup, List.length_cons, List.length_nil, Nat.reduceAdd, Nat.reduceLeDiff, rp]) ?_
  refine seq_step (s1 := [.v (.list (ns.map .int)), .o l5, .v (DP n), .v (.str Tx), .o (A.map DPc), .un, .un, .v (.list (L.map DPc)), .v (.list (M.map DPc))]) (by simp only [gSeq, gPar, gPar3, gIfS, gAsg, gNext, gRet, gApp, gOwn, xf, fBin, fUn, fC, fVar, fCall, fCallD, fCons, fNil, fIf, fAnd, fOr, fNot, bOr, bNot, bAnd, bTru, truth, bVal, hName, R.bind, gInt1, gAdd, gSubI, gNeg, gCmp, List.getElem?_cons_succ, List.getElem?_cons_zero, List.set_cons_succ, List.set_cons_zero, Bool.not_true, Bool.not_false, Bool.false_eq_true, if_false, if_true, decide_true, decide_false, fCallL, eA]) ?_
  refine seq_step (s1 := [.v (.list (ns.map .int)), .o l5, .v (DP n), .v (.str Tx), .o (A.map DPc), .o (Z.map DPc), .un, .v (.list (L.map DPc)), .v (.list (M.map DPc))]) (by simp only [gSeq, gPar, gPar3, gIfS, gAsg, gNext, gRet, gApp, gOwn, xf, fBin, fUn, fC, fVar, fCall, fCallD, fCons, fNil, fIf, fAnd, fOr, fNot, bOr, bNot, bAnd, bTru, truth, bVal, hName, R.bind, gInt1, gAdd, gSubI, gNeg, gCmp, List.getElem?_cons_succ, List.getElem?_cons_zero, List.set_cons_succ, List.set_cons_zero, Bool.not_true, Bool.not_false, Bool.false_eq_true, if_false, if_true, decide_true, decide_false, fCallL, eS]) ?_
  refine seq_step (s1 := [.v (.list (ns.map .int)), .o l5, .v (DP n), .v (.str Tx), .o (A.map DPc), .o (Z.map DPc), .un, .v (.list (L.map DPc)), .v (.list (M.map DPc))]) (by
    simp only [gSeq, gPar, gPar3, gIfS, gAsg, gNext, gRet, gApp, gOwn, xf, fBin, fUn, fC, fVar, fCall, fCallD, fCons, fNil, fIf, fAnd, fOr, fNot, bOr, bNot, bAnd, bTru, truth, bVal, hName, R.bind, gInt1, gAdd, gSubI, gNeg, gCmp, List.getElem?_cons_succ, List.getElem?_cons_zero, List.set_cons_succ, List.set_cons_zero, Bool.not_true, Bool.not_false, Bool.false_eq_true, if_false, if_true, decide_true, decide_false, bLend, fTup, List.length_cons, List.length_nil, Nat.reduceAdd, Nat.reduceLeDiff, bA, bS, rp, q2]) ?_
  obtain ⟨s', e6, x6, hs⟩ := loop_inv (tg := hName 6) (b := l_law_2)
    (fun _ s => ∃ x6, s = [.v (.list (ns.map .int)), .o l5, .v (DP n), .v (.str Tx), .o (A.map DPc), .o (Z.map DPc), x6, .v (.list (L.map DPc)), .v (.list (M.map DPc))]) (X.map DP) 0 [.v (.list (ns.map .int)), .o l5, .v (DP n), .v (.str Tx), .o (A.map DPc), .o (Z.map DPc), .un, .v (.list (L.map DPc)), .v (.list (M.map DPc))] ⟨_, rfl⟩ (by
      rintro i d s hd ⟨x6, rfl⟩
      obtain ⟨x, hx, rfl⟩ := map_getP hd
      obtain ⟨nx, px⟩ := okX x (List.mem_of_getElem? hx)
      replace nx : Num 31 x := nx
      obtain ⟨t1, t2⟩ := turnX x nx px
      have t3 := lt7 lnL.ne okL7 nx
      have t4 := lt7 lnM.ne okM7 nx
      have q := gNe_DP (padd (tellL L x) (tellL M x)) (padd (tellL L x) (tellL M x))
      rw [decide_eq_true rfl] at q
      refine ⟨[.v (.list (ns.map .int)), .o l5, .v (DP n), .v (.str Tx), .o (A.map DPc), .o (Z.map DPc), .v (DP x), .v (.list (L.map DPc)), .v (.list (M.map DPc))], [.v (.list (ns.map .int)), .o l5, .v (DP n), .v (.str Tx), .o (A.map DPc), .o (Z.map DPc), .v (DP x), .v (.list (L.map DPc)), .v (.list (M.map DPc))], rfl, .inl ?_, _, rfl⟩
      unfold l_law_2
      simp only [gSeq, gPar, gPar3, gIfS, gAsg, gNext, gRet, gApp, gOwn, xf, fBin, fUn, fC, fVar, fCall, fCallD, fCons, fNil, fIf, fAnd, fOr, fNot, bOr, bNot, bAnd, bTru, truth, bVal, hName, R.bind, gInt1, gAdd, gSubI, gNeg, gCmp, List.getElem?_cons_succ, List.getElem?_cons_zero, List.set_cons_succ, List.set_cons_zero, Bool.not_true, Bool.not_false, Bool.false_eq_true, if_false, if_true, decide_true, decide_false, bLend, t1, t2, t3, t4, q])
  subst hs
  refine seq_step ((for_nx (show sLendL 4 _ _ = .ok (X.map DP) by
    simp only [sLendL, gSeq, gPar, gPar3, gIfS, gAsg, gNext, gRet, gApp, gOwn, xf, fBin, fUn, fC, fVar, fCall, fCallD, fCons, fNil, fIf, fAnd, fOr, fNot, bOr, bNot, bAnd, bTru, truth, bVal, hName, R.bind, gInt1, gAdd, gSubI, gNeg, gCmp, List.getElem?_cons_succ, List.getElem?_cons_zero, List.set_cons_succ, List.set_cons_zero, Bool.not_true, Bool.not_false, Bool.false_eq_true, if_false, if_true, decide_true, decide_false, fCallL, fLst, List.length_cons, List.length_nil, Nat.reduceAdd, Nat.reduceLeDiff, eX, prD_all])).trans e6) ?_
  obtain ⟨s', e7, y6, hs⟩ := loop_inv (tg := hName 6) (b := l_law_1)
    (fun _ s => ∃ x6, s = [.v (.list (ns.map .int)), .o l5, .v (DP n), .v (.str Tx), .o (A.map DPc), .o (Z.map DPc), x6, .v (.list (L.map DPc)), .v (.list (M.map DPc))]) (Y.map DP) 0 [.v (.list (ns.map .int)), .o l5, .v (DP n), .v (.str Tx), .o (A.map DPc), .o (Z.map DPc), x6, .v (.list (L.map DPc)), .v (.list (M.map DPc))] ⟨_, rfl⟩ (by
      rintro i d s hd ⟨x6, rfl⟩
      obtain ⟨x, hx, rfl⟩ := map_getP hd
      obtain ⟨nx, px⟩ := okY x (List.mem_of_getElem? hx)
      replace nx : Num 31 x := nx
      obtain ⟨t1, t2⟩ := turnY x nx px
      have t3 := lt7 lnL.ne okL7 nx
      have q := gNe_DP (pmul n (tellL L x)) (pmul n (tellL L x))
      rw [decide_eq_true rfl] at q
      refine ⟨[.v (.list (ns.map .int)), .o l5, .v (DP n), .v (.str Tx), .o (A.map DPc), .o (Z.map DPc), .v (DP x), .v (.list (L.map DPc)), .v (.list (M.map DPc))], [.v (.list (ns.map .int)), .o l5, .v (DP n), .v (.str Tx), .o (A.map DPc), .o (Z.map DPc), .v (DP x), .v (.list (L.map DPc)), .v (.list (M.map DPc))], rfl, .inl ?_, _, rfl⟩
      unfold l_law_1
      simp only [gSeq, gPar, gPar3, gIfS, gAsg, gNext, gRet, gApp, gOwn, xf, fBin, fUn, fC, fVar, fCall, fCallD, fCons, fNil, fIf, fAnd, fOr, fNot, bOr, bNot, bAnd, bTru, truth, bVal, hName, R.bind, gInt1, gAdd, gSubI, gNeg, gCmp, List.getElem?_cons_succ, List.getElem?_cons_zero, List.set_cons_succ, List.set_cons_zero, Bool.not_true, Bool.not_false, Bool.false_eq_true, if_false, if_true, decide_true, decide_false, bLend, t1, t2, t3, q])
  subst hs
  refine seq_step ((for_nx (show sLendL 5 _ _ = .ok (Y.map DP) by
    simp only [sLendL, gSeq, gPar, gPar3, gIfS, gAsg, gNext, gRet, gApp, gOwn, xf, fBin, fUn, fC, fVar, fCall, fCallD, fCons, fNil, fIf, fAnd, fOr, fNot, bOr, bNot, bAnd, bTru, truth, bVal, hName, R.bind, gInt1, gAdd, gSubI, gNeg, gCmp, List.getElem?_cons_succ, List.getElem?_cons_zero, List.set_cons_succ, List.set_cons_zero, Bool.not_true, Bool.not_false, Bool.false_eq_true, if_false, if_true, decide_true, decide_false, fCallL, fLst, List.length_cons, List.length_nil, Nat.reduceAdd, Nat.reduceLeDiff, eY, prD_all])).trans e7) ?_
  refine seq_step (s1 := [.v (.list (ns.map .int)), .o l5, .v (DP n), .v (.str Tx), .o (A.map DPc), .o (Z.map DPc), y6, .v (.list (L.map DPc)), .v (.list (M.map DPc))]) (by
    simp only [gSeq, gPar, gPar3, gIfS, gAsg, gNext, gRet, gApp, gOwn, xf, fBin, fUn, fC, fVar, fCall, fCallD, fCons, fNil, fIf, fAnd, fOr, fNot, bOr, bNot, bAnd, bTru, truth, bVal, hName, R.bind, gInt1, gAdd, gSubI, gNeg, gCmp, List.getElem?_cons_succ, List.getElem?_cons_zero, List.set_cons_succ, List.set_cons_zero, Bool.not_true, Bool.not_false, Bool.false_eq_true, if_false, if_true, decide_true, decide_false, bLend, eB, q3]) ?_
  refine seq_step (s1 := [.v (.list (ns.map .int)), .o l5, .v (DP n), .v (.str Tx), .o [], .o (Z.map DPc), y6, .v (.list (L.map DPc)), .v (.list (M.map DPc))]) rfl ?_
  refine seq_step (s1 := [.v (.list (ns.map .int)), .o l5, .v (DP n), .v (.str Tx), .o [], .o [], y6, .v (.list (L.map DPc)), .v (.list (M.map DPc))]) rfl ?_
  simp only [gSeq, gPar, gPar3, gIfS, gAsg, gNext, gRet, gApp, gOwn, xf, fBin, fUn, fC, fVar, fCall, fCallD, fCons, fNil, fIf, fAnd, fOr, fNot, bOr, bNot, bAnd, bTru, truth, bVal, hName, R.bind, gInt1, gAdd, gSubI, gNeg, gCmp, List.getElem?_cons_succ, List.getElem?_cons_zero, List.set_cons_succ, List.set_cons_zero, Bool.not_true, Bool.not_false, Bool.false_eq_true, if_false, if_true, decide_true, decide_false, fTup, List.length_cons, List.length_nil, Nat.reduceAdd, Nat.reduceLeDiff, rp, q1]


/-! ### the head -/
def spLaw (K : PySem.W.Frag) : Sp := fun vs H Q _ => ∃ (a : Addr) (ns : List Int), vs = [.ref a] ∧ SqL K H a (ns.map V.int) ∧ ns.length ≤ 63 ∧ ∀ H', Q (.bl true) H'
set_option maxHeartbeats 16000000 in
theorem all_mk {l : PySem.W.OpenLaw} {w : World} {K : PySem.W.Frag} {h : Heap} {mg : Str → Option Value} {fa : Addr} (X : K.In h) (G : h.Ns mainGlobals mg) (hfa : mg "law" = some (.ref fa))
    {a__joined : Addr} {od__joined an__joined : Option Addr} {sl__joined : Array (Option Value)} {oc__joined kV__joined dc__joined pm__joined cd__joined ct__joined : Value}
    (a_joined : PySem.W.nsIn K mainGlobals "_joined" = some (some (.ref a__joined))) (l_joined : K.lookup a__joined = some ⟨oc__joined, od__joined, .func (PySem.W.fnOf "_joined" "_joined" (defArgs s__joined) (defBody s__joined) (defScope s__joined) .none kV__joined dc__joined pm__joined an__joined cd__joined ct__joined), sl__joined⟩) (c_joined : PySem.W.codeIn K cd__joined "_joined" = true) (k_joined : PySem.W.keepIn K (.ref a__joined) = true)
    {a__law_draw : Addr} {od__law_draw an__law_draw : Option Addr} {sl__law_draw : Array (Option Value)} {oc__law_draw kV__law_draw dc__law_draw pm__law_draw cd__law_draw ct__law_draw : Value}
    (a_law_draw : PySem.W.nsIn K mainGlobals "_law_draw" = some (some (.ref a__law_draw))) (l_law_draw : K.lookup a__law_draw = some ⟨oc__law_draw, od__law_draw, .func (PySem.W.fnOf "_law_draw" "_law_draw" (defArgs s__law_draw) (defBody s__law_draw) (defScope s__law_draw) .none kV__law_draw dc__law_draw pm__law_draw an__law_draw cd__law_draw ct__law_draw), sl__law_draw⟩) (c_law_draw : PySem.W.codeIn K cd__law_draw "_law_draw" = true) (k_law_draw : PySem.W.keepIn K (.ref a__law_draw) = true)
    {a__law_number : Addr} {od__law_number an__law_number : Option Addr} {sl__law_number : Array (Option Value)} {oc__law_number kV__law_number dc__law_number pm__law_number cd__law_number ct__law_number : Value}
    (a_law_number : PySem.W.nsIn K mainGlobals "_law_number" = some (some (.ref a__law_number))) (l_law_number : K.lookup a__law_number = some ⟨oc__law_number, od__law_number, .func (PySem.W.fnOf "_law_number" "_law_number" (defArgs s__law_number) (defBody s__law_number) (defScope s__law_number) .none kV__law_number dc__law_number pm__law_number an__law_number cd__law_number ct__law_number), sl__law_number⟩) (c_law_number : PySem.W.codeIn K cd__law_number "_law_number" = true) (k_law_number : PySem.W.keepIn K (.ref a__law_number) = true)
    {a__law_amount : Addr} {od__law_amount an__law_amount : Option Addr} {sl__law_amount : Array (Option Value)} {oc__law_amount kV__law_amount dc__law_amount pm__law_amount cd__law_amount ct__law_amount : Value}
    (a_law_amount : PySem.W.nsIn K mainGlobals "_law_amount" = some (some (.ref a__law_amount))) (l_law_amount : K.lookup a__law_amount = some ⟨oc__law_amount, od__law_amount, .func (PySem.W.fnOf "_law_amount" "_law_amount" (defArgs s__law_amount) (defBody s__law_amount) (defScope s__law_amount) .none kV__law_amount dc__law_amount pm__law_amount an__law_amount cd__law_amount ct__law_amount), sl__law_amount⟩) (c_law_amount : PySem.W.codeIn K cd__law_amount "_law_amount" = true) (k_law_amount : PySem.W.keepIn K (.ref a__law_amount) = true)
    {a__law_is_number : Addr} {od__law_is_number an__law_is_number : Option Addr} {sl__law_is_number : Array (Option Value)} {oc__law_is_number kV__law_is_number dc__law_is_number pm__law_is_number cd__law_is_number ct__law_is_number : Value}
    (a_law_is_number : PySem.W.nsIn K mainGlobals "_law_is_number" = some (some (.ref a__law_is_number))) (l_law_is_number : K.lookup a__law_is_number = some ⟨oc__law_is_number, od__law_is_number, .func (PySem.W.fnOf "_law_is_number" "_law_is_number" (defArgs s__law_is_number) (defBody s__law_is_number) (defScope s__law_is_number) .none kV__law_is_number dc__law_is_number pm__law_is_number an__law_is_number cd__law_is_number ct__law_is_number), sl__law_is_number⟩) (c_law_is_number : PySem.W.codeIn K cd__law_is_number "_law_is_number" = true) (k_law_is_number : PySem.W.keepIn K (.ref a__law_is_number) = true)
    {a__law_less : Addr} {od__law_less an__law_less : Option Addr} {sl__law_less : Array (Option Value)} {oc__law_less kV__law_less dc__law_less pm__law_less cd__law_less ct__law_less : Value}
    (a_law_less : PySem.W.nsIn K mainGlobals "_law_less" = some (some (.ref a__law_less))) (l_law_less : K.lookup a__law_less = some ⟨oc__law_less, od__law_less, .func (PySem.W.fnOf "_law_less" "_law_less" (defArgs s__law_less) (defBody s__law_less) (defScope s__law_less) .none kV__law_less dc__law_less pm__law_less an__law_less cd__law_less ct__law_less), sl__law_less⟩) (c_law_less : PySem.W.codeIn K cd__law_less "_law_less" = true) (k_law_less : PySem.W.keepIn K (.ref a__law_less) = true)
    {a__law_plus : Addr} {od__law_plus an__law_plus : Option Addr} {sl__law_plus : Array (Option Value)} {oc__law_plus kV__law_plus dc__law_plus pm__law_plus cd__law_plus ct__law_plus : Value}
    (a_law_plus : PySem.W.nsIn K mainGlobals "_law_plus" = some (some (.ref a__law_plus))) (l_law_plus : K.lookup a__law_plus = some ⟨oc__law_plus, od__law_plus, .func (PySem.W.fnOf "_law_plus" "_law_plus" (defArgs s__law_plus) (defBody s__law_plus) (defScope s__law_plus) .none kV__law_plus dc__law_plus pm__law_plus an__law_plus cd__law_plus ct__law_plus), sl__law_plus⟩) (c_law_plus : PySem.W.codeIn K cd__law_plus "_law_plus" = true) (k_law_plus : PySem.W.keepIn K (.ref a__law_plus) = true)
    {a__law_minus : Addr} {od__law_minus an__law_minus : Option Addr} {sl__law_minus : Array (Option Value)} {oc__law_minus kV__law_minus dc__law_minus pm__law_minus cd__law_minus ct__law_minus : Value}
    (a_law_minus : PySem.W.nsIn K mainGlobals "_law_minus" = some (some (.ref a__law_minus))) (l_law_minus : K.lookup a__law_minus = some ⟨oc__law_minus, od__law_minus, .func (PySem.W.fnOf "_law_minus" "_law_minus" (defArgs s__law_minus) (defBody s__law_minus) (defScope s__law_minus) .none kV__law_minus dc__law_minus pm__law_minus an__law_minus cd__law_minus ct__law_minus), sl__law_minus⟩) (c_law_minus : PySem.W.codeIn K cd__law_minus "_law_minus" = true) (k_law_minus : PySem.W.keepIn K (.ref a__law_minus) = true)
    {a__law_times : Addr} {od__law_times an__law_times : Option Addr} {sl__law_times : Array (Option Value)} {oc__law_times kV__law_times dc__law_times pm__law_times cd__law_times ct__law_times : Value}
    (a_law_times : PySem.W.nsIn K mainGlobals "_law_times" = some (some (.ref a__law_times))) (l_law_times : K.lookup a__law_times = some ⟨oc__law_times, od__law_times, .func (PySem.W.fnOf "_law_times" "_law_times" (defArgs s__law_times) (defBody s__law_times) (defScope s__law_times) .none kV__law_times dc__law_times pm__law_times an__law_times cd__law_times ct__law_times), sl__law_times⟩) (c_law_times : PySem.W.codeIn K cd__law_times "_law_times" = true) (k_law_times : PySem.W.keepIn K (.ref a__law_times) = true)
    {a__law_piece_tells : Addr} {od__law_piece_tells an__law_piece_tells : Option Addr} {sl__law_piece_tells : Array (Option Value)} {oc__law_piece_tells kV__law_piece_tells dc__law_piece_tells pm__law_piece_tells cd__law_piece_tells ct__law_piece_tells : Value}
    (a_law_piece_tells : PySem.W.nsIn K mainGlobals "_law_piece_tells" = some (some (.ref a__law_piece_tells))) (l_law_piece_tells : K.lookup a__law_piece_tells = some ⟨oc__law_piece_tells, od__law_piece_tells, .func (PySem.W.fnOf "_law_piece_tells" "_law_piece_tells" (defArgs s__law_piece_tells) (defBody s__law_piece_tells) (defScope s__law_piece_tells) .none kV__law_piece_tells dc__law_piece_tells pm__law_piece_tells an__law_piece_tells cd__law_piece_tells ct__law_piece_tells), sl__law_piece_tells⟩) (c_law_piece_tells : PySem.W.codeIn K cd__law_piece_tells "_law_piece_tells" = true) (k_law_piece_tells : PySem.W.keepIn K (.ref a__law_piece_tells) = true)
    {a__law_is_line : Addr} {od__law_is_line an__law_is_line : Option Addr} {sl__law_is_line : Array (Option Value)} {oc__law_is_line kV__law_is_line dc__law_is_line pm__law_is_line cd__law_is_line ct__law_is_line : Value}
    (a_law_is_line : PySem.W.nsIn K mainGlobals "_law_is_line" = some (some (.ref a__law_is_line))) (l_law_is_line : K.lookup a__law_is_line = some ⟨oc__law_is_line, od__law_is_line, .func (PySem.W.fnOf "_law_is_line" "_law_is_line" (defArgs s__law_is_line) (defBody s__law_is_line) (defScope s__law_is_line) .none kV__law_is_line dc__law_is_line pm__law_is_line an__law_is_line cd__law_is_line ct__law_is_line), sl__law_is_line⟩) (c_law_is_line : PySem.W.codeIn K cd__law_is_line "_law_is_line" = true) (k_law_is_line : PySem.W.keepIn K (.ref a__law_is_line) = true)
    {a__law_line : Addr} {od__law_line an__law_line : Option Addr} {sl__law_line : Array (Option Value)} {oc__law_line kV__law_line dc__law_line pm__law_line cd__law_line ct__law_line : Value}
    (a_law_line : PySem.W.nsIn K mainGlobals "_law_line" = some (some (.ref a__law_line))) (l_law_line : K.lookup a__law_line = some ⟨oc__law_line, od__law_line, .func (PySem.W.fnOf "_law_line" "_law_line" (defArgs s__law_line) (defBody s__law_line) (defScope s__law_line) .none kV__law_line dc__law_line pm__law_line an__law_line cd__law_line ct__law_line), sl__law_line⟩) (c_law_line : PySem.W.codeIn K cd__law_line "_law_line" = true) (k_law_line : PySem.W.keepIn K (.ref a__law_line) = true)
    {a__law_places : Addr} {od__law_places an__law_places : Option Addr} {sl__law_places : Array (Option Value)} {oc__law_places kV__law_places dc__law_places pm__law_places cd__law_places ct__law_places : Value}
    (a_law_places : PySem.W.nsIn K mainGlobals "_law_places" = some (some (.ref a__law_places))) (l_law_places : K.lookup a__law_places = some ⟨oc__law_places, od__law_places, .func (PySem.W.fnOf "_law_places" "_law_places" (defArgs s__law_places) (defBody s__law_places) (defScope s__law_places) .none kV__law_places dc__law_places pm__law_places an__law_places cd__law_places ct__law_places), sl__law_places⟩) (c_law_places : PySem.W.codeIn K cd__law_places "_law_places" = true) (k_law_places : PySem.W.keepIn K (.ref a__law_places) = true)
    {a__law_same_starts : Addr} {od__law_same_starts an__law_same_starts : Option Addr} {sl__law_same_starts : Array (Option Value)} {oc__law_same_starts kV__law_same_starts dc__law_same_starts pm__law_same_starts cd__law_same_starts ct__law_same_starts : Value}
    (a_law_same_starts : PySem.W.nsIn K mainGlobals "_law_same_starts" = some (some (.ref a__law_same_starts))) (l_law_same_starts : K.lookup a__law_same_starts = some ⟨oc__law_same_starts, od__law_same_starts, .func (PySem.W.fnOf "_law_same_starts" "_law_same_starts" (defArgs s__law_same_starts) (defBody s__law_same_starts) (defScope s__law_same_starts) .none kV__law_same_starts dc__law_same_starts pm__law_same_starts an__law_same_starts cd__law_same_starts ct__law_same_starts), sl__law_same_starts⟩) (c_law_same_starts : PySem.W.codeIn K cd__law_same_starts "_law_same_starts" = true) (k_law_same_starts : PySem.W.keepIn K (.ref a__law_same_starts) = true)
    {a__law_tells : Addr} {od__law_tells an__law_tells : Option Addr} {sl__law_tells : Array (Option Value)} {oc__law_tells kV__law_tells dc__law_tells pm__law_tells cd__law_tells ct__law_tells : Value}
    (a_law_tells : PySem.W.nsIn K mainGlobals "_law_tells" = some (some (.ref a__law_tells))) (l_law_tells : K.lookup a__law_tells = some ⟨oc__law_tells, od__law_tells, .func (PySem.W.fnOf "_law_tells" "_law_tells" (defArgs s__law_tells) (defBody s__law_tells) (defScope s__law_tells) .none kV__law_tells dc__law_tells pm__law_tells an__law_tells cd__law_tells ct__law_tells), sl__law_tells⟩) (c_law_tells : PySem.W.codeIn K cd__law_tells "_law_tells" = true) (k_law_tells : PySem.W.keepIn K (.ref a__law_tells) = true)
    {a_number : Addr} {od_number an_number : Option Addr} {sl_number : Array (Option Value)} {oc_number kV_number dc_number pm_number cd_number ct_number : Value}
    (anumber : PySem.W.nsIn K mainGlobals "number" = some (some (.ref a_number))) (lnumber : K.lookup a_number = some ⟨oc_number, od_number, .func (PySem.W.fnOf "number" "number" (defArgs s_number) (defBody s_number) (defScope s_number) .none kV_number dc_number pm_number an_number cd_number ct_number), sl_number⟩) (cnumber : PySem.W.codeIn K cd_number "number" = true) (knumber : PySem.W.keepIn K (.ref a_number) = true)
    {a_minus : Addr} {od_minus an_minus : Option Addr} {sl_minus : Array (Option Value)} {oc_minus kV_minus dc_minus pm_minus cd_minus ct_minus : Value}
    (aminus : PySem.W.nsIn K mainGlobals "minus" = some (some (.ref a_minus))) (lminus : K.lookup a_minus = some ⟨oc_minus, od_minus, .func (PySem.W.fnOf "minus" "minus" (defArgs s_minus) (defBody s_minus) (defScope s_minus) .none kV_minus dc_minus pm_minus an_minus cd_minus ct_minus), sl_minus⟩) (cminus : PySem.W.codeIn K cd_minus "minus" = true) (kminus : PySem.W.keepIn K (.ref a_minus) = true)
    {a_plus : Addr} {od_plus an_plus : Option Addr} {sl_plus : Array (Option Value)} {oc_plus kV_plus dc_plus pm_plus cd_plus ct_plus : Value}
    (aplus : PySem.W.nsIn K mainGlobals "plus" = some (some (.ref a_plus))) (lplus : K.lookup a_plus = some ⟨oc_plus, od_plus, .func (PySem.W.fnOf "plus" "plus" (defArgs s_plus) (defBody s_plus) (defScope s_plus) .none kV_plus dc_plus pm_plus an_plus cd_plus ct_plus), sl_plus⟩) (cplus : PySem.W.codeIn K cd_plus "plus" = true) (kplus : PySem.W.keepIn K (.ref a_plus) = true)
    {a_times : Addr} {od_times an_times : Option Addr} {sl_times : Array (Option Value)} {oc_times kV_times dc_times pm_times cd_times ct_times : Value}
    (atimes : PySem.W.nsIn K mainGlobals "times" = some (some (.ref a_times))) (ltimes : K.lookup a_times = some ⟨oc_times, od_times, .func (PySem.W.fnOf "times" "times" (defArgs s_times) (defBody s_times) (defScope s_times) .none kV_times dc_times pm_times an_times cd_times ct_times), sl_times⟩) (ctimes : PySem.W.codeIn K cd_times "times" = true) (ktimes : PySem.W.keepIn K (.ref a_times) = true)
    {a__told : Addr} {od__told an__told : Option Addr} {sl__told : Array (Option Value)} {oc__told kV__told dc__told pm__told cd__told ct__told : Value}
    (a_told : PySem.W.nsIn K mainGlobals "_told" = some (some (.ref a__told))) (l_told : K.lookup a__told = some ⟨oc__told, od__told, .func (PySem.W.fnOf "_told" "_told" (defArgs s__told) (defBody s__told) (defScope s__told) .none kV__told dc__told pm__told an__told cd__told ct__told), sl__told⟩) (c_told : PySem.W.codeIn K cd__told "_told" = true) (k_told : PySem.W.keepIn K (.ref a__told) = true)
    {a__from : Addr} {od__from an__from : Option Addr} {sl__from : Array (Option Value)} {oc__from kV__from dc__from pm__from cd__from ct__from : Value}
    (a_from : PySem.W.nsIn K mainGlobals "_from" = some (some (.ref a__from))) (l_from : K.lookup a__from = some ⟨oc__from, od__from, .func (PySem.W.fnOf "_from" "_from" (defArgs s__from) (defBody s__from) (defScope s__from) .none kV__from dc__from pm__from an__from cd__from ct__from), sl__from⟩) (c_from : PySem.W.codeIn K cd__from "_from" = true) (k_from : PySem.W.keepIn K (.ref a__from) = true)
    {a__cut : Addr} {od__cut an__cut : Option Addr} {sl__cut : Array (Option Value)} {oc__cut kV__cut dc__cut pm__cut cd__cut ct__cut : Value}
    (a_cut : PySem.W.nsIn K mainGlobals "_cut" = some (some (.ref a__cut))) (l_cut : K.lookup a__cut = some ⟨oc__cut, od__cut, .func (PySem.W.fnOf "_cut" "_cut" (defArgs s__cut) (defBody s__cut) (defScope s__cut) .none kV__cut dc__cut pm__cut an__cut cd__cut ct__cut), sl__cut⟩) (c_cut : PySem.W.codeIn K cd__cut "_cut" = true) (k_cut : PySem.W.keepIn K (.ref a__cut) = true)
    {a_compare : Addr} {od_compare an_compare : Option Addr} {sl_compare : Array (Option Value)} {oc_compare kV_compare dc_compare pm_compare cd_compare ct_compare : Value}
    (acompare : PySem.W.nsIn K mainGlobals "compare" = some (some (.ref a_compare))) (lcompare : K.lookup a_compare = some ⟨oc_compare, od_compare, .func (PySem.W.fnOf "compare" "compare" (defArgs s_compare) (defBody s_compare) (defScope s_compare) .none kV_compare dc_compare pm_compare an_compare cd_compare ct_compare), sl_compare⟩) (ccompare : PySem.W.codeIn K cd_compare "compare" = true) (kcompare : PySem.W.keepIn K (.ref a_compare) = true)
    {a__starts : Addr} {od__starts an__starts : Option Addr} {sl__starts : Array (Option Value)} {oc__starts kV__starts dc__starts pm__starts cd__starts ct__starts : Value}
    (a_starts : PySem.W.nsIn K mainGlobals "_starts" = some (some (.ref a__starts))) (l_starts : K.lookup a__starts = some ⟨oc__starts, od__starts, .func (PySem.W.fnOf "_starts" "_starts" (defArgs s__starts) (defBody s__starts) (defScope s__starts) .none kV__starts dc__starts pm__starts an__starts cd__starts ct__starts), sl__starts⟩) (c_starts : PySem.W.codeIn K cd__starts "_starts" = true) (k_starts : PySem.W.keepIn K (.ref a__starts) = true)
    {a__side_by_side : Addr} {od__side_by_side an__side_by_side : Option Addr} {sl__side_by_side : Array (Option Value)} {oc__side_by_side kV__side_by_side dc__side_by_side pm__side_by_side cd__side_by_side ct__side_by_side : Value}
    (a_side_by_side : PySem.W.nsIn K mainGlobals "_side_by_side" = some (some (.ref a__side_by_side))) (l_side_by_side : K.lookup a__side_by_side = some ⟨oc__side_by_side, od__side_by_side, .func (PySem.W.fnOf "_side_by_side" "_side_by_side" (defArgs s__side_by_side) (defBody s__side_by_side) (defScope s__side_by_side) .none kV__side_by_side dc__side_by_side pm__side_by_side an__side_by_side cd__side_by_side ct__side_by_side), sl__side_by_side⟩) (c_side_by_side : PySem.W.codeIn K cd__side_by_side "_side_by_side" = true) (k_side_by_side : PySem.W.keepIn K (.ref a__side_by_side) = true)
    {a_add_lines : Addr} {od_add_lines an_add_lines : Option Addr} {sl_add_lines : Array (Option Value)} {oc_add_lines kV_add_lines dc_add_lines pm_add_lines cd_add_lines ct_add_lines : Value}
    (aadd_lines : PySem.W.nsIn K mainGlobals "add_lines" = some (some (.ref a_add_lines))) (ladd_lines : K.lookup a_add_lines = some ⟨oc_add_lines, od_add_lines, .func (PySem.W.fnOf "add_lines" "add_lines" (defArgs s_add_lines) (defBody s_add_lines) (defScope s_add_lines) .none kV_add_lines dc_add_lines pm_add_lines an_add_lines cd_add_lines ct_add_lines), sl_add_lines⟩) (cadd_lines : PySem.W.codeIn K cd_add_lines "add_lines" = true) (kadd_lines : PySem.W.keepIn K (.ref a_add_lines) = true)
    {a_scale_line : Addr} {od_scale_line an_scale_line : Option Addr} {sl_scale_line : Array (Option Value)} {oc_scale_line kV_scale_line dc_scale_line pm_scale_line cd_scale_line ct_scale_line : Value}
    (ascale_line : PySem.W.nsIn K mainGlobals "scale_line" = some (some (.ref a_scale_line))) (lscale_line : K.lookup a_scale_line = some ⟨oc_scale_line, od_scale_line, .func (PySem.W.fnOf "scale_line" "scale_line" (defArgs s_scale_line) (defBody s_scale_line) (defScope s_scale_line) .none kV_scale_line dc_scale_line pm_scale_line an_scale_line cd_scale_line ct_scale_line), sl_scale_line⟩) (cscale_line : PySem.W.codeIn K cd_scale_line "scale_line" = true) (kscale_line : PySem.W.keepIn K (.ref a_scale_line) = true)
    {a_law : Addr} {od_law an_law : Option Addr} {sl_law : Array (Option Value)} {oc_law kV_law dc_law pm_law cd_law ct_law : Value}
    (alaw : PySem.W.nsIn K mainGlobals "law" = some (some (.ref a_law))) (llaw : K.lookup a_law = some ⟨oc_law, od_law, .func (PySem.W.fnOf "law" "law" (defArgs s_law) (defBody s_law) (defScope s_law) .none kV_law dc_law pm_law an_law cd_law ct_law), sl_law⟩) (claw : PySem.W.codeIn K cd_law "law" = true) (klaw : PySem.W.keepIn K (.ref a_law) = true)
    (zabs : PySem.W.nsIn K mainGlobals "abs" = some none)
    (zall : PySem.W.nsIn K mainGlobals "all" = some none)
    (zbool : PySem.W.nsIn K mainGlobals "bool" = some none)
    (zgcd : PySem.W.nsIn K mainGlobals "gcd" = some (some (.builtin "math.gcd")))
    (zint : PySem.W.nsIn K mainGlobals "int" = some none)
    (zisinstance : PySem.W.nsIn K mainGlobals "isinstance" = some none)
    (zlen : PySem.W.nsIn K mainGlobals "len" = some none)
    (zlist : PySem.W.nsIn K mainGlobals "list" = some none)
    (zrange : PySem.W.nsIn K mainGlobals "range" = some none)
    (zrepr : PySem.W.nsIn K mainGlobals "repr" = some none)
    (ztuple : PySem.W.nsIn K mainGlobals "tuple" = some none)
    (zzip : PySem.W.nsIn K mainGlobals "zip" = some none) :
    ∃ fd : FuncData, (∀ (s : Shared) (v : Value), BindsTo s fd ⟨[v], []⟩ [("script", v)]) ∧ ∀ base : Heap, K.In base → base.Ns mainGlobals mg → TopOk l.prog w K mg base fa fd "script" (spLaw K) := by
  have e := hfa.symm.trans (PySem.W.mg_of X G alaw)
  cases e
  have F_joined := fun_mk (st := s__joined) l_joined c_joined k_joined
  have D__joined : Dn K mg "_joined" s__joined ["pieces"] _ _ := ⟨F_joined, PySem.W.mg_of X G a_joined, F_joined.binds fun _ _ _ _ _ _ us hl => match us, hl with | [_], _ => rfl⟩
  have F_law_draw := fun_mk (st := s__law_draw) l_law_draw c_law_draw k_law_draw
  have D__law_draw : Dn K mg "_law_draw" s__law_draw ["stream", "many"] _ _ := ⟨F_law_draw, PySem.W.mg_of X G a_law_draw, F_law_draw.binds fun _ _ _ _ _ _ us hl => match us, hl with | [_, _], _ => rfl⟩
  have F_law_number := fun_mk (st := s__law_number) l_law_number c_law_number k_law_number
  have D__law_number : Dn K mg "_law_number" s__law_number ["n", "d"] _ _ := ⟨F_law_number, PySem.W.mg_of X G a_law_number, F_law_number.binds fun _ _ _ _ _ _ us hl => match us, hl with | [_, _], _ => rfl⟩
  have F_law_amount := fun_mk (st := s__law_amount) l_law_amount c_law_amount k_law_amount
  have D__law_amount : Dn K mg "_law_amount" s__law_amount ["stream"] _ _ := ⟨F_law_amount, PySem.W.mg_of X G a_law_amount, F_law_amount.binds fun _ _ _ _ _ _ us hl => match us, hl with | [_], _ => rfl⟩
  have F_law_is_number := fun_mk (st := s__law_is_number) l_law_is_number c_law_is_number k_law_is_number
  have D__law_is_number : Dn K mg "_law_is_number" s__law_is_number ["actual"] _ _ := ⟨F_law_is_number, PySem.W.mg_of X G a_law_is_number, F_law_is_number.binds fun _ _ _ _ _ _ us hl => match us, hl with | [_], _ => rfl⟩
  have F_law_less := fun_mk (st := s__law_less) l_law_less c_law_less k_law_less
  have D__law_less : Dn K mg "_law_less" s__law_less ["a", "b"] _ _ := ⟨F_law_less, PySem.W.mg_of X G a_law_less, F_law_less.binds fun _ _ _ _ _ _ us hl => match us, hl with | [_, _], _ => rfl⟩
  have F_law_plus := fun_mk (st := s__law_plus) l_law_plus c_law_plus k_law_plus
  have D__law_plus : Dn K mg "_law_plus" s__law_plus ["a", "b"] _ _ := ⟨F_law_plus, PySem.W.mg_of X G a_law_plus, F_law_plus.binds fun _ _ _ _ _ _ us hl => match us, hl with | [_, _], _ => rfl⟩
  have F_law_minus := fun_mk (st := s__law_minus) l_law_minus c_law_minus k_law_minus
  have D__law_minus : Dn K mg "_law_minus" s__law_minus ["a", "b"] _ _ := ⟨F_law_minus, PySem.W.mg_of X G a_law_minus, F_law_minus.binds fun _ _ _ _ _ _ us hl => match us, hl with | [_, _], _ => rfl⟩
  have F_law_times := fun_mk (st := s__law_times) l_law_times c_law_times k_law_times
  have D__law_times : Dn K mg "_law_times" s__law_times ["a", "b"] _ _ := ⟨F_law_times, PySem.W.mg_of X G a_law_times, F_law_times.binds fun _ _ _ _ _ _ us hl => match us, hl with | [_, _], _ => rfl⟩
  have F_law_piece_tells := fun_mk (st := s__law_piece_tells) l_law_piece_tells c_law_piece_tells k_law_piece_tells
  have D__law_piece_tells : Dn K mg "_law_piece_tells" s__law_piece_tells ["piece", "x"] _ _ := ⟨F_law_piece_tells, PySem.W.mg_of X G a_law_piece_tells, F_law_piece_tells.binds fun _ _ _ _ _ _ us hl => match us, hl with | [_, _], _ => rfl⟩
  have F_law_is_line := fun_mk (st := s__law_is_line) l_law_is_line c_law_is_line k_law_is_line
  have D__law_is_line : Dn K mg "_law_is_line" s__law_is_line ["pieces"] _ _ := ⟨F_law_is_line, PySem.W.mg_of X G a_law_is_line, F_law_is_line.binds fun _ _ _ _ _ _ us hl => match us, hl with | [_], _ => rfl⟩
  have F_law_line := fun_mk (st := s__law_line) l_law_line c_law_line k_law_line
  have D__law_line : Dn K mg "_law_line" s__law_line ["stream"] _ _ := ⟨F_law_line, PySem.W.mg_of X G a_law_line, F_law_line.binds fun _ _ _ _ _ _ us hl => match us, hl with | [_], _ => rfl⟩
  have F_law_places := fun_mk (st := s__law_places) l_law_places c_law_places k_law_places
  have D__law_places : Dn K mg "_law_places" s__law_places ["lines"] _ _ := ⟨F_law_places, PySem.W.mg_of X G a_law_places, F_law_places.binds fun _ _ _ _ _ _ us hl => match us, hl with | [_], _ => rfl⟩
  have F_law_same_starts := fun_mk (st := s__law_same_starts) l_law_same_starts c_law_same_starts k_law_same_starts
  have D__law_same_starts : Dn K mg "_law_same_starts" s__law_same_starts ["stream", "line"] _ _ := ⟨F_law_same_starts, PySem.W.mg_of X G a_law_same_starts, F_law_same_starts.binds fun _ _ _ _ _ _ us hl => match us, hl with | [_, _], _ => rfl⟩
  have F_law_tells := fun_mk (st := s__law_tells) l_law_tells c_law_tells k_law_tells
  have D__law_tells : Dn K mg "_law_tells" s__law_tells ["line", "x"] _ _ := ⟨F_law_tells, PySem.W.mg_of X G a_law_tells, F_law_tells.binds fun _ _ _ _ _ _ us hl => match us, hl with | [_, _], _ => rfl⟩
  have Fnumber := fun_mk (st := s_number) lnumber cnumber knumber
  have D_number : Dn K mg "number" s_number ["n", "d"] _ _ := ⟨Fnumber, PySem.W.mg_of X G anumber, Fnumber.binds fun _ _ _ _ _ _ us hl => match us, hl with | [_, _], _ => rfl⟩
  have Fminus := fun_mk (st := s_minus) lminus cminus kminus
  have D_minus : Dn K mg "minus" s_minus ["a", "b"] _ _ := ⟨Fminus, PySem.W.mg_of X G aminus, Fminus.binds fun _ _ _ _ _ _ us hl => match us, hl with | [_, _], _ => rfl⟩
  have Fplus := fun_mk (st := s_plus) lplus cplus kplus
  have D_plus : Dn K mg "plus" s_plus ["a", "b"] _ _ := ⟨Fplus, PySem.W.mg_of X G aplus, Fplus.binds fun _ _ _ _ _ _ us hl => match us, hl with | [_, _], _ => rfl⟩
  have Ftimes := fun_mk (st := s_times) ltimes ctimes ktimes
  have D_times : Dn K mg "times" s_times ["a", "b"] _ _ := ⟨Ftimes, PySem.W.mg_of X G atimes, Ftimes.binds fun _ _ _ _ _ _ us hl => match us, hl with | [_, _], _ => rfl⟩
  have F_told := fun_mk (st := s__told) l_told c_told k_told
  have D__told : Dn K mg "_told" s__told ["piece", "x"] _ _ := ⟨F_told, PySem.W.mg_of X G a_told, F_told.binds fun _ _ _ _ _ _ us hl => match us, hl with | [_, _], _ => rfl⟩
  have F_from := fun_mk (st := s__from) l_from c_from k_from
  have D__from : Dn K mg "_from" s__from ["piece", "start"] _ _ := ⟨F_from, PySem.W.mg_of X G a_from, F_from.binds fun _ _ _ _ _ _ us hl => match us, hl with | [_, _], _ => rfl⟩
  have F_cut := fun_mk (st := s__cut) l_cut c_cut k_cut
  have D__cut : Dn K mg "_cut" s__cut ["line", "starts"] _ _ := ⟨F_cut, PySem.W.mg_of X G a_cut, F_cut.binds fun _ _ _ _ _ _ us hl => match us, hl with | [_, _], _ => rfl⟩
  have Fcompare := fun_mk (st := s_compare) lcompare ccompare kcompare
  have D_compare : Dn K mg "compare" s_compare ["a", "b"] _ _ := ⟨Fcompare, PySem.W.mg_of X G acompare, Fcompare.binds fun _ _ _ _ _ _ us hl => match us, hl with | [_, _], _ => rfl⟩
  have F_starts := fun_mk (st := s__starts) l_starts c_starts k_starts
  have D__starts : Dn K mg "_starts" s__starts ["line", "other"] _ _ := ⟨F_starts, PySem.W.mg_of X G a_starts, F_starts.binds fun _ _ _ _ _ _ us hl => match us, hl with | [_, _], _ => rfl⟩
  have F_side_by_side := fun_mk (st := s__side_by_side) l_side_by_side c_side_by_side k_side_by_side
  have D__side_by_side : Dn K mg "_side_by_side" s__side_by_side ["line", "other"] _ _ := ⟨F_side_by_side, PySem.W.mg_of X G a_side_by_side, F_side_by_side.binds fun _ _ _ _ _ _ us hl => match us, hl with | [_, _], _ => rfl⟩
  have Fadd_lines := fun_mk (st := s_add_lines) ladd_lines cadd_lines kadd_lines
  have D_add_lines : Dn K mg "add_lines" s_add_lines ["line", "other"] _ _ := ⟨Fadd_lines, PySem.W.mg_of X G aadd_lines, Fadd_lines.binds fun _ _ _ _ _ _ us hl => match us, hl with | [_, _], _ => rfl⟩
  have Fscale_line := fun_mk (st := s_scale_line) lscale_line cscale_line kscale_line
  have D_scale_line : Dn K mg "scale_line" s_scale_line ["line", "number"] _ _ := ⟨Fscale_line, PySem.W.mg_of X G ascale_line, Fscale_line.binds fun _ _ _ _ _ _ us hl => match us, hl with | [_, _], _ => rfl⟩
  have Flaw := fun_mk (st := s_law) llaw claw klaw
  have D_law : Dn K mg "law" s_law ["script"] _ _ := ⟨Flaw, PySem.W.mg_of X G alaw, Flaw.binds fun _ _ _ _ _ _ us hl => match us, hl with | [_], _ => rfl⟩
  have z_abs := PySem.W.mg_none_of X G zabs
  have z_all := PySem.W.mg_none_of X G zall
  have z_bool := PySem.W.mg_none_of X G zbool
  have z_gcd := PySem.W.mg_of X G zgcd
  have z_int := PySem.W.mg_none_of X G zint
  have z_isinstance := PySem.W.mg_none_of X G zisinstance
  have z_len := PySem.W.mg_none_of X G zlen
  have z_list := PySem.W.mg_none_of X G zlist
  have z_range := PySem.W.mg_none_of X G zrange
  have z_repr := PySem.W.mg_none_of X G zrepr
  have z_tuple := PySem.W.mg_none_of X G ztuple
  have z_zip := PySem.W.mg_none_of X G zzip
  refine ⟨PySem.W.fnOf "law" "law" (defArgs s_law) (defBody s_law) (defScope s_law) .none kV_law dc_law pm_law an_law cd_law ct_law, fun s v => .of_eq rfl, fun base _ _ => ?_⟩
  have G__joined := ok__joined (P := l.prog) (w := w) (base := base) D__joined         
  have GL__joined := okL__joined (P := l.prog) (w := w) (base := base) D__joined         
  have G__law_draw := ok__law_draw (P := l.prog) (w := w) (base := base) D__law_draw         z_int z_len
  have G__law_number := ok__law_number (P := l.prog) (w := w) (base := base) D__law_number         z_abs z_int
  have G__law_amount := ok__law_amount (P := l.prog) (w := w) (base := base) D__law_amount D__law_draw G__law_draw D__law_number G__law_number        
  have G__law_is_number := ok__law_is_number (P := l.prog) (w := w) (base := base) D__law_is_number D__law_number G__law_number        z_bool z_int z_isinstance z_len z_tuple
  have G__law_less := ok__law_less (P := l.prog) (w := w) (base := base) D__law_less         
  have G__law_plus := ok__law_plus (P := l.prog) (w := w) (base := base) D__law_plus D__law_number G__law_number        
  have G__law_minus := ok__law_minus (P := l.prog) (w := w) (base := base) D__law_minus D__law_plus G__law_plus        
  have G__law_times := ok__law_times (P := l.prog) (w := w) (base := base) D__law_times D__law_number G__law_number        
  have G__law_piece_tells := ok__law_piece_tells (P := l.prog) (w := w) (base := base) D__law_piece_tells D__law_minus G__law_minus D__law_plus G__law_plus D__law_times G__law_times        
  have G__law_is_line := ok__law_is_line (P := l.prog) (w := w) (base := base) D__law_is_line D__law_is_number G__law_is_number D__law_less G__law_less D__law_piece_tells G__law_piece_tells        z_all z_isinstance z_len z_list z_range z_tuple
  have G__law_line := ok__law_line (P := l.prog) (w := w) (base := base) D__law_line D__law_amount G__law_amount D__law_draw G__law_draw D__law_number G__law_number D__law_plus G__law_plus D__law_times G__law_times        z_range
  have G__law_places := ok__law_places (P := l.prog) (w := w) (base := base) D__law_places D__law_less G__law_less D__law_plus G__law_plus D__law_times G__law_times        z_len z_range
  have GL__law_places := okL__law_places (P := l.prog) (w := w) (base := base) D__law_places D__law_less G__law_less D__law_plus G__law_plus D__law_times G__law_times        z_len z_range
  have G__law_same_starts := ok__law_same_starts (P := l.prog) (w := w) (base := base) D__law_same_starts D__law_amount G__law_amount D__law_draw G__law_draw D__law_piece_tells G__law_piece_tells D__law_times G__law_times        z_len z_range
  have G__law_tells := ok__law_tells (P := l.prog) (w := w) (base := base) D__law_tells D__law_less G__law_less D__law_piece_tells G__law_piece_tells        
  have G_number := ok_number (P := l.prog) (w := w) (base := base) D_number         z_gcd
  have G_minus := ok_minus (P := l.prog) (w := w) (base := base) D_minus D_number G_number        
  have G_plus := ok_plus (P := l.prog) (w := w) (base := base) D_plus D_number G_number        
  have G_times := ok_times (P := l.prog) (w := w) (base := base) D_times D_number G_number        
  have G__told := ok__told (P := l.prog) (w := w) (base := base) D__told D_minus G_minus D_plus G_plus D_times G_times        
  have G__from := ok__from (P := l.prog) (w := w) (base := base) D__from D__told G__told        
  have G__cut := ok__cut (P := l.prog) (w := w) (base := base) D__cut D__from G__from        z_len
  have G_compare := ok_compare (P := l.prog) (w := w) (base := base) D_compare         
  have G__starts := ok__starts (P := l.prog) (w := w) (base := base) D__starts D_compare G_compare        
  have G__side_by_side := ok__side_by_side (P := l.prog) (w := w) (base := base) D__side_by_side D__cut G__cut D__starts G__starts        z_list z_zip
  have G_add_lines := ok_add_lines (P := l.prog) (w := w) (base := base) D_add_lines D__joined G__joined D__side_by_side G__side_by_side D_plus G_plus        
  have GL_add_lines := okL_add_lines (P := l.prog) (w := w) (base := base) D_add_lines D__joined G__joined D__side_by_side G__side_by_side D_plus G_plus GL__joined       
  have G_scale_line := ok_scale_line (P := l.prog) (w := w) (base := base) D_scale_line D__joined G__joined D_times G_times        
  have GL_scale_line := okL_scale_line (P := l.prog) (w := w) (base := base) D_scale_line D__joined G__joined D_times G_times GL__joined       
  have G_law := ok_law (P := l.prog) (w := w) (base := base) D_law D__law_amount G__law_amount D__law_draw G__law_draw D__law_is_line G__law_is_line D__law_line G__law_line D__law_places G__law_places D__law_plus G__law_plus D__law_same_starts G__law_same_starts D__law_tells G__law_tells D__law_times G__law_times D_add_lines G_add_lines D_scale_line G_scale_line GL__law_places GL_add_lines GL_scale_line       z_list z_repr
  refine G_law.imp fun vs H Q E hh => ?_
  obtain ⟨a, ns, rfl, hS, hl, k⟩ := hh
  refine ⟨rfl, H, [.list (ns.map PyData.int)], Evl.Ex.refl H, .cons (.lst hS (dp_ints ns)) .nil, ?_⟩
  rw [law_true ns hl]
  intro v B1 H1 _ q1
  cases q1
  exact k H1
end Lw
open PySem PySem.W PyProof.Rows
set_option maxHeartbeats 0 in
theorem PySem.Challenge.cw_surehedge_k79_sums_of_lines_holds : PySem.Challenge.rw_surehedge_k79_sums_of_lines.Holds := by
  w_on; o_law; k_head; (case hw => w_witness2)
  k_fill
  refine Sf.walk_top (l := PySem.Challenge.rw_surehedge_k79_sums_of_lines) (n := 63) (x := "script") (sp := fun w => Lw.spLaw _) rfl (by decide) rfl (fun w h Y => PySem.W.kIn_of Y) ?F (fun _ _ a ns hl hS => ⟨a, ns, rfl, hS, hl, fun _ => rfl⟩)
  case F =>
    intro w mg fa h KX G hmg
    refine' Lw.all_mk KX G hmg ?a_joined ?l_joined ?c_joined ?k_joined ?a_law_draw ?l_law_draw ?c_law_draw ?k_law_draw ?a_law_number ?l_law_number ?c_law_number ?k_law_number ?a_law_amount ?l_law_amount ?c_law_amount ?k_law_amount ?a_law_is_number ?l_law_is_number ?c_law_is_number ?k_law_is_number ?a_law_less ?l_law_less ?c_law_less ?k_law_less ?a_law_plus ?l_law_plus ?c_law_plus ?k_law_plus ?a_law_minus ?l_law_minus ?c_law_minus ?k_law_minus ?a_law_times ?l_law_times ?c_law_times ?k_law_times ?a_law_piece_tells ?l_law_piece_tells ?c_law_piece_tells ?k_law_piece_tells ?a_law_is_line ?l_law_is_line ?c_law_is_line ?k_law_is_line ?a_law_line ?l_law_line ?c_law_line ?k_law_line ?a_law_places ?l_law_places ?c_law_places ?k_law_places ?a_law_same_starts ?l_law_same_starts ?c_law_same_starts ?k_law_same_starts ?a_law_tells ?l_law_tells ?c_law_tells ?k_law_tells ?anumber ?lnumber ?cnumber ?knumber ?aminus ?lminus ?cminus ?kminus ?aplus ?lplus ?cplus ?kplus ?atimes ?ltimes ?ctimes ?ktimes ?a_told ?l_told ?c_told ?k_told ?a_from ?l_from ?c_from ?k_from ?a_cut ?l_cut ?c_cut ?k_cut ?acompare ?lcompare ?ccompare ?kcompare ?a_starts ?l_starts ?c_starts ?k_starts ?a_side_by_side ?l_side_by_side ?c_side_by_side ?k_side_by_side ?aadd_lines ?ladd_lines ?cadd_lines ?kadd_lines ?ascale_line ?lscale_line ?cscale_line ?kscale_line ?alaw ?llaw ?claw ?klaw ?zabs ?zall ?zbool ?zgcd ?zint ?zisinstance ?zlen ?zlist ?zrange ?zrepr ?ztuple ?zzip
    (case a_joined => k_is); (case l_joined => k_is); (case c_joined => k_is); (case k_joined => k_is); (case a_law_draw => k_is); (case l_law_draw => k_is); (case c_law_draw => k_is); (case k_law_draw => k_is); (case a_law_number => k_is); (case l_law_number => k_is); (case c_law_number => k_is); (case k_law_number => k_is); (case a_law_amount => k_is); (case l_law_amount => k_is); (case c_law_amount => k_is); (case k_law_amount => k_is); (case a_law_is_number => k_is); (case l_law_is_number => k_is); (case c_law_is_number => k_is); (case k_law_is_number => k_is); (case a_law_less => k_is); (case l_law_less => k_is); (case c_law_less => k_is); (case k_law_less => k_is); (case a_law_plus => k_is); (case l_law_plus => k_is); (case c_law_plus => k_is); (case k_law_plus => k_is); (case a_law_minus => k_is); (case l_law_minus => k_is); (case c_law_minus => k_is); (case k_law_minus => k_is); (case a_law_times => k_is); (case l_law_times => k_is); (case c_law_times => k_is); (case k_law_times => k_is); (case a_law_piece_tells => k_is); (case l_law_piece_tells => k_is); (case c_law_piece_tells => k_is); (case k_law_piece_tells => k_is); (case a_law_is_line => k_is); (case l_law_is_line => k_is); (case c_law_is_line => k_is); (case k_law_is_line => k_is); (case a_law_line => k_is); (case l_law_line => k_is); (case c_law_line => k_is); (case k_law_line => k_is); (case a_law_places => k_is); (case l_law_places => k_is); (case c_law_places => k_is); (case k_law_places => k_is); (case a_law_same_starts => k_is); (case l_law_same_starts => k_is); (case c_law_same_starts => k_is); (case k_law_same_starts => k_is); (case a_law_tells => k_is); (case l_law_tells => k_is); (case c_law_tells => k_is); (case k_law_tells => k_is); (case anumber => k_is); (case lnumber => k_is); (case cnumber => k_is); (case knumber => k_is); (case aminus => k_is); (case lminus => k_is); (case cminus => k_is); (case kminus => k_is); (case aplus => k_is); (case lplus => k_is); (case cplus => k_is); (case kplus => k_is); (case atimes => k_is); (case ltimes => k_is); (case ctimes => k_is); (case ktimes => k_is); (case a_told => k_is); (case l_told => k_is); (case c_told => k_is); (case k_told => k_is); (case a_from => k_is); (case l_from => k_is); (case c_from => k_is); (case k_from => k_is); (case a_cut => k_is); (case l_cut => k_is); (case c_cut => k_is); (case k_cut => k_is); (case acompare => k_is); (case lcompare => k_is); (case ccompare => k_is); (case kcompare => k_is); (case a_starts => k_is); (case l_starts => k_is); (case c_starts => k_is); (case k_starts => k_is); (case a_side_by_side => k_is); (case l_side_by_side => k_is); (case c_side_by_side => k_is); (case k_side_by_side => k_is); (case aadd_lines => k_is); (case ladd_lines => k_is); (case cadd_lines => k_is); (case kadd_lines => k_is); (case ascale_line => k_is); (case lscale_line => k_is); (case cscale_line => k_is); (case kscale_line => k_is); (case alaw => k_is); (case llaw => k_is); (case claw => k_is); (case klaw => k_is); (case zabs => k_is); (case zall => k_is); (case zbool => k_is); (case zgcd => k_is); (case zint => k_is); (case zisinstance => k_is); (case zlen => k_is); (case zlist => k_is); (case zrange => k_is); (case zrepr => k_is); (case ztuple => k_is); (case zzip => k_is)
