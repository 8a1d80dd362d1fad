import PyProof.Rows.All
import Wide.All
import OpenK.AllK
import Wide.FinOn
import HandS.ForMost
import HandS.Exc
import HandS.Wide
import HandS.Lambda
import HandS.Zip
import HandS.TupAny
import HandS.TupMul
import HandS.IsInst
import HandS.Conv
import HandS.Codes
import KE.KTupSum
import HandS.SortInts
import HandS.SortKw
import HandS.Style
import HandS.TryMany
import HandS.WordsExc
import KE.KExcInit
import HandS.ForSpec
import HandS.TupLe
import HandS.EndTab
import KE.KNestM
import KE.KExcLine
import KE.RegKTryMore
import KE.GoesMore
import KE.GoesEnum
import HandS.WideBits
import KE.KRevSl
import HandS.SortRule
import HandS.Defaults
import HandS.MakeKwOnly
import HandS.Flt
import KE.GoesZip
import HandS.TryOnly
import HandS.Deep
import HandS.List
import PySem.Challenge.RW_sumsalone_k33_whole_nearest_rows
set_option Elab.async false
set_option linter.all false
set_option maxRecDepth 100000
set_option maxHeartbeats 4000000
namespace SQ
open PySem PySem.Spec PyProof.Rows L2

/-- data as a tree -/
inductive D where
  | non | bl (b : Bool) | int (i : Int) | str (x : Str)
  | tup (xs : List D) | lst (xs : List D)
  | dk (ks : List Key) (ds : List D)
  | cell (a : Addr)
  | scr (ns : List Int)
  | ty (n : String)
  | ins (C : Addr) (ns : List Str) (ds : List D)

mutual
def Rep (K : PySem.W.Frag) (S : Addr → Prop) (H : Hp) : D → V → Prop
  | .non, v => v = .non
  | .bl b, v => v = .bl b
  | .int i, v => v = .int i
  | .str x, v => v = .str x
  | .tup xs, v => ∃ a vs, v = .ref a ∧ SqT K H a vs ∧ Reps K S H xs vs
  | .lst xs, v => ∃ a vs, v = .ref a ∧ ¬ S a ∧ H a = some (.lst vs) ∧ Reps K S H xs vs
  | .dk ks ds, v => ∃ a kws, v = .ref a ∧ ¬ S a ∧ H a = some (.dK kws) ∧ kws.map (·.1) = ks ∧ Reps K S H ds (kws.map (·.2))
  | .cell a, v => v = .ref a
  | .ty n, v => v = .ty n
  | .scr ns, v => ∃ a, v = .ref a ∧ ((¬ S a ∧ Rd H a (.lst (ns.map V.int))) ∨ SqL K (fun _ => none) a (ns.map V.int))
  | .ins C ns ds, v => ∃ a dx fs, v = .ref a ∧ ¬ S a ∧ H a = some (.ins C dx fs) ∧ fs.map (·.1) = ns ∧ Reps K S H ds (fs.map (·.2))
def Reps (K : PySem.W.Frag) (S : Addr → Prop) (H : Hp) : List D → List V → Prop
  | [], vs => vs = []
  | d :: ds, vs => ∃ v ws, vs = v :: ws ∧ Rep K S H d v ∧ Reps K S H ds ws
end

/-- what may change in its place -/
def Mt : HO → Prop
  | .lst _ => True
  | .dK _ => True
  | .dT _ => True
  | .tbl _ => True
  | .set _ _ => True
  | _ => False
def Live (S : Addr → Prop) (H : Hp) : Prop := ∀ a, S a → ∃ o, H a = some o ∧ Mt o
/-- all but S (and tables) stays -/
def Rel (S : Addr → Prop) (H H' : Hp) : Prop := ∀ a o, ¬ S a → H a = some o → (∀ ps, o ≠ .tbl ps) → H' a = some o
/-- all stays -/
def Ext (H H' : Hp) : Prop := ∀ a o, H a = some o → H' a = some o
theorem Ext.refl (H : Hp) : Ext H H := fun _ _ h => h
theorem Ext.trans {H H1 H2 : Hp} (a : Ext H H1) (b : Ext H1 H2) : Ext H H2 := fun x o h => b x o (a x o h)
theorem Ext.new {H : Hp} {p : Addr} {o : HO} (h : H p = none) : Ext H (upd H p o) := fun a u e => by
  rw [upd_ne (ne_of_none e h)]; exact e
theorem Ext.rel {S : Addr → Prop} {H H' : Hp} (e : Ext H H') : Rel S H H' := fun a o _ h _ => e a o h
theorem Rel.refl (S : Addr → Prop) (H : Hp) : Rel S H H := fun _ _ _ h _ => h
theorem Rel.trans {S : Addr → Prop} {H H1 H2 : Hp} (a : Rel S H H1) (b : Rel S H1 H2) : Rel S H H2 := fun x o n h t => b x o n (a x o n h t) t
theorem Rel.weak {S S' : Addr → Prop} {H H' : Hp} (r : Rel S H H') (h : ∀ a, S a → S' a) : Rel S' H H' := fun a o n q t => r a o (fun z => n (h a z)) q t
theorem Live.not {S : Addr → Prop} {H : Hp} (l : Live S H) {a : Addr} {o : HO} (h : H a = some o) (n : ¬ Mt o) : ¬ S a := fun z => by
  obtain ⟨u, hu, m⟩ := l a z
  rw [h] at hu; cases hu; exact n m
theorem Live.fresh {S : Addr → Prop} {H : Hp} (l : Live S H) {a : Addr} (h : H a = none) : ¬ S a := fun z => by
  obtain ⟨u, hu, _⟩ := l a z
  rw [h] at hu; cases hu
theorem Live.ext {S : Addr → Prop} {H H' : Hp} (l : Live S H) (e : Ext H H') : Live S H' := fun a z => by
  obtain ⟨u, hu, m⟩ := l a z
  exact ⟨u, e a u hu, m⟩

theorem rd_rel {S : Addr → Prop} {H H' : Hp} {a : Addr} {u : HO} (r : Rel S H H') (n : ¬ S a) (h : Rd H a u) (t : ∀ ps, u ≠ .tbl ps) : Rd H' a u := by
  rcases h with h | ⟨o, h⟩
  · exact .inl (r a _ n h t)
  · exact .inr ⟨o, r a _ n h (fun ps z => nomatch z)⟩
theorem sqt_rel {K : PySem.W.Frag} {S : Addr → Prop} {H H' : Hp} {a : Addr} {xs : List V} (r : Rel S H H') (l : Live S H) (h : SqT K H a xs) : SqT K H' a xs := by
  rcases h with (h | ⟨o, h⟩) | h
  · exact .inl (.inl (r a _ (l.not h (fun z => z)) h (fun ps z => nomatch z)))
  · exact .inl (.inr ⟨o, r a _ (l.not h (fun z => z)) h (fun ps z => nomatch z)⟩)
  · exact .inr h

mutual
theorem Rep.rel2 {K : PySem.W.Frag} {S T : Addr → Prop} {H H' : Hp} (r : Rel S H H') (l : Live S H) (hs : ∀ a, S a → T a) : ∀ (d : D) (v : V), Rep K T H d v → Rep K T H' d v
  | .non, v, h => h
  | .bl b, v, h => h
  | .int i, v, h => h
  | .str x, v, h => h
  | .tup xs, v, h => by
    obtain ⟨a, vs, e, t, q⟩ := h
    exact ⟨a, vs, e, sqt_rel r l t, Reps.rel2 r l hs xs vs q⟩
  | .lst xs, v, h => by
    obtain ⟨a, vs, e, n, t, q⟩ := h
    exact ⟨a, vs, e, n, r a _ (fun z => n (hs a z)) t (fun ps z => nomatch z), Reps.rel2 r l hs xs vs q⟩
  | .dk ks ds, v, h => by
    obtain ⟨a, kws, e, n, t, k, q⟩ := h
    exact ⟨a, kws, e, n, r a _ (fun z => n (hs a z)) t (fun ps z => nomatch z), k, Reps.rel2 r l hs ds _ q⟩
  | .scr ns, v, h => by
    obtain ⟨a, e, h⟩ := h
    rcases h with ⟨n, t⟩ | t
    · exact ⟨a, e, .inl ⟨n, rd_rel r (fun z => n (hs a z)) t (fun ps z => nomatch z)⟩⟩
    · exact ⟨a, e, .inr t⟩
  | .cell a, v, h => h
  | .ty n, v, h => h
  | .ins C ns ds, v, h => by
    obtain ⟨a, dx, fs, e, n, t, k, q⟩ := h
    exact ⟨a, dx, fs, e, n, r a _ (fun z => n (hs a z)) t (fun ps z => nomatch z), k, Reps.rel2 r l hs ds _ q⟩
theorem Reps.rel2 {K : PySem.W.Frag} {S T : Addr → Prop} {H H' : Hp} (r : Rel S H H') (l : Live S H) (hs : ∀ a, S a → T a) : ∀ (ds : List D) (vs : List V), Reps K T H ds vs → Reps K T H' ds vs
  | [], vs, h => h
  | d :: ds, vs, h => by
    obtain ⟨v, ws, e, a, b⟩ := h
    exact ⟨v, ws, e, Rep.rel2 r l hs d v a, Reps.rel2 r l hs ds ws b⟩
end
theorem Rep.rel {K : PySem.W.Frag} {S : Addr → Prop} {H H' : Hp} (r : Rel S H H') (l : Live S H) (d : D) (v : V) (h : Rep K S H d v) : Rep K S H' d v := Rep.rel2 r l (fun _ z => z) d v h
theorem Reps.rel {K : PySem.W.Frag} {S : Addr → Prop} {H H' : Hp} (r : Rel S H H') (l : Live S H) (d : List D) (v : List V) (h : Reps K S H d v) : Reps K S H' d v := Reps.rel2 r l (fun _ z => z) d v h
/-- nothing stands there but a table -/
def Fre (H : Hp) (a : Addr) : Prop := ∀ o, H a = some o → ∃ pt, o = .tbl pt
theorem Fre.of {H : Hp} {a : Addr} (h : H a = none) : Fre H a := fun o e => by rw [h] at e; cases e
theorem Fre.no {H : Hp} {a : Addr} {o : HO} (f : Fre H a) (h : H a = some o) (n : ∀ pt, o ≠ .tbl pt) : False := by
  obtain ⟨pt, e⟩ := f o h
  exact n pt e
/-! more addresses shut out, none of them of an object that stands -/
mutual
theorem Rep.more {K : PySem.W.Frag} {S S' : Addr → Prop} {H : Hp} (m : ∀ a, S' a → S a ∨ Fre H a) : ∀ (d : D) (v : V), Rep K S H d v → Rep K S' H d v
  | .non, v, h => h
  | .bl b, v, h => h
  | .int i, v, h => h
  | .str x, v, h => h
  | .tup xs, v, h => by
    obtain ⟨a, vs, e, t, q⟩ := h
    exact ⟨a, vs, e, t, Reps.more m xs vs q⟩
  | .lst xs, v, h => by
    obtain ⟨a, vs, e, n, t, q⟩ := h
    refine ⟨a, vs, e, fun z => ?_, t, Reps.more m xs vs q⟩
    rcases m a z with z | z
    · exact n z
    · exact z.no t (fun pt q => nomatch q)
  | .dk ks ds, v, h => by
    obtain ⟨a, kws, e, n, t, k, q⟩ := h
    refine ⟨a, kws, e, fun z => ?_, t, k, Reps.more m ds _ q⟩
    rcases m a z with z | z
    · exact n z
    · exact z.no t (fun pt q => nomatch q)
  | .scr ns, v, h => by
    obtain ⟨a, e, h⟩ := h
    rcases h with ⟨n, t⟩ | t
    · refine ⟨a, e, .inl ⟨fun z => ?_, t⟩⟩
      rcases m a z with z | z
      · exact n z
      · rcases t with t | ⟨o, t⟩
        · exact z.no t (fun pt q => nomatch q)
        · exact z.no t (fun pt q => nomatch q)
    · exact ⟨a, e, .inr t⟩
  | .cell a, v, h => h
  | .ty n, v, h => h
  | .ins C ns ds, v, h => by
    obtain ⟨a, dx, fs, e, n, t, k, q⟩ := h
    refine ⟨a, dx, fs, e, fun z => ?_, t, k, Reps.more m ds _ q⟩
    rcases m a z with z | z
    · exact n z
    · exact z.no t (fun pt q => nomatch q)
theorem Reps.more {K : PySem.W.Frag} {S S' : Addr → Prop} {H : Hp} (m : ∀ a, S' a → S a ∨ Fre H a) : ∀ (ds : List D) (vs : List V), Reps K S H ds vs → Reps K S' H ds vs
  | [], vs, h => h
  | d :: ds, vs, h => by
    obtain ⟨v, ws, e, a, b⟩ := h
    exact ⟨v, ws, e, Rep.more m d v a, Reps.more m ds ws b⟩
end
mutual
theorem Rep.ex {K : PySem.W.Frag} {S : Addr → Prop} {H H' : Hp} (r : Ext H H') : ∀ (d : D) (v : V), Rep K S H d v → Rep K S H' d v
  | .non, v, h => h
  | .bl b, v, h => h
  | .int i, v, h => h
  | .str x, v, h => h
  | .tup xs, v, h => by
    obtain ⟨a, vs, e, t, q⟩ := h
    refine ⟨a, vs, e, ?_, Reps.ex r xs vs q⟩
    rcases t with (t | ⟨o, t⟩) | t
    · exact .inl (.inl (r a _ t))
    · exact .inl (.inr ⟨o, r a _ t⟩)
    · exact .inr t
  | .lst xs, v, h => by
    obtain ⟨a, vs, e, n, t, q⟩ := h
    exact ⟨a, vs, e, n, r a _ t, Reps.ex r xs vs q⟩
  | .dk ks ds, v, h => by
    obtain ⟨a, kws, e, n, t, k, q⟩ := h
    exact ⟨a, kws, e, n, r a _ t, k, Reps.ex r ds _ q⟩
  | .cell a, v, h => h
  | .ty n, v, h => h
  | .scr ns, v, h => by
    obtain ⟨a, e, h⟩ := h
    rcases h with ⟨n, t⟩ | t
    · refine ⟨a, e, .inl ⟨n, ?_⟩⟩
      rcases t with t | ⟨o, t⟩
      · exact .inl (r a _ t)
      · exact .inr ⟨o, r a _ t⟩
    · exact ⟨a, e, .inr t⟩
  | .ins C ns ds, v, h => by
    obtain ⟨a, dx, fs, e, n, t, k, q⟩ := h
    exact ⟨a, dx, fs, e, n, r a _ t, k, Reps.ex r ds _ q⟩
theorem Reps.ex {K : PySem.W.Frag} {S : Addr → Prop} {H H' : Hp} (r : Ext H H') : ∀ (ds : List D) (vs : List V), Reps K S H ds vs → Reps K S H' ds vs
  | [], vs, h => h
  | d :: ds, vs, h => by
    obtain ⟨v, ws, e, a, b⟩ := h
    exact ⟨v, ws, e, Rep.ex r d v a, Reps.ex r ds ws b⟩
end
section
variable {K : PySem.W.Frag} {S S' : Addr → Prop} {H H' : Hp}
theorem Rep.less {d : D} {v : V} (h : Rep K S H d v) (m : ∀ a, S' a → S a) : Rep K S' H d v := Rep.more (fun a z => .inl (m a z)) d v h
theorem Reps.less {ds : List D} {vs : List V} (h : Reps K S H ds vs) (m : ∀ a, S' a → S a) : Reps K S' H ds vs := Reps.more (fun a z => .inl (m a z)) ds vs h
theorem Rep.ext {d : D} {v : V} (h : Rep K S H d v) (e : Ext H H') : Rep K S H' d v := Rep.ex e d v h
theorem Reps.ext {ds : List D} {vs : List V} (h : Reps K S H ds vs) (e : Ext H H') : Reps K S H' ds vs := Reps.ex e ds vs h
theorem Reps.length : ∀ {ds : List D} {vs : List V}, Reps K S H ds vs → ds.length = vs.length
  | [], vs, h => by have q : vs = [] := h; subst q; rfl
  | d :: ds, vs, h => by
    obtain ⟨v, ws, e, _, b⟩ := h
    rw [e, List.length_cons, List.length_cons, Reps.length b]
theorem Reps.nil : Reps K S H [] [] := rfl
theorem Reps.cons {d : D} {v : V} {ds : List D} {vs : List V} (h : Rep K S H d v) (t : Reps K S H ds vs) : Reps K S H (d :: ds) (v :: vs) := ⟨v, vs, rfl, h, t⟩
theorem Reps.app : ∀ {ds es : List D} {vs ws : List V}, Reps K S H ds vs → Reps K S H es ws → Reps K S H (ds ++ es) (vs ++ ws)
  | [], es, vs, ws, h, t => by have e : vs = [] := h; rw [e]; exact t
  | d :: ds, es, vs, ws, h, t => by
    obtain ⟨v, us, e, a, b⟩ := h
    rw [e]
    exact ⟨v, us ++ ws, rfl, a, Reps.app b t⟩
theorem Reps.get : ∀ {ds : List D} {vs : List V} {i : Nat} {d : D}, Reps K S H ds vs → ds[i]? = some d → ∃ v, vs[i]? = some v ∧ Rep K S H d v
  | [], vs, i, d, h, e => by simp at e
  | d' :: ds, vs, 0, d, h, e => by
    obtain ⟨v, us, q, a, b⟩ := h
    simp at e; subst e
    exact ⟨v, by rw [q]; rfl, a⟩
  | d' :: ds, vs, i + 1, d, h, e => by
    obtain ⟨v, us, q, a, b⟩ := h
    obtain ⟨w, h1, h2⟩ := Reps.get (i := i) (d := d) b (by simpa using e)
    exact ⟨w, by rw [q]; simpa using h1, h2⟩
theorem Reps.getV : ∀ {ds : List D} {vs : List V} {i : Nat} {v : V}, Reps K S H ds vs → vs[i]? = some v → ∃ d, ds[i]? = some d ∧ Rep K S H d v
  | [], vs, i, v, h, e => by have q : vs = [] := h; subst q; simp at e
  | d' :: ds, vs, 0, v, h, e => by
    obtain ⟨w, us, q, a, b⟩ := h
    rw [q] at e; simp at e; subst e
    exact ⟨d', rfl, a⟩
  | d' :: ds, vs, i + 1, v, h, e => by
    obtain ⟨w, us, q, a, b⟩ := h
    rw [q] at e
    obtain ⟨d, h1, h2⟩ := Reps.getV (i := i) (v := v) b (by simpa using e)
    exact ⟨d, by simpa using h1, h2⟩
theorem Reps.ints : ∀ {ns : List Int} {vs : List V}, Reps K S H (ns.map D.int) vs ↔ vs = ns.map V.int
  | [], vs => Iff.rfl
  | n :: ns, vs => by
    constructor
    · rintro ⟨v, us, e, a, b⟩
      have a' : v = .int n := a
      rw [e, a', Reps.ints.mp b]; rfl
    · rintro e
      exact ⟨.int n, ns.map V.int, e, rfl, Reps.ints.mpr rfl⟩
theorem Reps.drop : ∀ {ds : List D} {vs : List V} (n : Nat), Reps K S H ds vs → Reps K S H (ds.drop n) (vs.drop n)
  | ds, vs, 0, h => h
  | [], vs, n + 1, h => by have q : vs = [] := h; subst q; exact rfl
  | d :: ds, vs, n + 1, h => by
    obtain ⟨w, us, q, a, b⟩ := h
    subst q
    exact Reps.drop n b
theorem Reps.take : ∀ {ds : List D} {vs : List V} (n : Nat), Reps K S H ds vs → Reps K S H (ds.take n) (vs.take n)
  | ds, vs, 0, h => rfl
  | [], vs, n + 1, h => by have q : vs = [] := h; subst q; exact rfl
  | d :: ds, vs, n + 1, h => by
    obtain ⟨w, us, q, a, b⟩ := h
    subst q
    exact ⟨w, us.take n, rfl, a, Reps.take n b⟩
theorem Reps.set : ∀ {ds : List D} {vs : List V} (n : Nat) {d : D} {v : V}, Reps K S H ds vs → Rep K S H d v → Reps K S H (ds.set n d) (vs.set n v)
  | [], vs, n, d, v, h, q => by have z : vs = [] := h; subst z; exact rfl
  | d' :: ds, vs, 0, d, v, h, q => by
    obtain ⟨w, us, z, a, b⟩ := h
    subst z
    exact ⟨v, us, rfl, q, b⟩
  | d' :: ds, vs, n + 1, d, v, h, q => by
    obtain ⟨w, us, z, a, b⟩ := h
    subst z
    exact ⟨w, us.set n v, rfl, a, Reps.set n b q⟩
theorem Reps.one {d : D} {v : V} (h : Rep K S H d v) : Reps K S H [d] [v] := .cons h .nil
end
end SQ
namespace SQ
open PySem PySem.Spec PyProof.Rows L2

/-! ### a def's body: slots, temporaries, what is owned -/
inductive Sl where
  | un | val (d : D) | own (xs : List D)
abbrev Ps := List (Sl × Option V)
/-- an exception, as a tree -/
structure Exc where
  cls : Addr
  ns : List Str
  ds : List D
def RepX (K : PySem.W.Frag) (S : Addr → Prop) (H : Hp) (x : Exc) (cls : Value) (d : Option Addr) : Prop :=
  cls = .ref x.cls ∧ (x.ns = [] ∨ ∃ dd fs, d = some dd ∧ H dd = some (.xd fs) ∧ fs.map (·.1) = x.ns ∧ Reps K S H x.ds (fs.map (·.2)))
/-- what a body stands in: addresses that may change, what holds of them; the wish of exceptions -/
structure Cxt where
  S : Addr → Prop
  W : Hp → Prop
  E : XK
  X : Exc → Prop
/-- what the library tells by its own words (code objects) stays -/
def Exo (H H' : Hp) : Prop := ∀ a φ, H a = some (.ext φ) → H' a = some (.ext φ)
structure Cxt.Ok (Γ : Cxt) : Prop where
  al : ∀ H, Γ.W H → Live Γ.S H
  st : ∀ H H', Γ.W H → (∀ a, Γ.S a → H' a = H a) → Exo H H' → Γ.W H'
def owned : Ps → List Addr
  | [] => []
  | (.own _, some (.ref a)) :: r => a :: owned r
  | _ :: r => owned r
def slot (K : PySem.W.Frag) (S : Addr → Prop) (H : Hp) : Sl → Option V → Prop
  | .un, _ => True
  | .val d, o => ∃ v, o = some v ∧ Rep K S H d v
  | .own xs, o => ∃ a vs, o = some (.ref a) ∧ H a = some (.lst vs) ∧ Reps K S H xs vs
/-- shut out: what the context may change, and what is owned -/
def Out (Γ : Cxt) (ps : Ps) : Addr → Prop := fun a => Γ.S a ∨ a ∈ owned ps
structure Env (K : PySem.W.Frag) (Γ : Cxt) (H0 H : Hp) (ps : Ps) : Prop where
  ok : Γ.Ok
  w : Γ.W H
  rel : Rel Γ.S H0 H
  nd : (owned ps).Nodup
  fr : ∀ a ∈ owned ps, ¬ Γ.S a ∧ ∀ o, H0 a = some o → ∃ pt, o = .tbl pt
  sl : ∀ p ∈ ps, slot K (Out Γ ps) H p.1 p.2
  thr : ∀ x cls d H', Rel Γ.S H0 H' → Γ.W H' → RepX K Γ.S H' x cls d → Γ.X x → Γ.E cls d H'

theorem owned_own {xs : List D} {a : Addr} {r : Ps} : owned ((.own xs, some (.ref a)) :: r) = a :: owned r := rfl
theorem owned_val {d : D} {o : Option V} {r : Ps} : owned ((.val d, o) :: r) = owned r := rfl
theorem owned_un {o : Option V} {r : Ps} : owned ((.un, o) :: r) = owned r := rfl
theorem owned_app : ∀ {p q : Ps}, owned (p ++ q) = owned p ++ owned q
  | [], q => rfl
  | (.un, o) :: r, q => owned_app (p := r)
  | (.val d, o) :: r, q => owned_app (p := r)
  | (.own xs, none) :: r, q => owned_app (p := r)
  | (.own xs, some (.ref a)) :: r, q => congrArg (a :: ·) (owned_app (p := r) (q := q))
  | (.own xs, some .non) :: r, q => owned_app (p := r)
  | (.own xs, some (.bl _)) :: r, q => owned_app (p := r)
  | (.own xs, some (.int _)) :: r, q => owned_app (p := r)
  | (.own xs, some (.str _)) :: r, q => owned_app (p := r)
  | (.own xs, some (.byt _)) :: r, q => owned_app (p := r)
  | (.own xs, some (.flt _)) :: r, q => owned_app (p := r)
  | (.own xs, some (.ty _)) :: r, q => owned_app (p := r)
theorem owned_perm {p q : Ps} (h : p.Perm q) : (owned p).Perm (owned q) := by
  induction h with
  | nil => exact List.Perm.refl _
  | @cons x l1 l2 _ ih =>
    have e1 : owned (x :: l1) = owned [x] ++ owned l1 := by rw [← owned_app]; rfl
    have e2 : owned (x :: l2) = owned [x] ++ owned l2 := by rw [← owned_app]; rfl
    rw [e1, e2]
    exact List.Perm.append_left _ ih
  | swap x y l =>
    have e1 : owned (y :: x :: l) = owned [y] ++ (owned [x] ++ owned l) := by
      rw [← owned_app, ← owned_app]; rfl
    have e2 : owned (x :: y :: l) = owned [x] ++ (owned [y] ++ owned l) := by
      rw [← owned_app, ← owned_app]; rfl
    rw [e1, e2, ← List.append_assoc, ← List.append_assoc]
    exact List.Perm.append_right _ List.perm_append_comm
  | trans _ _ a b => exact a.trans b

section
variable {K : PySem.W.Frag} {Γ : Cxt} {H0 H H' : Hp} {ps qs : Ps} {a : Addr} {d : D} {v : V} {xs : List D} {vs : List V} {p : Sl × Option V}
theorem slot.mono {S S' : Addr → Prop} (f : ∀ d v, Rep K S H d v → Rep K S' H' d v) (g : ∀ ds vs, Reps K S H ds vs → Reps K S' H' ds vs)
    (k : ∀ xs, p.1 = .own xs → ∀ a vs, p.2 = some (.ref a) → H a = some (.lst vs) → H' a = some (.lst vs)) (h : slot K S H p.1 p.2) : slot K S' H' p.1 p.2 := by
  obtain ⟨s, o⟩ := p
  cases s with
  | un => trivial
  | val d =>
    obtain ⟨v, e, r⟩ := h
    exact ⟨v, e, f d v r⟩
  | own xs =>
    obtain ⟨a, vs, e, t, r⟩ := h
    exact ⟨a, vs, e, k xs rfl a vs e t, g xs vs r⟩
theorem mem_owned {xs : List D} (h : (Sl.own xs, some (V.ref a)) ∈ ps) : a ∈ owned ps := by
  induction ps with
  | nil => cases h
  | cons q r ih =>
    rw [← List.singleton_append, owned_app]
    rcases List.mem_cons.mp h with h | h
    · rw [← h]; exact List.mem_append_left _ (by simp [owned])
    · exact List.mem_append_right _ (ih h)
theorem of_owned (h : a ∈ owned ps) : ∃ xs, (Sl.own xs, some (V.ref a)) ∈ ps := by
  induction ps with
  | nil => cases h
  | cons q r ih =>
    rw [← List.singleton_append, owned_app] at h
    rcases List.mem_append.mp h with h | h
    · obtain ⟨s, o⟩ := q
      cases s with
      | un => cases h
      | val d => cases h
      | own xs =>
        cases o with
        | none => cases h
        | some v =>
          cases v with
          | ref b =>
            have e : a = b := by simpa [owned] using h
            exact ⟨xs, by rw [e]; exact List.mem_cons_self⟩
          | _ => cases h
    · obtain ⟨xs, m⟩ := ih h
      exact ⟨xs, List.mem_cons_of_mem _ m⟩
theorem Env.live (I : Env K Γ H0 H ps) : Live (Out Γ ps) H := fun a z => by
  rcases z with z | z
  · exact I.ok.al H I.w a z
  · obtain ⟨xs, m⟩ := of_owned z
    obtain ⟨b, vs, e, t, _⟩ := I.sl _ m
    cases e
    exact ⟨_, t, trivial⟩
theorem Env.perm (I : Env K Γ H0 H ps) (h : ps.Perm qs) : Env K Γ H0 H qs where
  ok := I.ok
  w := I.w
  rel := I.rel
  nd := (owned_perm h).nodup_iff.mp I.nd
  fr := fun a m => I.fr a ((owned_perm h).mem_iff.mpr m)
  sl := fun p m => slot.mono (fun d v r => r.less fun a z => z.imp id (fun z => (owned_perm h).mem_iff.mpr z)) (fun d v r => r.less fun a z => z.imp id (fun z => (owned_perm h).mem_iff.mpr z)) (fun _ _ _ _ _ e => e) (I.sl p (h.mem_iff.mpr m))
  thr := I.thr
theorem Env.drop (I : Env K Γ H0 H (p :: ps)) : Env K Γ H0 H ps where
  ok := I.ok
  w := I.w
  rel := I.rel
  nd := by
    have := I.nd
    rw [← List.singleton_append, owned_app] at this
    exact (List.nodup_append.mp this).2.1
  fr := fun a m => I.fr a (by rw [← List.singleton_append, owned_app]; exact List.mem_append_right _ m)
  sl := fun q m => by
    have k : ∀ a, Out Γ ps a → Out Γ (p :: ps) a := fun a z => z.imp id fun z => by
      rw [← List.singleton_append, owned_app]; exact List.mem_append_right _ z
    exact slot.mono (fun d v r => r.less k) (fun d v r => r.less k) (fun _ _ _ _ _ e => e) (I.sl q (List.mem_cons_of_mem _ m))
  thr := I.thr
theorem Env.dropL : ∀ {qs : Ps}, Env K Γ H0 H (qs ++ ps) → Env K Γ H0 H ps
  | [], I => I
  | _ :: _, I => Env.dropL (Env.drop I)
theorem Env.dropR (I : Env K Γ H0 H (ps ++ qs)) : Env K Γ H0 H ps := Env.dropL (I.perm List.perm_append_comm)
theorem Env.push (I : Env K Γ H0 H ps) (r : Rep K (Out Γ ps) H d v) : Env K Γ H0 H ((.val d, some v) :: ps) where
  ok := I.ok
  w := I.w
  rel := I.rel
  nd := I.nd
  fr := I.fr
  sl := fun q m => by
    rcases List.mem_cons.mp m with m | m
    · subst m; exact ⟨v, rfl, r⟩
    · exact I.sl q m
  thr := I.thr
theorem Env.pushU (I : Env K Γ H0 H ps) (o : Option V) : Env K Γ H0 H ((.un, o) :: ps) where
  ok := I.ok
  w := I.w
  rel := I.rel
  nd := I.nd
  fr := I.fr
  sl := fun q m => by
    rcases List.mem_cons.mp m with m | m
    · subst m; trivial
    · exact I.sl q m
  thr := I.thr
theorem Env.val (I : Env K Γ H0 H ps) (m : (Sl.val d, some v) ∈ ps) : Rep K (Out Γ ps) H d v := by
  obtain ⟨w, e, r⟩ := I.sl _ m
  cases e; exact r
theorem Env.own (I : Env K Γ H0 H ps) (m : (Sl.own xs, some (V.ref a)) ∈ ps) : ∃ vs, H a = some (.lst vs) ∧ Reps K (Out Γ ps) H xs vs := by
  obtain ⟨b, vs, e, t, r⟩ := I.sl _ m
  cases e; exact ⟨vs, t, r⟩
/-- new objects -/
theorem Env.ext (I : Env K Γ H0 H ps) (e : Ext H H') : Env K Γ H0 H' ps where
  ok := I.ok
  w := I.ok.st H H' I.w (fun a z => by
    obtain ⟨o, ho, _⟩ := I.ok.al H I.w a z
    rw [ho]; exact e a o ho) fun a φ h => e a _ h
  rel := I.rel.trans e.rel
  nd := I.nd
  fr := I.fr
  sl := fun q m => slot.mono (fun d v r => r.ext e) (fun d v r => r.ext e) (fun _ _ _ _ _ t => e _ _ t) (I.sl q m)
  thr := I.thr
/-- a new list becomes owned -/
theorem Env.pushO (I : Env K Γ H0 H ps) (hn : H a = none) (r : Reps K (Out Γ ps) H xs vs) : Env K Γ H0 (upd H a (.lst vs)) ((.own xs, some (.ref a)) :: ps) := by
  have ex : Ext H (upd H a (.lst vs)) := Ext.new hn
  have I1 := I.ext ex
  have hS : ¬ Γ.S a := (I.ok.al H I.w).fresh hn
  have hO : a ∉ owned ps := fun z => by
    obtain ⟨o, ho, _⟩ := I.live a (.inr z)
    rw [hn] at ho; cases ho
  have h0 : ∀ o, H0 a = some o → ∃ pt, o = HO.tbl pt := fun o e => by
    refine Classical.byContradiction fun ht => ?_
    have := I.rel a o hS e (fun ps z => ht ⟨ps, z⟩)
    rw [hn] at this; cases this
  have m : ∀ b, Out Γ ((.own xs, some (.ref a)) :: ps) b → Out Γ ps b ∨ Fre H b := fun b z => by
    rcases z with z | z
    · exact .inl (.inl z)
    · rcases List.mem_cons.mp z with z | z
      · subst z; exact .inr (Fre.of hn)
      · exact .inl (.inr z)
  have up : ∀ d v, Rep K (Out Γ ps) H d v → Rep K (Out Γ ((.own xs, some (.ref a)) :: ps)) (upd H a (.lst vs)) d v := fun d v r => (Rep.more m d v r).ext ex
  have ups : ∀ d v, Reps K (Out Γ ps) H d v → Reps K (Out Γ ((.own xs, some (.ref a)) :: ps)) (upd H a (.lst vs)) d v := fun d v r => (Reps.more m d v r).ext ex
  refine ⟨I1.ok, I1.w, I1.rel, List.nodup_cons.mpr ⟨hO, I.nd⟩, fun b z => ?_, fun q z => ?_, I1.thr⟩
  · rcases List.mem_cons.mp z with z | z
    · subst z; exact ⟨hS, h0⟩
    · exact I.fr b z
  · rcases List.mem_cons.mp z with z | z
    · subst z; exact ⟨a, vs, rfl, upd_same, ups _ _ r⟩
    · exact slot.mono up ups (fun _ _ _ _ _ t => ex _ _ t) (I.sl q z)
/-- what is owned is written -/
theorem Env.write {ys : List D} {ws : List V} (I : Env K Γ H0 H ((.own xs, some (.ref a)) :: ps)) (r : Reps K (Out Γ ((.own xs, some (.ref a)) :: ps)) H ys ws) : Env K Γ H0 (upd H a (.lst ws)) ((.own ys, some (.ref a)) :: ps) := by
  have hf := I.fr a List.mem_cons_self
  have ha : a ∉ owned ps := (List.nodup_cons.mp I.nd).1
  have rl : Rel (Out Γ ((.own xs, some (.ref a)) :: ps)) H (upd H a (.lst ws)) := fun b o n e _ => by
    rw [upd_ne (fun z => n (by rw [z]; exact .inr List.mem_cons_self))]; exact e
  have up : ∀ d v, Rep K (Out Γ ((.own xs, some (.ref a)) :: ps)) H d v → Rep K (Out Γ ((.own ys, some (.ref a)) :: ps)) (upd H a (.lst ws)) d v := fun d v r => Rep.rel rl I.live d v r
  have ups : ∀ d v, Reps K (Out Γ ((.own xs, some (.ref a)) :: ps)) H d v → Reps K (Out Γ ((.own ys, some (.ref a)) :: ps)) (upd H a (.lst ws)) d v := fun d v r => Reps.rel rl I.live d v r
  refine ⟨I.ok, I.ok.st H _ I.w (fun b z => upd_ne (fun e => hf.1 (e ▸ z))) (fun b φ h => by
    obtain ⟨vs0, hv0, _⟩ := I.own (a := a) List.mem_cons_self
    rw [upd_ne (fun z => by rw [z, hv0] at h; cases h)]; exact h), fun b o n e t => ?_, I.nd, fun b z => I.fr b z, fun q z => ?_, I.thr⟩
  · by_cases hb : b = a
    · subst hb
      obtain ⟨pt, hp⟩ := hf.2 o e
      exact absurd hp (t pt)
    · rw [upd_ne hb]; exact I.rel b o n e t
  · rcases List.mem_cons.mp z with z | z
    · subst z; exact ⟨a, ws, rfl, upd_same, ups _ _ r⟩
    · refine slot.mono up ups (fun xs' e1 b vs e2 e3 => ?_) (I.sl q (List.mem_cons_of_mem _ z))
      have hb : b ≠ a := fun e => ha (by
        obtain ⟨s, o⟩ := q
        have e1' : s = .own xs' := e1
        have e2' : o = some (.ref b) := e2
        subst e1' e2'
        exact e ▸ mem_owned z)
      rw [upd_ne hb]; exact e3
/-- a list that is owned is given up: it never changes from now on -/
theorem Env.freeze (I : Env K Γ H0 H ((.own xs, some (.ref a)) :: ps)) : Env K Γ H0 H ((.val (.lst xs), some (.ref a)) :: ps) := by
  obtain ⟨vs, h, r⟩ := I.own List.mem_cons_self
  have ha : a ∉ owned ps := (List.nodup_cons.mp I.nd).1
  refine I.drop.push (d := .lst xs) ⟨a, vs, rfl, fun z => ?_, h, r.less fun b z => z.imp id (List.mem_cons_of_mem _)⟩
  rcases z with z | z
  · exact (I.fr a List.mem_cons_self).1 z
  · exact ha z
/-- the context of a callee: what is owned may not be changed by it -/
def Cxt.sub (Γ : Cxt) (ps : Ps) (H : Hp) : Cxt := ⟨Out Γ ps, fun H' => Γ.W H' ∧ ∀ a ∈ owned ps, H' a = H a, fun _ _ _ => False, fun _ => False⟩
theorem Env.subOk (I : Env K Γ H0 H ps) : (Γ.sub ps H).Ok where
  al := fun H' w a z => by
    rcases z with z | z
    · exact I.ok.al H' w.1 a z
    · obtain ⟨xs, m⟩ := of_owned z
      obtain ⟨b, vs, e, t, _⟩ := I.sl _ m
      cases e
      exact ⟨.lst vs, by rw [w.2 a z]; exact t, trivial⟩
  st := fun H1 H2 w h x => ⟨I.ok.st H1 H2 w.1 (fun a z => h a (.inl z)) x, fun a z => (h a (.inr z)).trans (w.2 a z)⟩
theorem Env.subW (I : Env K Γ H0 H ps) : (Γ.sub ps H).W H := ⟨I.w, fun _ _ => rfl⟩
/-- behind a callee -/
theorem Env.back (I : Env K Γ H0 H ps) (r : Rel (Γ.sub ps H).S H H') (w : (Γ.sub ps H).W H') : Env K Γ H0 H' ps where
  ok := I.ok
  w := w.1
  rel := fun a o n e t => by
    have h := I.rel a o n e t
    refine r a o (fun z => ?_) h t
    rcases z with z | z
    · exact n z
    · obtain ⟨pt, hp⟩ := (I.fr a z).2 o e
      exact t pt hp
  nd := I.nd
  fr := I.fr
  sl := fun q m => slot.mono (fun d v x => Rep.rel r I.live d v x) (fun d v x => Reps.rel r I.live d v x) (fun xs e1 b vs e2 e3 => by
    obtain ⟨s, o⟩ := q
    have e1' : s = .own xs := e1
    have e2' : o = some (.ref b) := e2
    subst e1' e2'
    rw [w.2 b (mem_owned m)]; exact e3) (I.sl q m)
  thr := I.thr
/-- behind the whole body -/
theorem Env.relOf (I : Env K Γ H0 H ps) : Rel Γ.S H0 H := I.rel
end
end SQ
namespace SQ
open PySem PySem.Spec PyProof.Rows L2

/-! ### readings over trees -/
section
variable (K : PySem.W.Frag) (Γ : Cxt)
def wpE (te : TE) (ss : List Sl) (C : D → Prop) : Prop := ∀ H0 σ H τ, σ.length = ss.length → Env K Γ H0 H (ss.zip σ ++ τ) →
  ∀ Q : VK, (∀ v d H2, Env K Γ H0 H2 ((.val d, some v) :: (ss.zip σ ++ τ)) → C d → Q v H2) → te σ H Q
/-- .. a new list -/
def wpO (te : TE) (ss : List Sl) (C : List D → Prop) : Prop := ∀ H0 σ H τ, σ.length = ss.length → Env K Γ H0 H (ss.zip σ ++ τ) →
  ∀ Q : VK, (∀ a xs H2, Env K Γ H0 H2 ((.own xs, some (.ref a)) :: (ss.zip σ ++ τ)) → C xs → Q (.ref a) H2) → te σ H Q
def wpT (tt : TT) (ss : List Sl) (C : Bool → Prop) : Prop := ∀ H0 σ H τ, σ.length = ss.length → Env K Γ H0 H (ss.zip σ ++ τ) →
  ∀ Q : Bool → Hp → Prop, (∀ b H2, Env K Γ H0 H2 (ss.zip σ ++ τ) → C b → Q b H2) → tt σ H Q
/-- values on the pile -/
def pile (ds : List D) (vs : List V) : Ps := (ds.map Sl.val).zip (vs.map some)
def wpA (ta : TA) (ss : List Sl) (C : List D → Prop) : Prop := ∀ H0 σ H τ, σ.length = ss.length → Env K Γ H0 H (ss.zip σ ++ τ) →
  ∀ Q : List V → Hp → Prop, (∀ vs ds H2, ds.length = vs.length → Env K Γ H0 H2 (pile ds vs ++ (ss.zip σ ++ τ)) → C ds → Q vs H2) → ta σ H Q
structure En where
  nx : List Sl → Prop
  rt : Sl → Prop
  bk : List Sl → Prop := fun _ => False
  ct : List Sl → Prop := fun _ => False
/-- a value is handed back -/
def rtV (C : D → Prop) : Sl → Prop
  | .val d => C d
  | _ => False
/-- a new list is handed back -/
def rtO (C : List D → Prop) : Sl → Prop
  | .own xs => C xs
  | _ => False
structure EnOk (H0 : Hp) (τ : Ps) (e : En) (D : Ends) : Prop where
  nx : ∀ ss σ H, σ.length = ss.length → Env K Γ H0 H (ss.zip σ ++ τ) → e.nx ss → D.nx σ H
  rt : ∀ v s H, Env K Γ H0 H ((s, some v) :: τ) → e.rt s → D.rt v H
  bk : ∀ ss σ H, σ.length = ss.length → Env K Γ H0 H (ss.zip σ ++ τ) → e.bk ss → D.bk σ H
  ct : ∀ ss σ H, σ.length = ss.length → Env K Γ H0 H (ss.zip σ ++ τ) → e.ct ss → D.ct σ H
def wpS (ts : TS) (ss : List Sl) (e : En) : Prop := ∀ H0 σ H τ D, σ.length = ss.length → Env K Γ H0 H (ss.zip σ ++ τ) → EnOk K Γ H0 τ e D → ts D σ H
end

/-- operations on values -/
def wpR (K : PySem.W.Frag) (r : R2) (x y : D) (C : D → Prop) : Prop := ∀ S H v w, Live S H → Rep K S H x v → Rep K S H y w →
  ∀ Q : VK, (∀ z d H2, Ext H H2 → Rep K S H2 d z → C d → Q z H2) → r v w H Q
def wpRO (K : PySem.W.Frag) (r : R2) (x y : D) (C : List D → Prop) : Prop := ∀ S H v w, Live S H → Rep K S H x v → Rep K S H y w →
  ∀ Q : VK, (∀ p xs vs, H p = none → Reps K S H xs vs → C xs → Q (.ref p) (upd H p (.lst vs))) → r v w H Q
def wpU (K : PySem.W.Frag) (r : V → Hp → VK → Prop) (x : D) (C : D → Prop) : Prop := ∀ S H v, Live S H → Rep K S H x v →
  ∀ Q : VK, (∀ z d H2, Ext H H2 → Rep K S H2 d z → C d → Q z H2) → r v H Q
def wpB (K : PySem.W.Frag) (r : List V → Hp → VK → Prop) (xs : List D) (C : D → Prop) : Prop := ∀ S H vs, Live S H → Reps K S H xs vs →
  ∀ Q : VK, (∀ z d H2, Ext H H2 → Rep K S H2 d z → C d → Q z H2) → r vs H Q
def wpBO (K : PySem.W.Frag) (r : List V → Hp → VK → Prop) (xs : List D) (C : List D → Prop) : Prop := ∀ S H vs, Live S H → Reps K S H xs vs →
  ∀ Q : VK, (∀ p ys ws, H p = none → Reps K S H ys ws → C ys → Q (.ref p) (upd H p (.lst ws))) → r vs H Q

/-- a bowl: a list of three ints that is changed -/
def OkB (xs : List V) : Prop := ∃ a b c : Int, xs = [.int a, .int b, .int c]
def Bowl (S : Addr → Prop) (W : Hp → Prop) (p : Addr) : Prop := S p ∧ (∀ H, W H → ∃ xs, H p = some (.lst xs) ∧ OkB xs) ∧ ∀ H xs, W H → OkB xs → W (upd H p (.lst xs))
/-- the tables of code objects stand, and making code objects keeps the scene -/
def Tb (W : Hp → Prop) (T : List (Addr × Str)) : Prop := (∀ H, W H → LamX.Tabs T H) ∧ ∀ H H', W H → LamX.ExtN H H' → LamX.Tabs T H' → W H'
/-- what a promise may use of a scene: bowls, tables -/
structure Sc where
  b : Addr → Prop
  tb : List (Addr × Str) → Prop
instance : CoeFun Sc (fun _ => Addr → Prop) := ⟨Sc.b⟩
abbrev sc (Γ : Cxt) : Sc := ⟨Bowl Γ.S Γ.W, Tb Γ.W⟩
structure Sc.le (B B' : Sc) : Prop where
  b : ∀ p, B p → B' p
  tb : ∀ T, B.tb T → B'.tb T
abbrev Fn := Sc → List D → (D → Prop) → (Exc → Prop) → Prop
/-- a def's promise over trees -/
def spF (K : PySem.W.Frag) (F : Fn) : Sp := fun vs H Q E => ∃ (Γ : Cxt) (ds : List D) (C : D → Prop), Γ.Ok ∧ Γ.W H ∧ Reps K Γ.S H ds vs ∧ F (sc Γ) ds C Γ.X ∧
  (∀ v d H2, Rel Γ.S H H2 → Γ.W H2 → Rep K Γ.S H2 d v → C d → Q v H2) ∧
  (∀ x cls d H2, Rel Γ.S H H2 → Γ.W H2 → RepX K Γ.S H2 x cls d → Γ.X x → E cls d H2)
/-- .. that hands back a new list -/
def spO (K : PySem.W.Frag) (F : Sc → List D → (List D → Prop) → (Exc → Prop) → Prop) : Sp := fun vs H Q E => ∃ (Γ : Cxt) (ds : List D) (C : List D → Prop), Γ.Ok ∧ Γ.W H ∧ Reps K Γ.S H ds vs ∧ F (sc Γ) ds C Γ.X ∧
  (∀ a xs vs H2, Fre H a → ¬ Γ.S a → Rel Γ.S H H2 → Γ.W H2 → H2 a = some (.lst vs) → Reps K (fun b => Γ.S b ∨ b = a) H2 xs vs → C xs → Q (.ref a) H2) ∧
  (∀ x cls d H2, Rel Γ.S H H2 → Γ.W H2 → RepX K Γ.S H2 x cls d → Γ.X x → E cls d H2)

section
variable {K : PySem.W.Frag} {Γ : Cxt} {H0 H H' : Hp} {ps qs τ : Ps} {a : Addr} {d : D} {v : V} {xs : List D} {vs : List V} {ss : List Sl} {σ : L2.St} {C C' : D → Prop} {te ta tb : TE} {tt tu : TT} {e : En}

theorem Bowl.sub {ps : Ps} (I : Env K Γ H0 H ps) {p : Addr} (b : Bowl Γ.S Γ.W p) : Bowl (Γ.sub ps H).S (Γ.sub ps H).W p :=
  ⟨.inl b.1, fun H' w => b.2.1 H' w.1, fun H' xs w o => ⟨b.2.2 H' xs w.1 o, fun a z => by
    rw [upd_ne (fun q : a = p => (I.fr a z).1 (by rw [q]; exact b.1))]; exact w.2 a z⟩⟩
theorem Sc.sub {ps : Ps} {X : Exc → Prop} {E : XK} (I : Env K Γ H0 H ps) : Sc.le (sc Γ) (sc { Γ.sub ps H with X := X, E := E }) := ⟨fun p b => Bowl.sub I b, fun T t => ⟨fun H' w => t.1 H' w.1, fun H1 H2 w e tt => ⟨t.2 H1 H2 w.1 e tt, fun a z => by
  obtain ⟨xs, m⟩ := of_owned z
  obtain ⟨b, vs, e1, hv, _⟩ := I.sl _ m
  cases e1
  rw [hv]
  exact e a _ ((w.2 a z).trans hv) (fun ps q => by cases q)⟩⟩⟩
theorem wpE.mono (h : wpE K Γ te ss C) (m : ∀ d, C d → C' d) : wpE K Γ te ss C' := fun H0 σ H τ hl I Q q => h H0 σ H τ hl I Q fun v d H2 J c => q v d H2 J (m d c)
theorem wpT.mono {C C' : Bool → Prop} (h : wpT K Γ tt ss C) (m : ∀ b, C b → C' b) : wpT K Γ tt ss C' := fun H0 σ H τ hl I Q q => h H0 σ H τ hl I Q fun b H2 J c => q b H2 J (m b c)
theorem zip_get : ∀ {ss : List Sl} {σ : L2.St} {i : Nat} {s : Sl} {o : Option V}, ss[i]? = some s → σ[i]? = some o → (s, o) ∈ ss.zip σ
  | [], _, _, _, _, h, _ => by simp at h
  | _ :: _, [], _, _, _, _, h => by simp at h
  | x :: ss, y :: σ, 0, s, o, h, h' => by simp at h h'; subst h h'; simp
  | x :: ss, y :: σ, i + 1, s, o, h, h' => by
    simp only [List.getElem?_cons_succ] at h h'
    exact List.mem_cons_of_mem _ (zip_get h h')
theorem get_of_len {ss : List Sl} {σ : L2.St} {i : Nat} {s : Sl} (hl : σ.length = ss.length) (h : ss[i]? = some s) : ∃ o, σ[i]? = some o := by
  have hi : i < ss.length := (List.getElem?_eq_some_iff.mp h).1
  exact ⟨σ[i]'(hl ▸ hi), List.getElem?_eq_getElem _⟩
/-- the slot i stands apart from the others -/
theorem zip_out : ∀ {ss : List Sl} {σ : L2.St} {i : Nat} {s : Sl} {o : Option V}, ss[i]? = some s → σ[i]? = some o → (ss.zip σ).Perm ((s, o) :: (ss.eraseIdx i).zip (σ.eraseIdx i))
  | [], _, _, _, _, h, _ => by simp at h
  | _ :: _, [], _, _, _, _, h => by simp at h
  | x :: ss, y :: σ, 0, s, o, h, h' => by simp at h h'; subst h h'; simp
  | x :: ss, y :: σ, i + 1, s, o, h, h' => by
    simp only [List.getElem?_cons_succ] at h h'
    have := (zip_out h h').cons (x, y)
    simp only [List.eraseIdx_cons_succ, List.zip_cons_cons]
    exact this.trans (List.Perm.swap _ _ _)
theorem zip_set {i : Nat} {s : Sl} {o : Option V} (hl : σ.length = ss.length) (hi : i < ss.length) : ((ss.set i s).zip (σ.set i o)).Perm ((s, o) :: (ss.eraseIdx i).zip (σ.eraseIdx i)) := by
  have h1 : (ss.set i s)[i]? = some s := by simp [hi]
  have h2 : (σ.set i o)[i]? = some o := by simp [hl, hi]
  have := zip_out h1 h2
  rw [List.eraseIdx_set_eq, List.eraseIdx_set_eq] at this
  exact this
/-- a slot is stored -/
theorem Env.store {i : Nat} {s : Sl} {o : Option V} (hl : σ.length = ss.length) (hi : i < ss.length) (I : Env K Γ H0 H ((s, o) :: (ss.zip σ ++ τ))) : Env K Γ H0 H ((ss.set i s).zip (σ.set i o) ++ τ) := by
  obtain ⟨s', h1⟩ : ∃ s', ss[i]? = some s' := ⟨ss[i], List.getElem?_eq_getElem hi⟩
  obtain ⟨o', h2⟩ := get_of_len hl h1
  have p1 : ((s, o) :: (ss.zip σ ++ τ)).Perm ((s', o') :: ((s, o) :: (ss.eraseIdx i).zip (σ.eraseIdx i) ++ τ)) :=
    (((zip_out h1 h2).append_right τ).cons _).trans (List.Perm.swap _ _ _)
  have I1 := (I.perm p1).drop
  exact I1.perm ((zip_set hl hi).symm.append_right τ)

/-! ### expressions -/
theorem wpE_var {i : Nat} (h : ss[i]? = some (.val d)) (c : C d) : wpE K Γ (tVar i) ss C := fun H0 σ H τ hl I Q q => by
  obtain ⟨o, ho⟩ := get_of_len hl h
  have m := zip_get h ho
  obtain ⟨v, e, r⟩ := I.sl _ (List.mem_append_left _ m)
  have e' : o = some v := e
  subst e'
  exact ⟨v, ho, q v d H (I.push r) c⟩
theorem wpE_int {i : Int} (c : C (.int i)) : wpE K Γ (tC (.int i)) ss C := fun H0 σ H τ hl I Q q => q _ _ H (I.push (d := .int i) rfl) c
theorem wpE_bl {b : Bool} (c : C (.bl b)) : wpE K Γ (tC (.bl b)) ss C := fun H0 σ H τ hl I Q q => q _ _ H (I.push (d := .bl b) rfl) c
theorem wpE_non (c : C .non) : wpE K Γ (tC .non) ss C := fun H0 σ H τ hl I Q q => q _ _ H (I.push (d := .non) rfl) c
theorem wpE_ty {x : String} (c : C (.ty x)) : wpE K Γ (tC (.ty x)) ss C := fun H0 σ H τ hl I Q q => q _ _ H (I.push (d := .ty x) rfl) c
theorem wpE_str {x : Str} (c : C (.str x)) : wpE K Γ (tC (.str x)) ss C := fun H0 σ H τ hl I Q q => q _ _ H (I.push (d := .str x) rfl) c
theorem Env.pushU' {o : Option V} (I : Env K Γ H0 H ps) : Env K Γ H0 H ((.un, o) :: ps) := I.pushU o
theorem wpE_op {r : R2} (h : wpE K Γ ta ss fun x => wpE K Γ tb ss fun y => wpR K r x y C) : wpE K Γ (tOp r ta tb) ss C := fun H0 σ H τ hl I Q q =>
  h H0 σ H τ hl I _ fun x dx H1 J1 h1 => h1 H0 σ H1 ((.val dx, some x) :: τ) hl (J1.perm (List.perm_middle.symm)) _ fun y dy H2 J2 h2 =>
    h2 (Out Γ ((.val dy, some y) :: (ss.zip σ ++ (.val dx, some x) :: τ))) H2 x y J2.live (J2.val (List.mem_cons_of_mem _ (List.mem_append_right _ List.mem_cons_self))) (J2.val List.mem_cons_self) Q fun z d H3 e r c => by
      have J3 : Env K Γ H0 H3 (ss.zip σ ++ τ) := ((J2.drop.perm List.perm_middle).drop).ext e
      refine q z d H3 (J3.push (r.less fun a m => ?_)) c
      rcases m with m | m
      · exact .inl m
      · refine .inr ?_
        show a ∈ owned (ss.zip σ ++ (Sl.val dx, some x) :: τ)
        rw [owned_app] at m ⊢
        exact m
theorem wpE_un {r : V → Hp → VK → Prop} (h : wpE K Γ ta ss fun x => wpU K r x C) : wpE K Γ (tUn r ta) ss C := fun H0 σ H τ hl I Q q =>
  h H0 σ H τ hl I _ fun x dx H1 J1 h1 => h1 (Out Γ ((.val dx, some x) :: (ss.zip σ ++ τ))) H1 x J1.live (J1.val List.mem_cons_self) Q fun z d H3 e r c => q z d H3 ((J1.drop.ext e).push r) c
theorem pile_nil : pile [] [] = [] := rfl
theorem pile_cons {ds : List D} : pile (d :: ds) (v :: vs) = (.val d, some v) :: pile ds vs := rfl
theorem owned_pile : ∀ {ds : List D} {vs : List V}, owned (pile ds vs) = []
  | [], _ => rfl
  | _ :: _, [] => rfl
  | d :: ds, v :: vs => owned_pile (ds := ds) (vs := vs)
theorem Env.piled : ∀ {ds : List D} {vs : List V}, ds.length = vs.length → Env K Γ H0 H (pile ds vs ++ ps) → Reps K (Out Γ ps) H ds vs
  | [], [], _, _ => rfl
  | [], _ :: _, h, _ => by cases h
  | _ :: _, [], h, _ => by cases h
  | d :: ds, v :: vs, h, I => by
    refine ⟨v, vs, rfl, ?_, Env.piled (by simpa using h) I.drop⟩
    have := I.val (d := d) (v := v) List.mem_cons_self
    refine this.less fun a m => m.imp id fun m => ?_
    show a ∈ owned (pile (d :: ds) (v :: vs) ++ ps)
    rw [owned_app, owned_pile]; exact m
theorem wpA_nil {C : List D → Prop} (c : C []) : wpA K Γ tNil ss C := fun H0 σ H τ hl I Q q => q [] [] H rfl I c
theorem wpA_cons {tr : TA} {C : List D → Prop} (h : wpE K Γ ta ss fun x => wpA K Γ tr ss fun xs => C (x :: xs)) : wpA K Γ (tCons ta tr) ss C := fun H0 σ H τ hl I Q q =>
  h H0 σ H τ hl I _ fun x dx H1 J1 h1 => h1 H0 σ H1 ((.val dx, some x) :: τ) hl (J1.perm (List.perm_middle.symm)) _ fun vs ds H2 hd J2 c =>
    q (x :: vs) (dx :: ds) H2 (by simp [hd]) (J2.perm (by
      rw [pile_cons]
      have : (pile ds vs ++ (ss.zip σ ++ (Sl.val dx, some x) :: τ)).Perm ((Sl.val dx, some x) :: (pile ds vs ++ (ss.zip σ ++ τ))) := by
        rw [← List.append_assoc, ← List.append_assoc]; exact List.perm_middle
      exact this)) c
theorem wpE_cb {r : List V → Hp → VK → Prop} {ta : TA} (h : wpA K Γ ta ss fun xs => wpB K r xs C) : wpE K Γ (tCB r ta) ss C := fun H0 σ H τ hl I Q q =>
  h H0 σ H τ hl I _ fun vs ds H1 hd J1 h1 => h1 (Out Γ (ss.zip σ ++ τ)) H1 vs (J1.dropL).live (J1.piled hd) Q fun z d H3 e r c => q z d H3 ((J1.dropL.ext e).push r) c
theorem wpO_cb {r : List V → Hp → VK → Prop} {ta : TA} {C : List D → Prop} (h : wpA K Γ ta ss fun xs => wpBO K r xs C) : wpO K Γ (tCB r ta) ss C := fun H0 σ H τ hl I Q q =>
  h H0 σ H τ hl I _ fun vs ds H1 hd J1 h1 => h1 (Out Γ (ss.zip σ ++ τ)) H1 vs (J1.dropL).live (J1.piled hd) Q fun p xs ws hp r c => q p xs _ (J1.dropL.pushO hp r) c
/-- a new list is a value -/
theorem wpE_frz (h : wpO K Γ te ss fun xs => C (.lst xs)) : wpE K Γ te ss C := fun H0 σ H τ hl I Q q =>
  h H0 σ H τ hl I Q fun a xs H2 J c => q _ _ H2 J.freeze c
theorem wpE_tup {ta : TA} (h : wpA K Γ ta ss fun xs => xs.length ≤ 100000 ∧ C (.tup xs)) : wpE K Γ (tTup ta) ss C := fun H0 σ H τ hl I Q q =>
  h H0 σ H τ hl I _ fun vs ds H1 hd J1 h1 => ⟨by rw [← hd]; exact Nat.le_trans h1.1 (by decide), fun p hp => by
    have ex : Ext H1 (upd H1 p (.tup vs)) := Ext.new hp
    exact q _ _ _ ((J1.dropL.ext ex).push (d := .tup ds) ⟨p, vs, rfl, SqT.of upd_same, (J1.piled hd).ext ex⟩) h1.2⟩
theorem wpO_lst {ta : TA} {C : List D → Prop} (h : wpA K Γ ta ss fun xs => xs.length ≤ 100000 ∧ C xs) : wpO K Γ (tLst ta) ss C := fun H0 σ H τ hl I Q q =>
  h H0 σ H τ hl I _ fun vs ds H1 hd J1 h1 => ⟨by rw [← hd]; exact Nat.le_trans h1.1 (by decide), fun p hp => q p ds _ (J1.dropL.pushO hp (J1.piled hd)) h1.2⟩
/-- a call of a def -/
theorem wpE_call {F : Fn} {ta : TA} (mono : ∀ B B' ds C X, Sc.le B B' → F B ds C X → F B' ds C X)
    (h : wpA K Γ ta ss fun ds => F (sc Γ) ds C Γ.X) : wpE K Γ (tCall (spF K F) [] Γ.E ta) ss C := fun H0 σ H τ hl I Q q =>
  h H0 σ H τ hl I _ fun vs ds H1 hd J1 h1 => by
    have J := J1.dropL
    refine ⟨{ Γ.sub (ss.zip σ ++ τ) H1 with X := Γ.X, E := Γ.E }, ds, C, ⟨J.subOk.al, J.subOk.st⟩, J.subW, ?_, mono _ _ _ _ _ (Sc.sub J) h1, fun v d H2 r w x c => ?_, fun x cls d H2 r w y z => ?_⟩
    · rw [List.append_nil]; exact J1.piled hd
    · exact q v d H2 ((J.back r w).push x) c
    · have J2 := J.back r w
      refine J2.thr x cls d H2 J2.rel J2.w ?_ z
      refine ⟨y.1, y.2.imp id ?_⟩
      rintro ⟨dd, fs, e1, e2, e3, e4⟩
      exact ⟨dd, fs, e1, e2, e3, e4.less fun a z => .inl z⟩
theorem wpO_callG {X' : Exc → Prop} {E' : XK} (hX : ∀ x, X' x → Γ.X x ∧ Γ.E = E') {F : Sc → List D → (List D → Prop) → (Exc → Prop) → Prop} {C : List D → Prop} {ta : TA} (mono : ∀ B B' ds C X, Sc.le B B' → F B ds C X → F B' ds C X)
    (h : wpA K Γ ta ss fun ds => F (sc Γ) ds C X') : wpO K Γ (tCall (spO K F) [] E' ta) ss C := fun H0 σ H τ hl I Q q =>
  h H0 σ H τ hl I _ fun vs ds H1 hd J1 h1 => by
    have J := J1.dropL
    refine ⟨{ Γ.sub (ss.zip σ ++ τ) H1 with X := X', E := E' }, ds, C, ⟨J.subOk.al, J.subOk.st⟩, J.subW, ?_, mono _ _ _ _ _ (Sc.sub J) h1, fun a xs ws H2 hn hS r w e x c => ?_, fun x cls d H2 r w y z => ?_⟩
    · rw [List.append_nil]; exact J1.piled hd
    · have J2 := J.back r w
      refine q a xs H2 ⟨J2.ok, J2.w, J2.rel, List.nodup_cons.mpr ⟨fun z => hS (.inr z), J2.nd⟩, fun b z => ?_, fun p z => ?_, J2.thr⟩ c
      · rcases List.mem_cons.mp z with z | z
        · subst z
          refine ⟨fun z => hS (.inl z), fun o ho => Classical.byContradiction fun ht => ?_⟩
          have := J.rel b o (fun z => hS (.inl z)) ho (fun ps z => ht ⟨ps, z⟩)
          exact ht (hn o this)
        · exact J2.fr b z
      · have m : ∀ b, Out Γ ((Sl.own xs, some (V.ref a)) :: (ss.zip σ ++ τ)) b → Out Γ (ss.zip σ ++ τ) b ∨ b = a := fun b z => by
          rcases z with z | z
          · exact .inl (.inl z)
          · rcases List.mem_cons.mp z with z | z
            · exact .inr z
            · exact .inl (.inr z)
        rcases List.mem_cons.mp z with z | z
        · subst z
          exact ⟨a, ws, rfl, e, x.less m⟩
        · have m2 : ∀ b, Out Γ ((Sl.own xs, some (V.ref a)) :: (ss.zip σ ++ τ)) b → Out Γ (ss.zip σ ++ τ) b ∨ Fre H1 b := fun b z => (m b z).imp id fun z => by rw [z]; exact hn
          refine slot.mono (K := K) (H := H1) (S := Out Γ (ss.zip σ ++ τ)) ?_ ?_ ?_ (J.sl p z)
          · exact fun d v h => Rep.rel2 r J.live (fun b z => z.imp id (List.mem_cons_of_mem _)) d v (Rep.more m2 d v h)
          · exact fun d v h => Reps.rel2 r J.live (fun b z => z.imp id (List.mem_cons_of_mem _)) d v (Reps.more m2 d v h)
          · intro xs' e1 b vs' e2 e3
            obtain ⟨s, o⟩ := p
            have e1' : s = .own xs' := e1
            have e2' : o = some (.ref b) := e2
            subst e1' e2'
            rw [w.2 b (mem_owned z)]; exact e3
    · have J2 := J.back r w
      rw [← (hX x z).2]
      refine J2.thr x cls d H2 J2.rel J2.w ?_ (hX x z).1
      refine ⟨y.1, y.2.imp id ?_⟩
      rintro ⟨dd, fs, e1, e2, e3, e4⟩
      exact ⟨dd, fs, e1, e2, e3, e4.less fun a z => .inl z⟩
theorem wpO_call {F : Sc → List D → (List D → Prop) → (Exc → Prop) → Prop} {C : List D → Prop} {ta : TA} (mono : ∀ B B' ds C X, Sc.le B B' → F B ds C X → F B' ds C X)
    (h : wpA K Γ ta ss fun ds => F (sc Γ) ds C Γ.X) : wpO K Γ (tCall (spO K F) [] Γ.E ta) ss C := wpO_callG (fun x h => ⟨h, rfl⟩) mono h
/-- .. that lets nothing out -/
theorem wpO_call0 {E' : XK} {F : Sc → List D → (List D → Prop) → (Exc → Prop) → Prop} {C : List D → Prop} {ta : TA} (mono : ∀ B B' ds C X, Sc.le B B' → F B ds C X → F B' ds C X)
    (h : wpA K Γ ta ss fun ds => F (sc Γ) ds C fun _ => False) : wpO K Γ (tCall (spO K F) [] E' ta) ss C := wpO_callG (fun x h => h.elim) mono h
end
end SQ
namespace SQ
open PySem PySem.Spec PyProof.Rows L2
section
variable {K : PySem.W.Frag} {Γ : Cxt} {H0 H H' : Hp} {ps qs τ : Ps} {a : Addr} {d : D} {v : V} {xs : List D} {vs : List V} {ss : List Sl} {σ : L2.St} {C : D → Prop} {te ta tb : TE} {tt t : TT} {e : En} {t1 t2 : TS} {D0 : Ends}

/-! ### statements -/
theorem EnOk.seq (k : EnOk K Γ H0 τ e D0) : EnOk K Γ H0 τ { e with nx := fun ss => wpS K Γ t2 ss e } { D0 with nx := t2 D0 } where
  nx := fun ss σ H hl I h => h H0 σ H τ D0 hl I k
  rt := k.rt
  bk := k.bk
  ct := k.ct
theorem wpS_seq (h : wpS K Γ t1 ss { e with nx := fun ss => wpS K Γ t2 ss e }) : wpS K Γ (tSeq t1 t2) ss e := fun H0 σ H τ D hl I k =>
  h H0 σ H τ _ hl I (EnOk.seq k)
theorem wpS_next (h : e.nx ss) : wpS K Γ tNext ss e := fun H0 σ H τ D hl I k => k.nx ss σ H hl I h
theorem wpS_brk (h : e.bk ss) : wpS K Γ tBreak ss e := fun H0 σ H τ D hl I k => k.bk ss σ H hl I h
theorem wpS_cont (h : e.ct ss) : wpS K Γ tCont ss e := fun H0 σ H τ D hl I k => k.ct ss σ H hl I h
theorem wpS_set {i : Nat} (hi : i < ss.length) (h : wpE K Γ te ss fun d => e.nx (ss.set i (.val d))) : wpS K Γ (tAsg te (gName i)) ss e := fun H0 σ H τ D hl I k =>
  h H0 σ H τ hl I _ fun v d H2 J c => k.nx _ _ H2 (by simp [hl]) (J.store hl hi) c
theorem wpS_setO {i : Nat} (hi : i < ss.length) (h : wpO K Γ te ss fun xs => e.nx (ss.set i (.own xs))) : wpS K Γ (tAsg te (gName i)) ss e := fun H0 σ H τ D hl I k =>
  h H0 σ H τ hl I _ fun a xs H2 J c => k.nx _ _ H2 (by simp [hl]) (J.store hl hi) c
theorem Env.shed {s : Sl} (I : Env K Γ H0 H ((s, some v) :: (ss.zip σ ++ τ))) : Env K Γ H0 H ((s, some v) :: τ) :=
  (I.perm ((List.perm_middle (l₁ := ss.zip σ) (a := (s, some v)) (l₂ := τ)).symm)).dropL
theorem wpS_ret (h : wpE K Γ te ss fun d => e.rt (.val d)) : wpS K Γ (tRet te) ss e := fun H0 σ H τ D hl I k =>
  h H0 σ H τ hl I _ fun v d H2 J c => k.rt v (.val d) H2 J.shed c
theorem wpS_retO (h : wpO K Γ te ss fun xs => e.rt (.own xs)) : wpS K Γ (tRet te) ss e := fun H0 σ H τ D hl I k =>
  h H0 σ H τ hl I _ fun a xs H2 J c => k.rt (.ref a) (.own xs) H2 J.shed c
theorem wpS_retN (h : e.rt (.val .non)) : wpS K Γ tRetN ss e := fun H0 σ H τ D hl I k => k.rt .non (.val .non) H (I.dropL.push (d := .non) rfl) h
theorem wpS_if (h : wpT K Γ t ss fun b => if b = true then wpS K Γ t1 ss e else wpS K Γ t2 ss e) : wpS K Γ (tIfS t t1 t2) ss e := fun H0 σ H τ D hl I k =>
  h H0 σ H τ hl I _ fun b H2 J c => by
    cases b with
    | true => exact c H0 σ H2 τ D hl J k
    | false => exact c H0 σ H2 τ D hl J k
theorem wpS_drop (h : wpE K Γ te ss fun _ => e.nx ss) : wpS K Γ (tDrop te) ss e := fun H0 σ H τ D hl I k =>
  h H0 σ H τ hl I _ fun v d H2 J c => k.nx ss σ H2 hl J.drop c
/-- code that is never come to -/
theorem wpS_never (h : False) : wpS K Γ tNever ss e := h.elim
/-- the list in the slot i, which is owned, stands apart -/
theorem Env.ownAt {i : Nat} (hl : σ.length = ss.length) (h : ss[i]? = some (.own xs)) (I : Env K Γ H0 H (qs ++ (ss.zip σ ++ τ))) : ∃ a, σ[i]? = some (some (.ref a)) ∧
    ((qs ++ (ss.zip σ ++ τ)).Perm ((.own xs, some (.ref a)) :: (qs ++ ((ss.eraseIdx i).zip (σ.eraseIdx i) ++ τ)))) := by
  obtain ⟨o, ho⟩ := get_of_len hl h
  have m := zip_get h ho
  obtain ⟨a, vs, e, _⟩ := I.sl _ (List.mem_append_right _ (List.mem_append_left _ m))
  have e' : o = some (.ref a) := e
  subst e'
  refine ⟨a, ho, ?_⟩
  have p := (zip_out h ho).append_right τ
  exact (p.append_left qs).trans List.perm_middle
theorem zip_set_same : ∀ {ss : List Sl} {σ : L2.St} {i : Nat} {s : Sl} {o : Option V}, σ[i]? = some o → (ss.set i s).zip σ = (ss.set i s).zip (σ.set i o)
  | _, σ, i, s, o, h => by
    have : σ.set i o = σ := by
      apply List.ext_getElem?
      intro j
      by_cases e : i = j
      · subst e; rw [h]; simp [List.getElem?_set]; exact (List.getElem?_eq_some_iff.mp h).1
      · simp [List.getElem?_set, e]
    rw [this]
/-- the list in the slot i, which is owned, gets other items: what they are was found at qs -/
theorem Env.ownSet {i : Nat} {ys : List D} {ws : List V} (hl : σ.length = ss.length) (h : ss[i]? = some (.own xs)) (ha : σ[i]? = some (some (.ref a)))
    (I : Env K Γ H0 H (ss.zip σ ++ τ)) (r : Reps K (Out Γ (ss.zip σ ++ τ)) H ys ws) : Env K Γ H0 (upd H a (.lst ws)) ((ss.set i (.own ys)).zip σ ++ τ) := by
  have hi : i < ss.length := (List.getElem?_eq_some_iff.mp h).1
  have p := (zip_out h ha).append_right τ
  have I1 := I.perm p
  have I2 := I1.write (r.less fun b z => z.imp id fun z => (owned_perm p).mem_iff.mpr z)
  refine I2.perm ?_
  rw [zip_set_same ha]
  exact ((zip_set hl hi).symm.append_right τ)
/-- x.append(e) -/
theorem wpS_app {i : Nat} (h : ss[i]? = some (.own xs)) (hz : xs.length < 100000) (h1 : wpE K Γ te ss fun d => e.nx (ss.set i (.own (xs ++ [d])))) :
    wpS K Γ (tDrop (tBM K "list" rAppend (tVar i) (tCons te tNil))) ss e := fun H0 σ H τ D hl I k => by
  obtain ⟨a, ha, _⟩ := Env.ownAt (qs := []) hl h I
  obtain ⟨vs0, hv0, _⟩ := I.own (a := a) (xs := xs) (List.mem_append_left _ (zip_get h ha))
  refine ⟨.ref a, ha, .inl ⟨rfl, vs0, .inl (.inl hv0)⟩, h1 H0 σ H τ hl I _ fun v d H2 J c => ?_⟩
  obtain ⟨vs, hv, rv⟩ := J.drop.own (a := a) (xs := xs) (List.mem_append_left _ (zip_get h ha))
  refine ⟨a, vs, v, rfl, rfl, hv, Nat.lt_of_lt_of_le (by rw [← rv.length]; exact hz) (by decide), ?_⟩
  refine k.nx _ σ _ (by simp [hl]) (Env.ownSet hl h ha J.drop (rv.app (Reps.one ?_))) c
  exact (J.val List.mem_cons_self).less fun b z => z
/-- x[j] = e -/
theorem wpS_setItem {i : Nat} (h : ss[i]? = some (.own xs)) (h1 : wpE K Γ te ss fun d => wpE K Γ tb ss fun j => ∃ (n : Int) (m : Nat), j = .int n ∧ ixN xs.length n = some m ∧ e.nx (ss.set i (.own (xs.set m d)))) :
    wpS K Γ (tAsg te (gSub (tVar i) tb rSetL)) ss e := fun H0 σ H τ D hl I k => by
  obtain ⟨a, ha, _⟩ := Env.ownAt (qs := []) hl h I
  refine h1 H0 σ H τ hl I _ fun v d H2 J c => ⟨.ref a, ha, ?_⟩
  refine c H0 σ H2 ((.val d, some v) :: τ) hl (J.perm List.perm_middle.symm) _ fun y dy H3 J3 c3 => ?_
  obtain ⟨n, m, rfl, hm, c4⟩ := c3
  obtain ⟨vs, hv, rv⟩ := J3.drop.own (a := a) (xs := xs) (List.mem_append_left _ (zip_get h ha))
  have ry : y = .int n := J3.val List.mem_cons_self
  have rd := J3.val (d := d) (v := v) (List.mem_cons_of_mem _ (List.mem_append_right _ List.mem_cons_self))
  refine ⟨a, vs, n, m, rfl, ry, hv, by rw [← rv.length]; exact hm, ?_⟩
  have J4 : Env K Γ H0 H3 (ss.zip σ ++ τ) := ((J3.drop).perm List.perm_middle).drop
  refine k.nx _ σ _ (by simp [hl]) (Env.ownSet hl h ha J4 ?_) c4
  have ow : ∀ b, Out Γ (ss.zip σ ++ τ) b → Out Γ ((Sl.val (.int n), some y) :: (ss.zip σ ++ (Sl.val d, some v) :: τ)) b := fun b z => z.imp id fun z => by
    show b ∈ owned (ss.zip σ ++ (Sl.val d, some v) :: τ)
    rw [owned_app] at z ⊢; exact z
  exact Reps.set m (rv.less ow) (rd.less ow)
/-- x op= e of two ints -/
theorem wpS_aug {i : Nat} {f : Int → Int → Int} {n : Int} (h : ss[i]? = some (.val (.int n))) (h1 : wpE K Γ te ss fun d => ∃ m, d = .int m ∧ e.nx (ss.set i (.val (.int (f n m))))) : wpS K Γ (tAug i te (ipI f)) ss e := fun H0 σ H τ D hl I k => by
  obtain ⟨o, ho⟩ := get_of_len hl h
  have m := zip_get h ho
  obtain ⟨x, ex, rx⟩ := I.sl _ (List.mem_append_left _ m)
  have ex' : o = some x := ex
  subst ex'
  have rx' : x = .int n := rx
  subst rx'
  refine ⟨.int n, ho, h1 H0 σ H τ hl I _ fun v d H2 J c => ?_⟩
  obtain ⟨m, rfl, c⟩ := c
  have rv : v = .int m := J.val List.mem_cons_self
  refine ⟨n, m, rfl, rv, ?_⟩
  have hi : i < ss.length := (List.getElem?_eq_some_iff.mp h).1
  exact k.nx _ _ H2 (by simp [hl]) (Env.store hl hi (J.drop.push (d := .int (f n m)) rfl)) c
/-- a, b = x, y -/
theorem wpS_par {i j : Nat} {tx : TA} (hi : i < ss.length) (hj : j < ss.length) (h : wpA K Γ tx ss fun ds => ∃ x y, ds = [x, y] ∧ e.nx ((ss.set i (.val x)).set j (.val y))) : wpS K Γ (tPar i j tx) ss e := fun H0 σ H τ D hl I k =>
  h H0 σ H τ hl I _ fun vs ds H2 hd J c => by
    obtain ⟨x, y, rfl, c⟩ := c
    match vs, hd with
    | [v, w], _ =>
      refine ⟨v, w, rfl, ?_⟩
      have J1 : Env K Γ H0 H2 ((.val x, some v) :: (.val y, some w) :: (ss.zip σ ++ τ)) := J
      have J2 : Env K Γ H0 H2 ((ss.set i (.val x)).zip (σ.set i (some v)) ++ ((.val y, some w) :: τ)) := Env.store hl hi (J1.perm ((List.perm_middle (l₁ := ss.zip σ)).symm.cons _))
      have J3 := J2.perm (List.perm_middle)
      exact k.nx _ _ H2 (by simp [hl]) (Env.store (by simp [hl]) (by simpa using hj) J3) c

/-! ### tests -/
theorem wpT_test (h : wpE K Γ te ss fun d => ∃ b, d = .bl b ∧ C2 b) : wpT K Γ (tTest te) ss C2 := fun H0 σ H τ hl I Q q =>
  h H0 σ H τ hl I _ fun v d H2 J c => by
    obtain ⟨b, rfl, c⟩ := c
    exact ⟨b, J.val List.mem_cons_self, q b H2 J.drop c⟩
theorem wpT_B (h : wpE K Γ te ss fun d => ∃ b, d = .bl b ∧ C2 b) : wpT K Γ (tB te) ss C2 := fun H0 σ H τ hl I Q q =>
  h H0 σ H τ hl I _ fun v d H2 J c => by
    obtain ⟨b, rfl, c⟩ := c
    exact ⟨b, J.val List.mem_cons_self, q b H2 J.drop c⟩
theorem wpT_yes {C2 : Bool → Prop} (c : C2 true) : wpT K Γ tYes ss C2 := fun H0 σ H τ hl I Q q => q true H I c
theorem wpT_not {C2 : Bool → Prop} (h : wpT K Γ t ss fun b => C2 (!b)) : wpT K Γ (tNot t) ss C2 := fun H0 σ H τ hl I Q q =>
  h H0 σ H τ hl I _ fun b H2 J c => q _ H2 J c
/-- .. in a row: the second one only behind a true first one -/
theorem wpT_and {C2 : Bool → Prop} {u : TT} (h : wpT K Γ t ss fun b => if b = true then wpT K Γ u ss C2 else C2 false) : wpT K Γ (tAnd t u) ss C2 := fun H0 σ H τ hl I Q q =>
  h H0 σ H τ hl I _ fun b H2 J c => by
    cases b with
    | true => exact c H0 σ H2 τ hl J Q q
    | false => exact q false H2 J c
theorem wpT_or {C2 : Bool → Prop} {u : TT} (h : wpT K Γ t ss fun b => if b = true then C2 true else wpT K Γ u ss C2) : wpT K Γ (tOr t u) ss C2 := fun H0 σ H τ hl I Q q =>
  h H0 σ H τ hl I _ fun b H2 J c => by
    cases b with
    | true => exact q true H2 J c
    | false => exact c H0 σ H2 τ hl J Q q
theorem wpE_andV {u : TE} (h : wpE K Γ te ss fun d => ∃ b, d = .bl b ∧ if b = true then wpE K Γ u ss C else C (.bl false)) : wpE K Γ (tAndV te u) ss C := fun H0 σ H τ hl I Q q =>
  h H0 σ H τ hl I _ fun v d H2 J c => by
    obtain ⟨b, rfl, c⟩ := c
    have rv : v = .bl b := J.val List.mem_cons_self
    refine ⟨b, rv, ?_⟩
    cases b with
    | true => exact c H0 σ H2 τ hl J.drop Q q
    | false => exact q _ _ H2 (J.drop.push (d := .bl false) rfl) c
theorem wpE_orV {u : TE} (h : wpE K Γ te ss fun d => ∃ b, d = .bl b ∧ if b = true then C (.bl true) else wpE K Γ u ss C) : wpE K Γ (tOrV te u) ss C := fun H0 σ H τ hl I Q q =>
  h H0 σ H τ hl I _ fun v d H2 J c => by
    obtain ⟨b, rfl, c⟩ := c
    have rv : v = .bl b := J.val List.mem_cons_self
    refine ⟨b, rv, ?_⟩
    cases b with
    | true => exact q _ _ H2 (J.drop.push (d := .bl true) rfl) c
    | false => exact c H0 σ H2 τ hl J.drop Q q
theorem wpE_notV (h : wpE K Γ te ss fun d => ∃ b, d = .bl b ∧ C (.bl (!b))) : wpE K Γ (tNotV te) ss C := fun H0 σ H τ hl I Q q =>
  h H0 σ H τ hl I _ fun v d H2 J c => by
    obtain ⟨b, rfl, c⟩ := c
    exact ⟨b, J.val List.mem_cons_self, q _ _ H2 (J.drop.push (d := .bl (!b)) rfl) c⟩
theorem wpE_if (h : wpT K Γ t ss fun b => if b = true then wpE K Γ ta ss C else wpE K Γ tb ss C) : wpE K Γ (tIf t ta tb) ss C := fun H0 σ H τ hl I Q q =>
  h H0 σ H τ hl I _ fun b H2 J c => by
    cases b with
    | true => exact c H0 σ H2 τ hl J Q q
    | false => exact c H0 σ H2 τ hl J Q q
/-- a op b op c -/
theorem wpE_chain {r r' : R2} {tc : TE} (h : wpE K Γ ta ss fun x => wpE K Γ tb ss fun y => wpR K r x y fun z => ∃ b, z = .bl b ∧ if b = true then wpE K Γ tc ss fun w => wpR K r' y w C else C (.bl false)) : wpE K Γ (tChain r r' ta tb tc) ss C := fun H0 σ H τ hl I Q q =>
  h H0 σ H τ hl I _ fun x dx H1 J1 h1 => h1 H0 σ H1 ((.val dx, some x) :: τ) hl (J1.perm (List.perm_middle.symm)) _ fun y dy H2 J2 h2 =>
    h2 (Out Γ ((.val dy, some y) :: (ss.zip σ ++ (.val dx, some x) :: τ))) H2 x y J2.live (J2.val (List.mem_cons_of_mem _ (List.mem_append_right _ List.mem_cons_self))) (J2.val List.mem_cons_self) _ fun z d H3 e r c => by
      obtain ⟨b, rfl, c⟩ := c
      have rz : z = .bl b := r
      refine ⟨b, rz, ?_⟩
      have J3 : Env K Γ H0 H3 ((.val dy, some y) :: (ss.zip σ ++ τ)) := by
        have J4 := J2.ext e
        exact (J4.perm ((List.perm_middle (l₁ := ss.zip σ)).cons _ |>.trans (List.Perm.swap _ _ _))).drop
      cases b with
      | false => exact q _ _ H3 (J3.drop.push (d := .bl false) rfl) c
      | true =>
        refine c H0 σ H3 ((.val dy, some y) :: τ) hl (J3.perm List.perm_middle.symm) _ fun w dw H4 J4 h4 => ?_
        refine h4 (Out Γ ((.val dw, some w) :: (ss.zip σ ++ (.val dy, some y) :: τ))) H4 y w J4.live (J4.val (List.mem_cons_of_mem _ (List.mem_append_right _ List.mem_cons_self))) (J4.val List.mem_cons_self) Q fun z d H5 e r c => ?_
        have J5 : Env K Γ H0 H5 (ss.zip σ ++ τ) := ((J4.drop.perm List.perm_middle).drop).ext e
        refine q z d H5 (J5.push (r.less fun a m => ?_)) c
        rcases m with m | m
        · exact .inl m
        · refine .inr ?_
          show a ∈ owned (ss.zip σ ++ (Sl.val dy, some y) :: τ)
          rw [owned_app] at m ⊢
          exact m
end
end SQ
namespace SQ
open PySem PySem.Spec PyProof.Rows L2 RZ
/-! ### walks -/
/-- while what τ holds stands, J gives the trees ds, one after the other -/
def Walks (K : PySem.W.Frag) (Γ : Cxt) (J : It) (ds : List D) (τ : Ps) : Prop := ∀ H0 H ps, Env K Γ H0 H ps → (∀ p ∈ τ, p ∈ ps) →
  (∀ i d, ds[i]? = some d → J.go i H ∧ ∀ x H', J.yld i H x H' → Env K Γ H0 H' ((.val d, some x) :: ps)) ∧ J.stop ds.length H
def wpI (K : PySem.W.Frag) (Γ : Cxt) (wi : TI) (ss : List Sl) (C : List D → Prop) : Prop := ∀ H0 σ H τ, σ.length = ss.length → Env K Γ H0 H (ss.zip σ ++ τ) →
  ∀ R : It → Hp → Prop, (∀ J H1 ds τ1, Env K Γ H0 H1 (ss.zip σ ++ (τ1 ++ τ)) → Walks K Γ J ds τ1 → C ds → R J H1) → wi σ H R
def wipeS (ss : List Sl) : List Nat → List Sl
  | [] => ss
  | v :: vs => (wipeS ss vs).set v .un
theorem wipeS_length (ss : List Sl) : ∀ vs, (wipeS ss vs).length = ss.length
  | [] => rfl
  | v :: vs => by rw [wipeS, List.length_set, wipeS_length ss vs]
/-- a target -/
def wpG (K : PySem.W.Frag) (Γ : Cxt) (vs : List Nat) (g : TG) (d : D) (ss : List Sl) (C : List Sl → Prop) : Prop := ∀ H0 σ H τ x, σ.length = ss.length → Env K Γ H0 H ((.val d, some x) :: (ss.zip σ ++ τ)) →
  ∀ Q : L2.St → Hp → Prop, (∀ ss' σ' H', σ'.length = ss'.length → wipe σ' vs = wipe σ vs → wipeS ss' vs = wipeS ss vs → Env K Γ H0 H' (ss'.zip σ' ++ τ) → C ss' → Q σ' H') → g x σ H Q
section
variable {K : PySem.W.Frag} {Γ : Cxt} {H0 H H' : Hp} {ps qs τ : Ps} {a : Addr} {d : D} {v : V} {xs : List D} {vs : List V} {ss : List Sl} {σ : L2.St} {C : D → Prop} {te ta tb : TE} {tt t : TT} {e : En} {t1 t2 : TS} {D0 : Ends} {wi : TI} {g : TG}

theorem wipe_in {σ : L2.St} {i : Nat} : ∀ {ws : List Nat}, i ∈ ws → (wipe σ ws)[i]? = if i < σ.length then some none else none
  | [], h => by cases h
  | w :: ws, h => by
    show ((wipe σ ws).set w none)[i]? = _
    by_cases hw : w = i
    · subst hw; rw [List.getElem?_set, if_pos rfl, wipe_length]
    · rw [List.getElem?_set, if_neg hw]
      exact wipe_in ((List.mem_cons.mp h).resolve_left (fun q => hw q.symm))
theorem wipe_notin {σ : L2.St} {i : Nat} : ∀ {ws : List Nat}, i ∉ ws → (wipe σ ws)[i]? = σ[i]?
  | [], _ => rfl
  | w :: ws, h => by
    show ((wipe σ ws).set w none)[i]? = _
    rw [List.getElem?_set, if_neg (fun q => h (by rw [q]; exact List.mem_cons_self))]
    exact wipe_notin fun q => h (List.mem_cons_of_mem _ q)
theorem wipe_ext {σ τ : L2.St} {ws : List Nat} (hl : σ.length = τ.length) (h : ∀ i, i ∉ ws → σ[i]? = τ[i]?) : wipe σ ws = wipe τ ws := by
  apply List.ext_getElem?
  intro i
  by_cases hi : i ∈ ws
  · rw [wipe_in hi, wipe_in hi, hl]
  · rw [wipe_notin hi, wipe_notin hi, h i hi]
theorem wipe_set_mem {σ : L2.St} {o : Option V} {j : Nat} {vs : List Nat} (h : j ∈ vs) : wipe (σ.set j o) vs = wipe σ vs :=
  wipe_ext (by simp) fun i hi => by rw [List.getElem?_set, if_neg (fun q : j = i => hi (by rw [← q]; exact h))]
theorem wipe_wipe (σ : L2.St) (vs : List Nat) : wipe (wipe σ vs) vs = wipe σ vs := wipe_ext (wipe_length σ vs) fun i hi => wipe_notin hi
theorem wipeS_in {σ : List Sl} {i : Nat} : ∀ {ws : List Nat}, i ∈ ws → (wipeS σ ws)[i]? = if i < σ.length then some .un else none
  | [], h => by cases h
  | w :: ws, h => by
    show ((wipeS σ ws).set w .un)[i]? = _
    by_cases hw : w = i
    · subst hw; rw [List.getElem?_set, if_pos rfl, wipeS_length]
    · rw [List.getElem?_set, if_neg hw]
      exact wipeS_in ((List.mem_cons.mp h).resolve_left (fun q => hw q.symm))
theorem wipeS_notin {σ : List Sl} {i : Nat} : ∀ {ws : List Nat}, i ∉ ws → (wipeS σ ws)[i]? = σ[i]?
  | [], _ => rfl
  | w :: ws, h => by
    show ((wipeS σ ws).set w .un)[i]? = _
    rw [List.getElem?_set, if_neg (fun q => h (by rw [q]; exact List.mem_cons_self))]
    exact wipeS_notin fun q => h (List.mem_cons_of_mem _ q)
theorem wipeS_ext {σ τ : List Sl} {ws : List Nat} (hl : σ.length = τ.length) (h : ∀ i, i ∉ ws → σ[i]? = τ[i]?) : wipeS σ ws = wipeS τ ws := by
  apply List.ext_getElem?
  intro i
  by_cases hi : i ∈ ws
  · rw [wipeS_in hi, wipeS_in hi, hl]
  · rw [wipeS_notin hi, wipeS_notin hi, h i hi]
theorem wipeS_set_mem {σ : List Sl} {o : Sl} {j : Nat} {vs : List Nat} (h : j ∈ vs) : wipeS (σ.set j o) vs = wipeS σ vs :=
  wipeS_ext (by simp) fun i hi => by rw [List.getElem?_set, if_neg (fun q : j = i => hi (by rw [← q]; exact h))]
theorem wipeS_wipeS (σ : List Sl) (vs : List Nat) : wipeS (wipeS σ vs) vs = wipeS σ vs := wipeS_ext (wipeS_length σ vs) fun i hi => wipeS_notin hi
/-- the slots that a block wipes lie on the pile meanwhile -/
theorem wiped_pile (hl : σ.length = ss.length) : ∀ (us : List Nat), ∃ lost : Ps, ∀ (K : PySem.W.Frag) (Γ : Cxt) (H0 H : Hp) (R : Ps), Env K Γ H0 H (ss.zip σ ++ R) ↔ Env K Γ H0 H ((wipeS ss us).zip (wipe σ us) ++ (lost ++ R))
  | [] => ⟨[], fun K Γ H0 H R => Iff.rfl⟩
  | u :: us => by
    obtain ⟨lost, h⟩ := wiped_pile hl us
    have hl1 : (wipe σ us).length = (wipeS ss us).length := by rw [wipe_length, wipeS_length, hl]
    by_cases hu : u < (wipeS ss us).length
    · obtain ⟨s, hs⟩ : ∃ s, (wipeS ss us)[u]? = some s := ⟨_, List.getElem?_eq_getElem hu⟩
      obtain ⟨o, ho⟩ := get_of_len hl1 hs
      refine ⟨(s, o) :: lost, fun K Γ H0 H R => (h K Γ H0 H R).trans ?_⟩
      have p1 := zip_out hs ho
      have p2 := zip_set (s := .un) (o := none) hl1 hu
      constructor
      · intro I
        have I1 := (I.perm (p1.append_right _)).pushU none
        refine I1.perm ?_
        show (((Sl.un, none) :: (s, o) :: ((wipeS ss us).eraseIdx u).zip ((wipe σ us).eraseIdx u) ++ (lost ++ R)) : Ps).Perm (((wipeS ss us).set u .un).zip ((wipe σ us).set u none) ++ ((s, o) :: lost ++ R))
        refine List.Perm.trans ?_ (p2.symm.append_right _)
        refine List.Perm.cons _ ?_
        exact List.perm_middle.symm
      · intro I
        have I1 := (I.perm ((p2.append_right _ : (((wipeS ss us).set u .un).zip ((wipe σ us).set u none) ++ ((s, o) :: lost ++ R)).Perm _))).drop
        refine I1.perm ?_
        refine List.Perm.trans ?_ (p1.symm.append_right _)
        exact List.perm_middle
    · have e1 : (wipeS ss us).set u .un = wipeS ss us := List.set_eq_of_length_le (by omega)
      have e2 : (wipe σ us).set u none = wipe σ us := List.set_eq_of_length_le (by omega)
      refine ⟨lost, fun K Γ H0 H R => ?_⟩
      show _ ↔ Env K Γ H0 H (((wipeS ss us).set u .un).zip ((wipe σ us).set u none) ++ (lost ++ R))
      rw [e1, e2]; exact h K Γ H0 H R
theorem Env.wiped (hl : σ.length = ss.length) : ∀ (us : List Nat), Env K Γ H0 H (ss.zip σ ++ τ) → Env K Γ H0 H ((wipeS ss us).zip (wipe σ us) ++ τ)
  | [], I => I
  | u :: us, I => by
    have I1 := Env.wiped hl us I
    have hl1 : (wipe σ us).length = (wipeS ss us).length := by rw [wipe_length, wipeS_length, hl]
    by_cases hu : u < (wipeS ss us).length
    · exact Env.store hl1 hu (I1.pushU none)
    · have e1 : (wipeS ss us).set u .un = wipeS ss us := List.set_eq_of_length_le (by omega)
      have e2 : (wipe σ us).set u none = wipe σ us := List.set_eq_of_length_le (by omega)
      show Env K Γ H0 H (((wipeS ss us).set u .un).zip ((wipe σ us).set u none) ++ τ)
      rw [e1, e2]; exact I1

/-! ### targets -/
theorem wpG_name {us : List Nat} {i : Nat} {C : List Sl → Prop} (hi : i < ss.length) (hu : i ∈ us) (c : C (ss.set i (.val d))) : wpG K Γ us (gName i) d ss C := fun H0 σ H τ x hl I Q q =>
  q _ _ H (by simp [hl]) (wipe_set_mem hu) (wipeS_set_mem hu) (I.store hl hi) c
/-- i, j = a pair -/
theorem wpG_pair {us : List Nat} {i j : Nat} {C : List Sl → Prop} {x y : D} (hi : i < ss.length) (hj : j < ss.length) (hu : i ∈ us) (hv : j ∈ us) (hd : d = .tup [x, y]) (c : C ((ss.set i (.val x)).set j (.val y))) :
    wpG K Γ us (gTup K 2 (gCons (gName i) (gCons (gName j) gNil))) d ss C := fun H0 σ H τ w hl I Q q => by
  subst hd
  obtain ⟨a, vs, e, ht, r⟩ := I.val List.mem_cons_self
  obtain ⟨v1, ws, rfl, r1, r⟩ := r
  obtain ⟨v2, ws, rfl, r2, r⟩ := r
  have r : ws = [] := r
  subst r
  refine ⟨a, [v1, v2], e, ht, rfl, v1, [v2], rfl, v2, [], rfl, rfl, ?_⟩
  have I1 : Env K Γ H0 H (ss.zip σ ++ τ) := I.drop
  have I2 := Env.store hl hi (I1.push r1)
  refine q _ _ H (by simp [hl]) ?_ (by rw [wipeS_set_mem hv, wipeS_set_mem hu]) (Env.store (by simp [hl]) (by simpa using hj) (I2.push (r2.less fun b m => m.imp id fun m => ?_))) c
  · rw [wipe_set_mem hv, wipe_set_mem hu]
  · have p := ((zip_set (ss := ss) (σ := σ) (s := .val x) (o := some v1) hl hi).append_right τ)
    have m1 := (owned_perm p).mem_iff.mp m
    have m2 : b ∈ owned ((ss.eraseIdx i).zip (σ.eraseIdx i) ++ τ) := m1
    have hs : ∃ s, ss[i]? = some s := ⟨ss[i], List.getElem?_eq_getElem hi⟩
    obtain ⟨s, hs⟩ := hs
    obtain ⟨o, ho⟩ := get_of_len hl hs
    have p2 := (zip_out hs ho).append_right τ
    refine (owned_perm p2).mem_iff.mpr ?_
    rw [List.cons_append, ← List.singleton_append, owned_app]
    exact List.mem_append_right _ m2

/-! ### what is walked -/
theorem walks_list {a : Addr} {ds : List D} {o : Option V} (ho : o = some (.ref a)) : Walks K Γ (Itl K a) ds [(.val (.lst ds), o)] := fun H0 H ps I m => by
  subst ho
  obtain ⟨b, vs, e, n, h, r⟩ := I.val (m _ List.mem_cons_self)
  cases e
  have hq : SqL K H a vs := .inl (.inl h)
  refine ⟨fun i d hd => ?_, ⟨vs, hq, by rw [r.length]; exact Nat.le_refl _⟩⟩
  obtain ⟨v, hv, rv⟩ := r.get hd
  refine ⟨⟨vs, v, hq, hv⟩, fun x H' y => ?_⟩
  obtain ⟨rfl, y⟩ := y
  have : v = x := Option.some.inj (hv.symm.trans (y vs hq))
  subst this
  exact I.push rv
theorem walks_tup {a : Addr} {ds : List D} {o : Option V} (ho : o = some (.ref a)) : Walks K Γ (Itt K a) ds [(.val (.tup ds), o)] := fun H0 H ps I m => by
  subst ho
  obtain ⟨b, vs, e, h, r⟩ := I.val (m _ List.mem_cons_self)
  cases e
  refine ⟨fun i d hd => ?_, ⟨vs, h, by rw [r.length]; exact Nat.le_refl _⟩⟩
  obtain ⟨v, hv, rv⟩ := r.get hd
  refine ⟨⟨vs, v, h, hv⟩, fun x H' y => ?_⟩
  obtain ⟨rfl, y⟩ := y
  have : v = x := Option.some.inj (hv.symm.trans (y vs h))
  subst this
  exact I.push rv
def rngD (lo : Int) (n : Nat) : List D := (List.range n).map fun i => .int (lo + (i : Nat))
theorem walks_rng {lo : Int} {n : Nat} : Walks K Γ (Itr lo n) (rngD lo n) [] := fun H0 H ps I m => by
  refine ⟨fun i d hd => ?_, by show n ≤ _; simp [rngD]⟩
  have hi : i < n := by
    have := (List.getElem?_eq_some_iff.mp hd).1
    simpa [rngD] using this
  have e : d = .int (lo + (i : Nat)) := by
    have : (rngD lo n)[i]? = some (.int (lo + (i : Nat))) := by simp [rngD, hi]
    rw [this] at hd; exact (Option.some.inj hd).symm
  subst e
  refine ⟨hi, fun x H' y => ?_⟩
  obtain ⟨rfl, rfl⟩ := y
  exact I.push (d := .int _) rfl
theorem wpI_list {tl : TE} {C : List D → Prop} (h : wpE K Γ tl ss fun d => ∃ ds, d = .lst ds ∧ C ds) : wpI K Γ (iList K tl) ss C := fun H0 σ H τ hl I R k =>
  h H0 σ H τ hl I _ fun v d H1 J c => by
    obtain ⟨ds, rfl, c⟩ := c
    obtain ⟨a, vs, e, n, t, r⟩ := J.val List.mem_cons_self
    exact ⟨a, e, ⟨vs, .inl (.inl t)⟩, k _ H1 ds [(.val (.lst ds), some v)] (J.perm List.perm_middle.symm) (walks_list (by rw [e])) c⟩
theorem wpI_tup {tl : TE} {C : List D → Prop} (h : wpE K Γ tl ss fun d => ∃ ds, d = .tup ds ∧ C ds) : wpI K Γ (iTup K tl) ss C := fun H0 σ H τ hl I R k =>
  h H0 σ H τ hl I _ fun v d H1 J c => by
    obtain ⟨ds, rfl, c⟩ := c
    obtain ⟨a, vs, e, t, r⟩ := J.val List.mem_cons_self
    exact ⟨a, e, ⟨vs, t⟩, k _ H1 ds [(.val (.tup ds), some v)] (J.perm List.perm_middle.symm) (walks_tup (by rw [e])) c⟩
theorem wpI_rng1 {ta : TA} {C : List D → Prop} (h : wpA K Γ ta ss fun ds => ∃ j : Int, ds = [.int j] ∧ (-(2 ^ 62) ≤ j ∧ j < 2 ^ 62) ∧ C (rngD 0 j.toNat)) : wpI K Γ (iRng1 ta) ss C := fun H0 σ H τ hl I R k =>
  h H0 σ H τ hl I _ fun vs ds H1 hd J c => by
    obtain ⟨j, rfl, hj, c⟩ := c
    match vs, hd with
    | [v], _ =>
      have rv : v = .int j := J.val List.mem_cons_self
      subst rv
      exact ⟨j, rfl, hj.1, hj.2, k _ H1 _ [] J.dropL walks_rng c⟩
theorem wpI_rng2 {ta : TA} {C : List D → Prop} (h : wpA K Γ ta ss fun ds => ∃ i j : Int, ds = [.int i, .int j] ∧ (-(2 ^ 62) ≤ i ∧ i < 2 ^ 62 ∧ -(2 ^ 62) ≤ j ∧ j < 2 ^ 62) ∧ C (rngD i (j - i).toNat)) : wpI K Γ (iRng2 ta) ss C := fun H0 σ H τ hl I R k =>
  h H0 σ H τ hl I _ fun vs ds H1 hd J c => by
    obtain ⟨i, j, rfl, hj, c⟩ := c
    match vs, hd with
    | [v, w], _ =>
      have rv : v = .int i := J.val List.mem_cons_self
      have rw' : w = .int j := J.val (List.mem_cons_of_mem _ List.mem_cons_self)
      subst rv rw'
      exact ⟨i, j, rfl, hj, k _ H1 _ [] J.dropL walks_rng c⟩
/-- a new tuple on the pile -/
theorem Env.newTup {p : Addr} {ds : List D} {ws : List V} (I : Env K Γ H0 H ps) (hp : H p = none) (r : Reps K (Out Γ ps) H ds ws) : Env K Γ H0 (upd H p (.tup ws)) ((.val (.tup ds), some (.ref p)) :: ps) :=
  (I.ext (Ext.new hp)).push (d := .tup ds) ⟨p, ws, rfl, SqT.of upd_same, r.ext (Ext.new hp)⟩
def zipD : List D → List D → List D
  | x :: xs, y :: ys => .tup [x, y] :: zipD xs ys
  | _, _ => []
theorem zipD_get : ∀ (xs ys : List D) {i : Nat} {d : D}, (zipD xs ys)[i]? = some d → ∃ x y, xs[i]? = some x ∧ ys[i]? = some y ∧ d = .tup [x, y]
  | [], _, _, _, h => by simp [zipD] at h
  | _ :: _, [], _, _, h => by simp [zipD] at h
  | x :: xs, y :: ys, 0, d, h => by simp [zipD] at h; exact ⟨x, y, rfl, rfl, h.symm⟩
  | x :: xs, y :: ys, i + 1, d, h => by
    simp only [zipD, List.getElem?_cons_succ] at h
    exact zipD_get xs ys h
theorem zipD_length : ∀ (xs ys : List D), (zipD xs ys).length = min xs.length ys.length
  | [], _ => by simp [zipD]
  | _ :: _, [] => by simp [zipD]
  | x :: xs, y :: ys => by simp [zipD, zipD_length xs ys]
theorem walks_zip {a b : Addr} {xs ys : List D} : Walks K Γ (Itz K a b) (zipD xs ys) [(.val (.lst xs), some (.ref a)), (.val (.lst ys), some (.ref b))] := fun H0 H ps I m => by
  obtain ⟨a', vs, e, n, h, r⟩ := I.val (m _ List.mem_cons_self)
  obtain ⟨b', ws, e', n', h', r'⟩ := I.val (m _ (List.mem_cons_of_mem _ List.mem_cons_self))
  cases e; cases e'
  have hq : SqL K H a vs := .inl (.inl h)
  have hq' : SqL K H b ws := .inl (.inl h')
  refine ⟨fun i d hd => ?_, ⟨vs, ws, hq, hq', by rw [zipD_length, ← r.length, ← r'.length]; omega⟩⟩
  obtain ⟨x, y, hx, hy, rfl⟩ := zipD_get _ _ hd
  obtain ⟨v, hv, rv⟩ := r.get hx
  obtain ⟨w, hw, rw'⟩ := r'.get hy
  refine ⟨⟨vs, ws, v, w, hq, hq', hv, hw⟩, fun z H' y => ?_⟩
  obtain ⟨T, v1, w1, rfl, hT, rfl, y1, y2⟩ := y
  have e1 : v = v1 := Option.some.inj (hv.symm.trans (y1 vs hq))
  have e2 : w = w1 := Option.some.inj (hw.symm.trans (y2 ws hq'))
  subst e1 e2
  exact I.newTup hT (.cons rv (.cons rw' .nil))
theorem walks_zipT {a b : Addr} {xs ys : List D} : Walks K Γ (ItzT K a b) (zipD xs ys) [(.val (.tup xs), some (.ref a)), (.val (.tup ys), some (.ref b))] := fun H0 H ps I m => by
  obtain ⟨a', vs, e, hq, r⟩ := I.val (m _ List.mem_cons_self)
  obtain ⟨b', ws, e', hq', r'⟩ := I.val (m _ (List.mem_cons_of_mem _ List.mem_cons_self))
  cases e; cases e'
  refine ⟨fun i d hd => ?_, ⟨vs, ws, hq, hq', by rw [zipD_length, ← r.length, ← r'.length]; omega⟩⟩
  obtain ⟨x, y, hx, hy, rfl⟩ := zipD_get _ _ hd
  obtain ⟨v, hv, rv⟩ := r.get hx
  obtain ⟨w, hw, rw'⟩ := r'.get hy
  refine ⟨⟨vs, ws, v, w, hq, hq', hv, hw⟩, fun z H' y => ?_⟩
  obtain ⟨T, v1, w1, rfl, hT, rfl, y1, y2⟩ := y
  have e1 : v = v1 := Option.some.inj (hv.symm.trans (y1 vs hq))
  have e2 : w = w1 := Option.some.inj (hw.symm.trans (y2 ws hq'))
  subst e1 e2
  exact I.newTup hT (.cons rv (.cons rw' .nil))
theorem wpI_zip {ta : TA} {C : List D → Prop} (h : wpA K Γ ta ss fun ds => (∃ xs ys, ds = [.lst xs, .lst ys] ∧ C (zipD xs ys)) ∨ (∃ xs ys, ds = [.tup xs, .tup ys] ∧ C (zipD xs ys))) : wpI K Γ (iZipA K ta) ss C := fun H0 σ H τ hl I R k =>
  h H0 σ H τ hl I _ fun vs ds H1 hd J c => by
    rcases c with ⟨xs, ys, rfl, c⟩ | ⟨xs, ys, rfl, c⟩
    · match vs, hd with
      | [v, w], _ =>
        obtain ⟨a, us, rfl, n, t, r⟩ := J.val (d := .lst xs) List.mem_cons_self
        obtain ⟨b, ws, rfl, n', t', r'⟩ := J.val (d := .lst ys) (List.mem_cons_of_mem _ List.mem_cons_self)
        refine ⟨a, b, us, ws, rfl, .inl ⟨.inl (.inl t), .inl (.inl t'), k _ H1 _ [(.val (.lst xs), some (.ref a)), (.val (.lst ys), some (.ref b))] (J.perm ?_) walks_zip c⟩⟩
        rw [← List.append_assoc, ← List.append_assoc]
        exact List.perm_append_comm.append_right _
    · match vs, hd with
      | [v, w], _ =>
        obtain ⟨a, us, rfl, t, r⟩ := J.val (d := .tup xs) List.mem_cons_self
        obtain ⟨b, ws, rfl, t', r'⟩ := J.val (d := .tup ys) (List.mem_cons_of_mem _ List.mem_cons_self)
        refine ⟨a, b, us, ws, rfl, .inr ⟨t, t', k _ H1 _ [(.val (.tup xs), some (.ref a)), (.val (.tup ys), some (.ref b))] (J.perm ?_) walks_zipT c⟩⟩
        rw [← List.append_assoc, ← List.append_assoc]
        exact List.perm_append_comm.append_right _
def enumD (k : Nat) : List D → List D
  | [] => []
  | x :: xs => .tup [.int k, x] :: enumD (k + 1) xs
theorem enumD_get : ∀ (xs : List D) {k i : Nat} {d : D}, (enumD k xs)[i]? = some d → ∃ x, xs[i]? = some x ∧ d = .tup [.int ((k + i : Nat)), x]
  | [], _, _, _, h => by simp [enumD] at h
  | x :: xs, k, 0, d, h => by simp [enumD] at h; exact ⟨x, rfl, by simpa using h.symm⟩
  | x :: xs, k, i + 1, d, h => by
    simp only [enumD, List.getElem?_cons_succ] at h
    obtain ⟨y, h1, h2⟩ := enumD_get xs h
    exact ⟨y, by simpa using h1, by rw [h2]; congr 3; omega⟩
theorem enumD_length : ∀ (xs : List D) (k : Nat), (enumD k xs).length = xs.length
  | [], _ => rfl
  | x :: xs, k => by simp [enumD, enumD_length xs]
theorem walks_enum {a : Addr} {xs : List D} : Walks K Γ (Ite K a) (enumD 0 xs) [(.val (.lst xs), some (.ref a))] := fun H0 H ps I m => by
  obtain ⟨a', vs, e, n, h, r⟩ := I.val (m _ List.mem_cons_self)
  cases e
  have hq : SqL K H a vs := .inl (.inl h)
  refine ⟨fun i d hd => ?_, ⟨vs, hq, by rw [enumD_length, ← r.length]; exact Nat.le_refl _⟩⟩
  obtain ⟨x, hx, rfl⟩ := enumD_get _ hd
  obtain ⟨v, hv, rv⟩ := r.get hx
  refine ⟨⟨vs, v, hq, hv⟩, fun z H' y => ?_⟩
  obtain ⟨T, v1, rfl, hT, rfl, y1⟩ := y
  have e1 : v = v1 := Option.some.inj (hv.symm.trans (y1 vs hq))
  subst e1
  rw [Nat.zero_add]
  exact I.newTup hT (.cons rfl (.cons rv .nil))
theorem wpI_enum {ta : TA} {C : List D → Prop} (h : wpA K Γ ta ss fun ds => ∃ xs, ds = [.lst xs] ∧ C (enumD 0 xs)) : wpI K Γ (iEnum K ta) ss C := fun H0 σ H τ hl I R k =>
  h H0 σ H τ hl I _ fun vs ds H1 hd J c => by
    obtain ⟨xs, rfl, c⟩ := c
    match vs, hd with
    | [v], _ =>
      obtain ⟨a, us, rfl, n, t, r⟩ := J.val (d := .lst xs) List.mem_cons_self
      exact ⟨a, us, rfl, .inl (.inl t), k _ H1 _ [(.val (.lst xs), some (.ref a))] (J.perm (List.perm_middle (l₁ := ss.zip σ) (a := (Sl.val (D.lst xs), some (V.ref a)))).symm) walks_enum c⟩
/-! ### for -/
theorem wpS_for {us : List Nat} (h : wpI K Γ wi ss fun ds => ∃ I : Nat → List Sl → Prop, I 0 ss ∧
      (∀ i d ss', ds[i]? = some d → I i ss' → wpG K Γ us g d ss' fun ss2 => wpS K Γ t1 ss2 { nx := I (i + 1), ct := I (i + 1), bk := e.nx, rt := e.rt }) ∧ (∀ ss', I ds.length ss' → e.nx ss')) :
    wpS K Γ (tFor wi g t1) ss e := fun H0 σ H τ D hl I k =>
  h H0 σ H τ hl I _ fun J H1 ds τ1 I1 w ⟨P, p0, ps, pd⟩ => by
    refine ⟨fun i m σ' H' => m = ds.length - i ∧ i ≤ ds.length ∧ ∃ ss', σ'.length = ss'.length ∧ Env K Γ H0 H' (ss'.zip σ' ++ (τ1 ++ τ)) ∧ P i ss', ⟨ds.length, by simp, Nat.zero_le _, ss, hl, I1, p0⟩, ?_⟩
    rintro i m σ' H' ⟨rfl, hi, ss', hl', I', p⟩
    obtain ⟨w1, w2⟩ := w H0 H' _ I' (fun q hq => List.mem_append_right _ (List.mem_append_left _ hq))
    by_cases hlt : i < ds.length
    · have hd : ds[i]? = some ds[i] := List.getElem?_eq_getElem hlt
      obtain ⟨g1, g2⟩ := w1 i _ hd
      refine .inr ⟨g1, fun σ2 H2 => i + 1 ≤ ds.length ∧ ∃ ss2, σ2.length = ss2.length ∧ Env K Γ H0 H2 (ss2.zip σ2 ++ (τ1 ++ τ)) ∧ P (i + 1) ss2, ?_, fun x H2 y => ?_⟩
      · rintro σ2 H2 ⟨h1, ss2, h2, I2, p2⟩
        exact ⟨ds.length - (i + 1), by omega, rfl, h1, ss2, h2, I2, p2⟩
      · refine ps i _ ss' hd p H0 σ' H2 (τ1 ++ τ) x hl' (g2 x H2 y) _ fun ss2 σ2 H3 hl2 _ _ I2 c => ?_
        refine c H0 σ2 H3 (τ1 ++ τ) _ hl2 I2 ⟨fun ss3 σ3 H4 hl3 I3 q => ⟨hlt, ss3, hl3, I3, q⟩, fun v d H4 I3 q => ?_, fun ss3 σ3 H4 hl3 I3 q => ?_, fun ss3 σ3 H4 hl3 I3 q => ⟨hlt, ss3, hl3, I3, q⟩⟩
        · exact k.rt v d H4 (I3.perm ((List.perm_middle (l₁ := τ1)).symm)).dropL q
        · refine k.nx ss3 σ3 H4 hl3 ?_ q
          have : (ss3.zip σ3 ++ (τ1 ++ τ)).Perm (τ1 ++ (ss3.zip σ3 ++ τ)) := by
            rw [← List.append_assoc, ← List.append_assoc]; exact List.perm_append_comm.append_right _
          exact (I3.perm this).dropL
    · have hi' : i = ds.length := by omega
      subst hi'
      refine .inl ⟨w2, k.nx ss' σ' H' hl' ?_ (pd ss' p)⟩
      have : (ss'.zip σ' ++ (τ1 ++ τ)).Perm (τ1 ++ (ss'.zip σ' ++ τ)) := by
        rw [← List.append_assoc, ← List.append_assoc]; exact List.perm_append_comm.append_right _
      exact (I'.perm this).dropL
/-! ### comprehensions -/
theorem wpO_lc {us : List Nat} {C : List D → Prop} (h : wpI K Γ wi ss fun ds => ds.length ≤ 100000 ∧ ∃ I : Nat → List D → Prop, I 0 [] ∧
      (∀ i d acc, ds[i]? = some d → I i acc → wpG K Γ us g d (wipeS ss us) fun ss2 => wpT K Γ tt ss2 fun b => if b = true then wpE K Γ te ss2 fun y => I (i + 1) (acc ++ [y]) else I (i + 1) acc) ∧ (∀ acc, I ds.length acc → C acc)) :
    wpO K Γ (tLc wi g tt te us) ss C := fun H0 σ H τ hl I Q q =>
  h H0 σ H τ hl I _ fun J H1 ds τ1 I1 w ⟨hz, P, p0, ps, pd⟩ => fun A hA => by
    obtain ⟨lost, hlost⟩ := wiped_pile hl us
    have hlw : (wipe σ us).length = (wipeS ss us).length := by rw [wipe_length, wipeS_length, hl]
    have pm : ∀ (X Y Z : Ps) (p : Sl × Option V), (p :: (X ++ (Y ++ Z))).Perm (X ++ (Y ++ p :: Z)) := fun X Y Z p => by
      rw [← List.append_assoc, ← List.append_assoc]
      exact List.perm_middle.symm
    refine ⟨fun i m H' => m = ds.length - i ∧ i ≤ ds.length ∧ ∃ acc, acc.length ≤ i ∧ Env K Γ H0 H' (ss.zip σ ++ (τ1 ++ ((.own acc, some (.ref A)) :: τ))) ∧ P i acc, ⟨ds.length, by simp, Nat.zero_le _, [], Nat.le_refl _, (I1.pushO hA (Reps.nil)).perm (pm _ _ _ _), p0⟩, ?_⟩
    rintro i m H' ⟨rfl, hi, acc, hacc, I', p⟩
    obtain ⟨w1, w2⟩ := w H0 H' _ I' (fun q hq => List.mem_append_right _ (List.mem_append_left _ hq))
    by_cases hlt : i < ds.length
    · have hd : ds[i]? = some ds[i] := List.getElem?_eq_getElem hlt
      obtain ⟨g1, g2⟩ := w1 i _ hd
      refine .inr ⟨g1, fun H2 => i + 1 ≤ ds.length ∧ ∃ acc, acc.length ≤ i + 1 ∧ Env K Γ H0 H2 (ss.zip σ ++ (τ1 ++ ((.own acc, some (.ref A)) :: τ))) ∧ P (i + 1) acc, ?_, fun x H2 y => ?_⟩
      · rintro H2 ⟨h1, acc, h2, I2, p2⟩
        exact ⟨ds.length - (i + 1), by omega, rfl, h1, acc, h2, I2, p2⟩
      · have J2 := g2 x H2 y
        -- the block's slots; what it wipes lies on the pile
        have J3 : Env K Γ H0 H2 ((.val ds[i], some x) :: ((wipeS ss us).zip (wipe σ us) ++ (lost ++ (τ1 ++ ((.own acc, some (.ref A)) :: τ))))) := by
          have a1 : Env K Γ H0 H2 (ss.zip σ ++ ((.val ds[i], some x) :: (τ1 ++ ((.own acc, some (.ref A)) :: τ)))) := J2.perm List.perm_middle.symm
          have a2 := (hlost K Γ H0 H2 _).mp a1
          refine a2.perm ?_
          rw [← List.append_assoc, ← List.append_assoc (bs := lost)]
          exact List.perm_middle
        have back : ∀ (acc : List D) (ss2 : List Sl) (σ2 : L2.St) (H3 : Hp), σ2.length = ss2.length → wipe σ2 us = wipe (wipe σ us) us → wipeS ss2 us = wipeS (wipeS ss us) us → Env K Γ H0 H3 (ss2.zip σ2 ++ (lost ++ (τ1 ++ ((.own acc, some (.ref A)) :: τ)))) → Env K Γ H0 H3 (ss.zip σ ++ (τ1 ++ ((.own acc, some (.ref A)) :: τ))) := fun acc ss2 σ2 H3 hl2 e1 e2 I3 => by
          obtain ⟨l2, h2⟩ := wiped_pile hl2 us
          have b1 := (h2 K Γ H0 H3 _).mp I3
          have b2 : Env K Γ H0 H3 ((wipeS ss2 us).zip (wipe σ2 us) ++ (lost ++ (τ1 ++ ((.own acc, some (.ref A)) :: τ)))) := (b1.perm (by
            rw [← List.append_assoc]
            exact (List.perm_append_comm.append_right _).trans (by rw [List.append_assoc]))).dropL (qs := l2)
          rw [e1, e2, wipe_wipe, wipeS_wipeS] at b2
          exact (hlost K Γ H0 H3 _).mpr b2
        refine ps i _ acc hd p H0 (wipe σ us) H2 _ x hlw J3 _ fun ss2 σ2 H3 hl2 e1 e2 I2 c => ⟨e1.trans (wipe_wipe σ us), ?_⟩
        refine c H0 σ2 H3 _ hl2 I2 _ fun b H4 I4 c4 => ?_
        cases b with
        | false => exact ⟨hlt, acc, Nat.le_succ_of_le hacc, back acc ss2 σ2 H4 hl2 e1 e2 I4, c4⟩
        | true =>
          refine c4 H0 σ2 H4 _ hl2 I4 _ fun v d H5 I5 c5 => ?_
          have pa : ((.val d, some v) :: (ss2.zip σ2 ++ (lost ++ (τ1 ++ ((Sl.own acc, some (V.ref A)) :: τ)))) : Ps).Perm ((.own acc, some (.ref A)) :: (.val d, some v) :: (ss2.zip σ2 ++ (lost ++ (τ1 ++ τ)))) := by
            refine List.Perm.trans (List.Perm.cons _ ?_) (List.Perm.swap _ _ _)
            rw [← List.append_assoc lost, ← List.append_assoc lost]
            exact (pm _ _ _ _).symm
          have I6 := I5.perm pa
          obtain ⟨ws, hw, rw'⟩ := I6.own List.mem_cons_self
          refine ⟨ws, hw, Nat.lt_of_le_of_lt (by rw [← rw'.length]; exact hacc) (Nat.lt_of_lt_of_le (Nat.lt_of_lt_of_le hlt hz) (by decide)), hlt, acc ++ [d], by simp; exact hacc, ?_, c5⟩
          have rd := I6.val (d := d) (v := v) (List.mem_cons_of_mem _ List.mem_cons_self)
          have I7 := I6.write (rw'.app (Reps.one rd))
          refine back (acc ++ [d]) ss2 σ2 _ hl2 e1 e2 ?_
          have I8 := (I7.perm (List.Perm.swap _ _ _)).drop
          refine I8.perm ?_
          rw [← List.append_assoc lost, ← List.append_assoc lost]
          exact pm _ _ _ _
    · have hi' : i = ds.length := by omega
      subst hi'
      refine .inl ⟨w2, ?_⟩
      have I3 := I'.perm (pm _ _ _ _).symm
      have I4 : Env K Γ H0 H' ((.own acc, some (.ref A)) :: (ss.zip σ ++ τ)) := (I3.perm (by
        have : (((Sl.own acc, some (V.ref A)) :: (ss.zip σ ++ (τ1 ++ τ))) : Ps).Perm (τ1 ++ ((Sl.own acc, some (V.ref A)) :: (ss.zip σ ++ τ))) := by
          refine List.Perm.trans (List.Perm.cons _ ?_) List.perm_middle.symm
          rw [← List.append_assoc, ← List.append_assoc]; exact List.perm_append_comm.append_right _
        exact this)).dropL
      exact q A acc H' I4 (pd acc p)
end
end SQ
namespace SQ
open PySem PySem.Spec PyProof.Rows L2 RZ

/-! ### the same as data of the library -/
mutual
def py : D → PyData
  | .non => .none
  | .bl b => .bool b
  | .int i => .int i
  | .str x => .str x
  | .tup xs => .tuple (pys xs)
  | .lst xs => .list (pys xs)
  | _ => .none
def pys : List D → List PyData
  | [] => []
  | d :: ds => py d :: pys ds
end
mutual
/-- plain data, not too deep -/
def pyk : Nat → D → Bool
  | _, .non => true
  | _, .bl _ => true
  | _, .int _ => true
  | _, .str x => PyData.canLay0 (.str x)
  | n + 1, .tup xs => pyks n xs
  | n + 1, .lst xs => pyks n xs
  | _, _ => false
def pyks : Nat → List D → Bool
  | _, [] => true
  | n, d :: ds => pyk n d && pyks n ds
end
theorem pys_length : ∀ ds : List D, (pys ds).length = ds.length
  | [] => rfl
  | d :: ds => congrArg (· + 1) (pys_length ds)
mutual
theorem Rep.dp {K : PySem.W.Frag} {S : Addr → Prop} {H : Hp} : ∀ (n : Nat) (d : D) (v : V), pyk n d = true → Rep K S H d v → Dp K H v (py d)
  | _, .non, v, _, h => by have h : v = .non := h; subst h; exact .non
  | _, .bl b, v, _, h => by have h : v = .bl b := h; subst h; exact .bl b
  | _, .int i, v, _, h => by have h : v = .int i := h; subst h; exact .int i
  | _, .str x, v, _, h => by have h : v = .str x := h; subst h; exact .str x
  | n + 1, .tup xs, v, p, h => by
    obtain ⟨a, vs, e, t, q⟩ := h
    subst e
    exact .tup t (Reps.dp n xs vs p q)
  | n + 1, .lst xs, v, p, h => by
    obtain ⟨a, vs, e, _, t, q⟩ := h
    subst e
    exact .lst (.inl (.inl t)) (Reps.dp n xs vs p q)
theorem Reps.dp {K : PySem.W.Frag} {S : Addr → Prop} {H : Hp} : ∀ (n : Nat) (ds : List D) (vs : List V), pyks n ds = true → Reps K S H ds vs → DpAll K H vs (pys ds)
  | _, [], vs, _, h => by have h : vs = [] := h; subst h; exact .nil
  | n, d :: ds, vs, p, h => by
    obtain ⟨v, ws, e, a, b⟩ := h
    subst e
    have p' : (pyk n d && pyks n ds) = true := p
    rw [Bool.and_eq_true] at p'
    exact .cons (Rep.dp n d v p'.1 a) (Reps.dp n ds ws p'.2 b)
end
mutual
theorem py_shape : ∀ (n : Nat) (d : D), pyk n d = true → (py d).canLay0 = true ∧ (py d).depth ≤ n
  | _, .non, _ => ⟨rfl, Nat.zero_le _⟩
  | _, .bl b, _ => ⟨rfl, Nat.zero_le _⟩
  | _, .int i, _ => ⟨rfl, Nat.zero_le _⟩
  | _, .str x, p => ⟨p, Nat.zero_le _⟩
  | n + 1, .tup xs, p => by
    obtain ⟨a, b⟩ := pys_shape n xs p
    exact ⟨a, Nat.succ_le_succ b⟩
  | n + 1, .lst xs, p => by
    obtain ⟨a, b⟩ := pys_shape n xs p
    exact ⟨a, Nat.succ_le_succ b⟩
theorem pys_shape : ∀ (n : Nat) (ds : List D), pyks n ds = true → PyData.canLayAll0 (pys ds) = true ∧ PyData.depthAll (pys ds) ≤ n
  | _, [], _ => ⟨rfl, Nat.zero_le _⟩
  | n, d :: ds, p => by
    have p' : (pyk n d && pyks n ds) = true := p
    rw [Bool.and_eq_true] at p'
    obtain ⟨a, b⟩ := py_shape n d p'.1
    obtain ⟨a', b'⟩ := pys_shape n ds p'.2
    refine ⟨?_, Nat.max_le.mpr ⟨b, b'⟩⟩
    show (PyData.canLay0 (py d) && PyData.canLayAll0 (pys ds)) = true
    rw [a, a']; rfl
end
theorem py_shaped {d : D} (h : pyk 64 d = true) : SeqAt.shaped (py d) = true := by
  obtain ⟨a, b⟩ := py_shape 64 d h
  show (PyData.canLay0 (py d) && decide ((py d).depth ≤ 64)) = true
  rw [a, decide_eq_true b]; rfl
/-- == of plain data -/
def eqD (x y : D) : Bool := PyData.eqv (py x) (py y)
def eqDs (x y : List D) : Bool := PyData.eqvAll (pys x) (pys y)
@[simp] theorem eqD_int {i j : Int} : eqD (.int i) (.int j) = (i == j) := rfl
@[simp] theorem eqD_bl {i j : Bool} : eqD (.bl i) (.bl j) = (i == j) := rfl
@[simp] theorem eqD_str {i j : Str} : eqD (.str i) (.str j) = (i == j) := rfl
@[simp] theorem eqD_tup {x y : List D} : eqD (.tup x) (.tup y) = eqDs x y := rfl
@[simp] theorem eqD_lst {x y : List D} : eqD (.lst x) (.lst y) = eqDs x y := rfl
@[simp] theorem eqDs_nil : eqDs [] [] = true := rfl
@[simp] theorem eqDs_cons {x y : D} {xs ys : List D} : eqDs (x :: xs) (y :: ys) = (eqD x y && eqDs xs ys) := rfl
@[simp] theorem eqDs_nc {y : D} {ys : List D} : eqDs [] (y :: ys) = false := rfl
@[simp] theorem eqDs_cn {y : D} {ys : List D} : eqDs (y :: ys) [] = false := rfl
theorem eqDs_ints : ∀ {x y : List Int}, eqDs (x.map D.int) (y.map D.int) = decide (x = y)
  | [], [] => by simp
  | [], y :: ys => by simp
  | x :: xs, [] => by simp
  | x :: xs, y :: ys => by
    simp only [List.map_cons, eqDs_cons, eqD_int, eqDs_ints (x := xs) (y := ys), List.cons.injEq]
    by_cases h : x = y <;> by_cases h2 : xs = ys <;> simp [h, h2]
theorem pyks_ints {n : Nat} : ∀ {x : List Int}, pyks n (x.map D.int) = true
  | [] => rfl
  | x :: xs => by
    show (true && pyks n (xs.map D.int)) = true
    rw [pyks_ints]; rfl

/-! ### operators -/
/-- + of ints, texts, tuples, lists -/
def rAddA (K : PySem.W.Frag) : R2 := fun x y H Q => (∃ i j, x = .int i ∧ y = .int j ∧ Q (.int (i + j)) H) ∨ (∃ i j, x = .str i ∧ y = .str j ∧ i.length + j.length ≤ sizeLine ∧ Q (.str (i ++ j)) H) ∨ rCatA K x y H Q ∨ rCat x y H Q
theorem op_addA {X : Cx} : OpR X (binaryOp .Add) (rAddA X.K) := op_add.or (op_add_str.or (op_catA.or op_cat))
def rMulA (K : PySem.W.Frag) : R2 := fun x y H Q => (∃ i j, x = .int i ∧ y = .int j ∧ (CMul i j ∨ CMulW i j) ∧ Q (.int (i * j)) H) ∨ rRepT K x y H Q ∨ rRep x y H Q
theorem op_mulA {X : Cx} : OpR X (binaryOp .Mult) (rMulA X.K) := by
  intro pins s σ H x y v u Q I rx ry h
  rcases h with ⟨i, j, e1, e2, h | h, q⟩ | h | h
  · exact op_mul pins s σ H x y v u Q I rx ry ⟨i, j, e1, e2, h, q⟩
  · exact op_mulW pins s σ H x y v u Q I rx ry ⟨i, j, e1, e2, h, q⟩
  · exact op_repT pins s σ H x y v u Q I rx ry h
  · exact op_rep pins s σ H x y v u Q I rx ry h
/-- ** of ints: a result of at most 2 ^ 27 bits -/
def CPowW (i j : Int) : Prop := 0 ≤ j ∧ (Builtin.Int.intBits i : Int) * j ≤ 2 ^ 27
theorem op_powW {X : Cx} : OpR X (binaryOp .Pow) (rI CPowW fun i j => .int (i ^ j.toNat)) := opI fun _ _ _ _ _ _ _ hc q => pow_int hc.1 hc.2 q
section
variable {K : PySem.W.Frag} {Γ : Cxt} {ss : List Sl} {C : D → Prop} {CO : List D → Prop} {te ta tb : TE} {i j : Int} {xs ys : List D}
theorem wpR_addI (c : C (.int (i + j))) : wpR K (rAddA K) (.int i) (.int j) C := fun S H v w l rx ry Q q => by
  have rx : v = .int i := rx
  have ry : w = .int j := ry
  exact .inl ⟨i, j, rx, ry, q _ _ H (Ext.refl H) (show Rep K S H (.int (i + j)) _ from rfl) c⟩
theorem wpR_addT (hz : xs.length + ys.length ≤ 100000) (c : C (.tup (xs ++ ys))) : wpR K (rAddA K) (.tup xs) (.tup ys) C := fun S H v w l rx ry Q q => by
  obtain ⟨a, vs, rfl, ta, ra⟩ := rx
  obtain ⟨b, ws, rfl, tb, rb⟩ := ry
  refine .inr (.inr (.inl ⟨a, b, vs, ws, rfl, rfl, ta, tb, by rw [← ra.length, ← rb.length]; exact Nat.le_trans hz (by decide), fun e => ?_, fun _ e => ?_, fun _ _ p hp => ?_⟩))
  · subst e
    have : xs = [] := List.eq_nil_of_length_eq_zero (by rw [ra.length]; rfl)
    subst this
    exact q _ _ H (Ext.refl H) (show Rep K S H (.tup ([] ++ ys)) _ from ⟨b, ws, rfl, tb, rb⟩) c
  · subst e
    have : ys = [] := List.eq_nil_of_length_eq_zero (by rw [rb.length]; rfl)
    subst this
    rw [List.append_nil] at c
    exact q _ _ H (Ext.refl H) (show Rep K S H (.tup xs) _ from ⟨a, vs, rfl, ta, ra⟩) c
  · exact q _ _ _ (Ext.new hp) (show Rep K S _ (.tup (xs ++ ys)) _ from ⟨p, vs ++ ws, rfl, SqT.of upd_same, (ra.app rb).ext (Ext.new hp)⟩) c
theorem wpRO_addL (hz : xs.length + ys.length ≤ 100000) (c : CO (xs ++ ys)) : wpRO K (rAddA K) (.lst xs) (.lst ys) CO := fun S H v w l rx ry Q q => by
  obtain ⟨a, vs, rfl, na, ta, ra⟩ := rx
  obtain ⟨b, ws, rfl, nb, tb, rb⟩ := ry
  exact .inr (.inr (.inr ⟨a, b, vs, ws, rfl, rfl, ta, tb, by rw [← ra.length, ← rb.length]; exact Nat.le_trans hz (by decide), fun p hp => q p (xs ++ ys) _ hp (ra.app rb) c⟩))
/-- a new list as a value -/
theorem wpR_frz {r : R2} {x y : D} (h : wpRO K r x y fun xs => C (.lst xs)) : wpR K r x y C := fun S H v w l rx ry Q q =>
  h S H v w l rx ry Q fun p xs vs hp rr c => q _ _ _ (Ext.new hp) (show Rep K S _ (.lst xs) _ from ⟨p, vs, rfl, l.fresh hp, upd_same, rr.ext (Ext.new hp)⟩) c
theorem wpR_addL (hz : xs.length + ys.length ≤ 100000) (c : C (.lst (xs ++ ys))) : wpR K (rAddA K) (.lst xs) (.lst ys) C := wpR_frz (wpRO_addL hz c)
theorem wpO_op {r : R2} (h : wpE K Γ ta ss fun x => wpE K Γ tb ss fun y => wpRO K r x y CO) : wpO K Γ (tOp r ta tb) ss CO := fun H0 σ H τ hl I Q q =>
  h H0 σ H τ hl I _ fun x dx H1 J1 h1 => h1 H0 σ H1 ((.val dx, some x) :: τ) hl (J1.perm (List.perm_middle.symm)) _ fun y dy H2 J2 h2 => by
    have J3 : Env K Γ H0 H2 (ss.zip σ ++ τ) := (J2.drop.perm List.perm_middle).drop
    have ow : ∀ b, Out Γ (ss.zip σ ++ τ) b → Out Γ ((Sl.val dy, some y) :: (ss.zip σ ++ (Sl.val dx, some x) :: τ)) b := fun b z => z.imp id fun z => by
      show b ∈ owned (ss.zip σ ++ (Sl.val dx, some x) :: τ)
      rw [owned_app] at z ⊢; exact z
    exact h2 (Out Γ (ss.zip σ ++ τ)) H2 x y J3.live ((J2.val (d := dx) (v := x) (List.mem_cons_of_mem _ (List.mem_append_right _ List.mem_cons_self))).less ow) ((J2.val (d := dy) (v := y) List.mem_cons_self).less ow) Q fun p xs vs hp r c => q p xs _ (J3.pushO hp r) c
theorem wpR_subI {f : Int → Int → Int} (c : C (.int (f i j))) : wpR K (rI0 fun i j => .int (f i j)) (.int i) (.int j) C := fun S H v w l rx ry Q q => by
  have rx : v = .int i := rx
  have ry : w = .int j := ry
  exact ⟨i, j, rx, ry, q _ _ H (Ext.refl H) (show Rep K S H (.int (f i j)) _ from rfl) c⟩
theorem wpR_cmpI {f : Int → Int → Bool} (c : C (.bl (f i j))) : wpR K (rI0 fun i j => .bl (f i j)) (.int i) (.int j) C := fun S H v w l rx ry Q q => by
  have rx : v = .int i := rx
  have ry : w = .int j := ry
  exact ⟨i, j, rx, ry, q _ _ H (Ext.refl H) (show Rep K S H (.bl (f i j)) _ from rfl) c⟩
theorem wpR_condI {f : Int → Int → Int} {P : Int → Int → Prop} (h : P i j) (c : C (.int (f i j))) : wpR K (rI P fun i j => .int (f i j)) (.int i) (.int j) C := fun S H v w l rx ry Q q => by
  have rx : v = .int i := rx
  have ry : w = .int j := ry
  exact ⟨i, j, rx, ry, h, q _ _ H (Ext.refl H) (show Rep K S H (.int (f i j)) _ from rfl) c⟩
theorem wpR_mulI (h : CMul i j ∨ CMulW i j) (c : C (.int (i * j))) : wpR K (rMulA K) (.int i) (.int j) C := fun S H v w l rx ry Q q => by
  have rx : v = .int i := rx
  have ry : w = .int j := ry
  exact .inl ⟨i, j, rx, ry, h, q _ _ H (Ext.refl H) (show Rep K S H (.int (i * j)) _ from rfl) c⟩
theorem Reps.flat {S : Addr → Prop} {H : Hp} {vs : List V} (r : Reps K S H xs vs) : ∀ n : Nat, Reps K S H (List.replicate n xs).flatten (List.replicate n vs).flatten
  | 0 => rfl
  | n + 1 => by
    rw [List.replicate_succ, List.replicate_succ, List.flatten_cons, List.flatten_cons]
    exact r.app (Reps.flat r n)
theorem wpR_mulT (hx : xs ≠ []) (h : 2 ≤ j ∧ j ≤ 1000) (hz : xs.length ≤ 1000) (c : C (.tup (List.replicate j.toNat xs).flatten)) : wpR K (rMulA K) (.tup xs) (.int j) C := fun S H v w l rx ry Q q => by
  obtain ⟨a, vs, rfl, ta, ra⟩ := rx
  have ry : w = .int j := ry
  refine .inr (.inl ⟨a, j, vs, rfl, ry, ta, fun e => hx (List.eq_nil_of_length_eq_zero (by rw [ra.length, e]; rfl)), h.1, h.2, by rw [← ra.length]; exact hz, fun p hp => ?_⟩)
  exact q _ _ _ (Ext.new hp) (show Rep K S _ (.tup (List.replicate j.toNat xs).flatten) _ from ⟨p, _, rfl, SqT.of upd_same, (ra.flat _).ext (Ext.new hp)⟩) c
theorem wpRO_mulL (h : 0 ≤ j ∧ j ≤ 100000) (hz : xs.length * j.toNat ≤ 100000) (c : CO (List.replicate j.toNat xs).flatten) : wpRO K (rMulA K) (.lst xs) (.int j) CO := fun S H v w l rx ry Q q => by
  obtain ⟨a, vs, rfl, na, ta, ra⟩ := rx
  have ry : w = .int j := ry
  exact .inr (.inr ⟨a, j, vs, rfl, ry, ta, by omega, by omega, by rw [← ra.length]; exact Nat.le_trans hz (by decide), fun p hp => q p _ _ hp (ra.flat _) c⟩)
theorem wpU_int {f : Int → Int} (c : C (.int (f i))) : wpU K (rU fun i => .int (f i)) (.int i) C := fun S H v l rx Q q => by
  have rx : v = .int i := rx
  exact ⟨i, rx, q _ _ H (Ext.refl H) (show Rep K S H (.int (f i)) _ from rfl) c⟩
/-! ### == and != -/
theorem wpR_eqD {x y : D} (hx : pyk 64 x = true) (hy : pyk 64 y = true) (c : C (.bl (eqD x y))) : wpR K (rEqD K) x y C := fun S H v w l rx ry Q q =>
  ⟨py x, py y, Rep.dp 64 x v hx rx, Rep.dp 64 y w hy ry, py_shaped hx, py_shaped hy, q _ _ H (Ext.refl H) (show Rep K S H (.bl (eqD x y)) _ from rfl) c⟩
theorem wpR_neD {x y : D} (hx : pyk 64 x = true) (hy : pyk 64 y = true) (c : C (.bl (!eqD x y))) : wpR K (rNeD K) x y C := fun S H v w l rx ry Q q =>
  ⟨py x, py y, Rep.dp 64 x v hx rx, Rep.dp 64 y w hy ry, py_shaped hx, py_shaped hy, q _ _ H (Ext.refl H) (show Rep K S H (.bl (!eqD x y)) _ from rfl) c⟩
/-! ### places -/
theorem wpR_ixT {d : D} (h : atI xs i = some d) (c : C d) : wpR K (rIx K) (.tup xs) (.int i) C := fun S H v w l rx ry Q q => by
  obtain ⟨a, vs, rfl, ta, ra⟩ := rx
  have ry : w = .int i := ry
  obtain ⟨k, h1, h2⟩ := Option.bind_eq_some_iff.mp (show (ixN xs.length i).bind (fun j => xs[j]?) = some d from h)
  obtain ⟨z, hz, rz⟩ := ra.get h2
  exact .inr (.inl ⟨a, vs, i, z, rfl, ry, ta, by show (ixN vs.length i).bind (fun j => vs[j]?) = some z; rw [← ra.length, h1]; exact hz, q _ _ H (Ext.refl H) rz c⟩)
theorem wpR_ixL {d : D} (h : atI xs i = some d) (c : C d) : wpR K (rIx K) (.lst xs) (.int i) C := fun S H v w l rx ry Q q => by
  obtain ⟨a, vs, rfl, na, ta, ra⟩ := rx
  have ry : w = .int i := ry
  obtain ⟨k, h1, h2⟩ := Option.bind_eq_some_iff.mp (show (ixN xs.length i).bind (fun j => xs[j]?) = some d from h)
  obtain ⟨z, hz, rz⟩ := ra.get h2
  exact .inl ⟨a, vs, i, z, rfl, ry, .inl (.inl ta), by show (ixN vs.length i).bind (fun j => vs[j]?) = some z; rw [← ra.length, h1]; exact hz, q _ _ H (Ext.refl H) rz c⟩
theorem sql_none {H : Hp} {a : Addr} {xs : List V} (h : SqL K (fun _ => none) a xs) : SqL K H a xs := by
  rcases h with (h | ⟨_, h⟩) | h
  · cases h
  · cases h
  · exact .inr h
theorem wpR_ixS {ns : List Int} {z : Int} (h : atI ns i = some z) (c : C (.int z)) : wpR K (rIx K) (.scr ns) (.int i) C := fun S H v w l rx ry Q q => by
  obtain ⟨a, rfl, ra⟩ := rx
  have ry : w = .int i := ry
  have ra : SqL K H a (ns.map V.int) := by
    rcases ra with ⟨_, t⟩ | t
    · exact .inl t
    · exact sql_none t
  refine .inl ⟨a, _, i, .int z, rfl, ry, ra, ?_, q _ _ H (Ext.refl H) (show Rep K S H (.int z) _ from rfl) c⟩
  obtain ⟨k, h1, h2⟩ := Option.bind_eq_some_iff.mp (show (ixN ns.length i).bind (fun j => ns[j]?) = some z from h)
  show (ixN (ns.map V.int).length i).bind (fun j => (ns.map V.int)[j]?) = some _
  rw [List.length_map, h1]
  simp [h2]
end
end SQ
namespace SQ
open PySem PySem.Spec PyProof.Rows L2 RZ
/-! ### calls of what is built in -/
def bLen (K : PySem.W.Frag) : List V → Hp → VK → Prop := fun xs H Q => ∃ x n, xs = [x] ∧ LenV K x H n ∧ Q (.int n) H
theorem cr_len {X : Cx} : CallR X (.builtin "len") (bLen X.K) := call_len
def bInt : List V → Hp → VK → Prop := fun xs H Q => (∃ i, xs = [.int i] ∧ Q (.int i) H) ∨ ∃ k, xs = [.bl k] ∧ Q (.int (if k then 1 else 0)) H
theorem cr_int {X : Cx} : CallR X (.type "int") bInt := call_int1
def bAbs : List V → Hp → VK → Prop := fun xs H Q => ∃ i, xs = [.int i] ∧ Q (.int (if i < 0 then -i else i)) H
theorem cr_abs {X : Cx} : CallR X (.builtin "abs") bAbs := call_abs
def bMax (K : PySem.W.Frag) : List V → Hp → VK → Prop := fun xs H Q => (∃ i j, xs = [.int i, .int j] ∧ Q (.int (if j > i then j else i)) H) ∨ rMax K xs H Q
theorem cr_maxA {X : Cx} (hc : X.calm = true) : CallR X (.builtin "max") (bMax X.K) := (call_max2 hc).or (cr_max hc)
def bMin (K : PySem.W.Frag) : List V → Hp → VK → Prop := fun xs H Q => (∃ i j, xs = [.int i, .int j] ∧ Q (.int (if j < i then j else i)) H) ∨ rMin K xs H Q
theorem cr_minA {X : Cx} (hc : X.calm = true) : CallR X (.builtin "min") (bMin X.K) := (call_min2 hc).or (cr_min hc)
def bSumT (K : PySem.W.Frag) : List V → Hp → VK → Prop := fun vs H Q => ∃ (a : Addr) (ns : List Int), vs = [V.ref a] ∧ SqT K H a (ns.map V.int) ∧ Q (.int ns.sum) H
theorem cr_sumT {X : Cx} (hc : X.calm = true) : CallR X (.builtin "sum") (bSumT X.K) := by
  intro pins s σ H vs us Q I r h
  obtain ⟨a, ns, rfl, hs, q⟩ := h
  obtain ⟨its, rv, hl, hz⟩ := I.tuple hs
  rw [Vals.ref1 r]
  have hi := rv.ints
  obtain ⟨xs, hx⟩ := hi.allInts.items
  have hn : numsOf its.toArray.toList = ns := by rw [show its.toArray.toList = its from rfl, hi.numsOf]
  have hl' : s.heap.IsTuple a its.toArray := by
    obtain ⟨o, h1, h2, n, h3⟩ := hl
    exact ⟨o, h1, h2, n, h3⟩
  rw [hx] at hl' hn
  rw [nums_intItems] at hn
  refine PySem.W.ktm_sumG (I.ok.hd hc) hl' fun h' tk t' hk => ?_
  refine ⟨.int ns.sum, H, I.kept (t' := tk) hk, ⟨t', ?_⟩, q⟩
  rw [preSum_eq, List.take_of_length_le (by simp), hn]
def bSum (K : PySem.W.Frag) : List V → Hp → VK → Prop := fun xs H Q => rSum K xs H Q ∨ bSumT K xs H Q
theorem cr_sumA {X : Cx} (hc : X.calm = true) : CallR X (.builtin "sum") (bSum X.K) := (cr_sum hc).or (cr_sumT hc)
def bTup (K : PySem.W.Frag) : List V → Hp → VK → Prop := fun xs H Q => ∃ p ys, xs = [.ref p] ∧ ((SqL K H p ys ∧ ∀ l, H l = none → Q (.ref l) (upd H l (.tup ys))) ∨ (SqT K H p ys ∧ Q (.ref p) H))
theorem cr_tup {X : Cx} : CallR X (.type "tuple") (bTup X.K) := call_tuple_of
def bLst (K : PySem.W.Frag) : List V → Hp → VK → Prop := fun xs H Q => ∃ p ys, xs = [.ref p] ∧ (SqL K H p ys ∨ SqT K H p ys) ∧ ∀ l, H l = none → Q (.ref l) (upd H l (.lst ys))
theorem cr_lst {X : Cx} : CallR X (.type "list") (bLst X.K) := call_list_of
section
variable {K : PySem.W.Frag} {Γ : Cxt} {ss : List Sl} {C : D → Prop} {CO : List D → Prop} {te ta tb : TE} {i j : Int} {xs ys : List D} {b : Bool} {ns : List Int}
theorem reps1 {S : Addr → Prop} {H : Hp} {d : D} {vs : List V} (r : Reps K S H [d] vs) : ∃ v, vs = [v] ∧ Rep K S H d v := by
  obtain ⟨v, ws, rfl, a, b⟩ := r
  have b : ws = [] := b
  subst b
  exact ⟨v, rfl, a⟩
theorem reps2 {S : Addr → Prop} {H : Hp} {d e : D} {vs : List V} (r : Reps K S H [d, e] vs) : ∃ v w, vs = [v, w] ∧ Rep K S H d v ∧ Rep K S H e w := by
  obtain ⟨v, ws, rfl, a, b⟩ := r
  obtain ⟨w, rfl, c⟩ := reps1 b
  exact ⟨v, w, rfl, a, c⟩
theorem wpB_lenT (c : C (.int xs.length)) : wpB K (bLen K) [.tup xs] C := fun S H vs l r Q q => by
  obtain ⟨v, rfl, a, ws, rfl, t, r⟩ := reps1 r
  exact ⟨.ref a, ws.length, rfl, .inr ⟨ws, t, rfl⟩, q _ _ H (Ext.refl H) (show Rep K S H (.int xs.length) _ by rw [r.length]; rfl) c⟩
theorem wpB_lenL (c : C (.int xs.length)) : wpB K (bLen K) [.lst xs] C := fun S H vs l r Q q => by
  obtain ⟨v, rfl, a, ws, rfl, n, t, r⟩ := reps1 r
  exact ⟨.ref a, ws.length, rfl, .inl ⟨ws, .inl (.inl t), rfl⟩, q _ _ H (Ext.refl H) (show Rep K S H (.int xs.length) _ by rw [r.length]; rfl) c⟩
theorem wpB_lenS (c : C (.int ns.length)) : wpB K (bLen K) [.scr ns] C := fun S H vs l r Q q => by
  obtain ⟨v, rfl, a, rfl, ra⟩ := reps1 r
  have ra : SqL K H a (ns.map V.int) := by
    rcases ra with ⟨_, t⟩ | t
    · exact .inl t
    · exact sql_none t
  exact ⟨.ref a, _, rfl, .inl ⟨_, ra, rfl⟩, q _ _ H (Ext.refl H) (show Rep K S H (.int ns.length) _ by rw [List.length_map]; rfl) c⟩
theorem wpB_intI (c : C (.int i)) : wpB K bInt [.int i] C := fun S H vs l r Q q => by
  obtain ⟨v, rfl, r1⟩ := reps1 r
  have r1 : v = .int i := r1
  exact .inl ⟨i, by rw [r1], q _ _ H (Ext.refl H) (show Rep K S H (.int i) _ from rfl) c⟩
theorem wpB_intB (c : C (.int (if b = true then 1 else 0))) : wpB K bInt [.bl b] C := fun S H vs l r Q q => by
  obtain ⟨v, rfl, r1⟩ := reps1 r
  have r1 : v = .bl b := r1
  exact .inr ⟨b, by rw [r1], q _ _ H (Ext.refl H) (show Rep K S H (.int (if b = true then 1 else 0)) _ from rfl) c⟩
theorem wpB_abs (c : C (.int (if i < 0 then -i else i))) : wpB K bAbs [.int i] C := fun S H vs l r Q q => by
  obtain ⟨v, rfl, r1⟩ := reps1 r
  have r1 : v = .int i := r1
  exact ⟨i, by rw [r1], q _ _ H (Ext.refl H) (show Rep K S H (.int (if i < 0 then -i else i)) _ from rfl) c⟩
theorem wpB_max2 (c : C (.int (max i j))) : wpB K (bMax K) [.int i, .int j] C := fun S H vs l r Q q => by
  obtain ⟨v, w, rfl, r1, r2⟩ := reps2 r
  have r1 : v = .int i := r1
  have r2 : w = .int j := r2
  refine .inl ⟨i, j, by rw [r1, r2], q _ _ H (Ext.refl H) (show Rep K S H (.int (max i j)) _ from ?_) c⟩
  show V.int _ = V.int _
  congr 1
  omega
theorem wpB_min2 (c : C (.int (min i j))) : wpB K (bMin K) [.int i, .int j] C := fun S H vs l r Q q => by
  obtain ⟨v, w, rfl, r1, r2⟩ := reps2 r
  have r1 : v = .int i := r1
  have r2 : w = .int j := r2
  refine .inl ⟨i, j, by rw [r1, r2], q _ _ H (Ext.refl H) (show Rep K S H (.int (min i j)) _ from ?_) c⟩
  show V.int _ = V.int _
  congr 1
  omega
theorem wpB_sumL (c : C (.int ns.sum)) : wpB K (bSum K) [.lst (ns.map D.int)] C := fun S H vs l r Q q => by
  obtain ⟨v, rfl, a, ws, rfl, n, t, r⟩ := reps1 r
  rw [Reps.ints.mp r] at t
  exact .inl ⟨a, ns, rfl, .inl (.inl t), q _ _ H (Ext.refl H) (show Rep K S H (.int ns.sum) _ from rfl) c⟩
theorem wpB_sumT (c : C (.int ns.sum)) : wpB K (bSum K) [.tup (ns.map D.int)] C := fun S H vs l r Q q => by
  obtain ⟨v, rfl, a, ws, rfl, t, r⟩ := reps1 r
  rw [Reps.ints.mp r] at t
  exact .inr ⟨a, ns, rfl, t, q _ _ H (Ext.refl H) (show Rep K S H (.int ns.sum) _ from rfl) c⟩
theorem wpB_tupL (c : C (.tup xs)) : wpB K (bTup K) [.lst xs] C := fun S H vs l r Q q => by
  obtain ⟨v, rfl, a, ws, rfl, n, t, r⟩ := reps1 r
  exact ⟨a, ws, rfl, .inl ⟨.inl (.inl t), fun p hp => q _ _ _ (Ext.new hp) (show Rep K S _ (.tup xs) _ from ⟨p, ws, rfl, SqT.of upd_same, r.ext (Ext.new hp)⟩) c⟩⟩
theorem wpB_tupT (c : C (.tup xs)) : wpB K (bTup K) [.tup xs] C := fun S H vs l r Q q => by
  obtain ⟨v, rfl, a, ws, rfl, t, r⟩ := reps1 r
  exact ⟨a, ws, rfl, .inr ⟨t, q _ _ H (Ext.refl H) (show Rep K S H (.tup xs) _ from ⟨a, ws, rfl, t, r⟩) c⟩⟩
theorem wpBO_lstT (c : CO xs) : wpBO K (bLst K) [.tup xs] CO := fun S H vs l r Q q => by
  obtain ⟨v, rfl, a, ws, rfl, t, r⟩ := reps1 r
  exact ⟨a, ws, rfl, .inr t, fun p hp => q p xs ws hp r c⟩
theorem wpBO_lstL (c : CO xs) : wpBO K (bLst K) [.lst xs] CO := fun S H vs l r Q q => by
  obtain ⟨v, rfl, a, ws, rfl, n, t, r⟩ := reps1 r
  exact ⟨a, ws, rfl, .inl (.inl (.inl t)), fun p hp => q p xs ws hp r c⟩
end
/-! ### isinstance -/
def tyName : D → Option String
  | .non => some "NoneType"
  | .bl _ => some "bool"
  | .int _ => some "int"
  | .str _ => some "str"
  | .tup _ => some "tuple"
  | .lst _ => some "list"
  | .dk _ _ => some "dict"
  | _ => none
theorem tyx_of {K : PySem.W.Frag} {S : Addr → Prop} {H : Hp} {d : D} {v : V} {n : String} (h : tyName d = some n) (r : Rep K S H d v) : TyX K H v (.type n) := by
  cases d with
  | non => cases h; have r : v = .non := r; subst r; exact .base .non
  | bl b => cases h; have r : v = .bl b := r; subst r; exact .base (.bl b)
  | int i => cases h; have r : v = .int i := r; subst r; exact .base (.int i)
  | str x => cases h; have r : v = .str x := r; subst r; exact .base (.str x)
  | tup xs =>
    cases h
    obtain ⟨a, vs, rfl, t, _⟩ := r
    rcases t with (t | ⟨o, t⟩) | ⟨o, its, k, h1, h2, _⟩
    · exact .base (.tup t)
    · exact .fTuple t
    · exact .kTuple h1 h2
  | lst xs =>
    cases h
    obtain ⟨a, vs, rfl, _, t, _⟩ := r
    exact .base (.lst t)
  | dk ks ds =>
    cases h
    obtain ⟨a, kws, rfl, _, t, _⟩ := r
    exact .base (.dK t)
  | cell a => cases h
  | scr ns => cases h
  | ty n => cases h
  | ins C ns ds => cases h
def bIsi (K : PySem.W.Frag) : List V → Hp → VK → Prop := rIsi K
theorem wpB_isi {K : PySem.W.Frag} {C : D → Prop} {d : D} {n m : String} {b : Bool} (h : tyName d = some n) (hk : kitB n m = some b) (c : C (.bl b)) : wpB K (bIsi K) [d, .ty m] C := fun S H vs l r Q q => by
  obtain ⟨v, w, rfl, r1, r2⟩ := reps2 r
  have r2 : w = .ty m := r2
  subst r2
  exact ⟨v, .ty m, .type n, .type m, b, rfl, .ty m, tyx_of h r1, kit_ty hk, q _ _ H (Ext.refl H) (show Rep K S H (.bl b) _ from rfl) c⟩
/-! ### a def -/
theorem zip_start {K : PySem.W.Frag} {Γ : Cxt} {H0 H : Hp} : ∀ (ds : List D) (vs : List V) (k : Nat), ds.length = vs.length → Env K Γ H0 H (pile ds vs) → Env K Γ H0 H ((ds.map Sl.val ++ List.replicate k Sl.un).zip (vs.map some ++ List.replicate k none)) := by
  intro ds vs k hl I
  rw [List.zip_append (by simp [hl])]
  have : ∀ k : Nat, Env K Γ H0 H (pile ds vs ++ (List.replicate k Sl.un).zip (List.replicate k (none : Option V))) := by
    intro k
    induction k with
    | zero => simpa using I
    | succ k ih =>
      rw [List.replicate_succ, List.replicate_succ, List.zip_cons_cons]
      exact (ih.pushU none).perm List.perm_middle.symm
  exact this k
theorem run_def {K : PySem.W.Frag} {F : Fn} {vs : List V} {H : Hp} {Q : VK} {E : XK} {N : List Str} {t : TS} (h : spF K F vs H Q E)
    (hb : ∀ (Γ : Cxt) (ds : List D) (C : D → Prop), Γ.E = E → F (sc Γ) ds C Γ.X → wpS K Γ t (ds.map Sl.val ++ List.replicate (N.length - ds.length) .un) { nx := fun _ => C .non, rt := rtV C }) :
    t { nx := fun _ H' => Q .non H', rt := Q } (L2.start N vs) H := by
  obtain ⟨Γ, ds, C, ok, w, r, f, q, x⟩ := h
  have hl := r.length
  have I0 : Env K { Γ with E := E } H H [] := ⟨⟨ok.al, ok.st⟩, w, Rel.refl _ _, List.nodup_nil, fun a z => (by cases z), fun p z => (by cases z), fun x1 cls d H' h1 h2 h3 h4 => x x1 cls d H' h1 h2 h3 h4⟩
  have I1 : Env K { Γ with E := E } H H (pile ds vs) := by
    have : ∀ (ds : List D) (vs : List V), Reps K Γ.S H ds vs → Env K { Γ with E := E } H H (pile ds vs) := by
      intro ds
      induction ds with
      | nil => intro vs r; have r : vs = [] := r; subst r; exact I0
      | cons d ds ih =>
        intro vs r
        obtain ⟨v, ws, rfl, a, b⟩ := r
        have J := ih ws b
        refine J.push (a.less fun b z => ?_)
        rcases z with z | z
        · exact z
        · have : owned (pile ds ws) = [] := owned_pile
          rw [this] at z; cases z
    exact this ds vs r
  have I2 := zip_start ds vs (N.length - ds.length) hl I1
  have hz : L2.start N vs = vs.map some ++ List.replicate (N.length - ds.length) none := by
    unfold L2.start; rw [hl]
  refine hb { Γ with E := E } ds C rfl f H (L2.start N vs) H [] _ (by rw [hz]; simp [hl]) (by rw [hz, List.append_nil]; exact I2) ⟨fun ss σ H' _ I c => ?_, fun v s H' I c => ?_, fun ss σ H' _ I c => c.elim, fun ss σ H' _ I c => c.elim⟩
  · exact q .non .non H' I.rel I.w rfl c
  · cases s with
    | val d => exact q v d H' I.rel I.w ((I.val List.mem_cons_self).less fun a z => .inl z) c
    | un => exact c.elim
    | own xs => exact c.elim
end SQ
namespace SQ
open PySem PySem.Spec PyProof.Rows L2 RZ
/-! ### what is walked: a list or a tuple -/
def iSeq (K : PySem.W.Frag) (te : TE) : TI := fun σ H R => te σ H fun x H1 => ∃ a, x = .ref a ∧ (((∃ xs, SqL K H1 a xs) ∧ R (Itl K a) H1) ∨ ((∃ xs, SqT K H1 a xs) ∧ R (Itt K a) H1))
theorem pi_seq {X : Cx} {tg l : Expr} {te : TE} (he : PE X l te) : PI X tg l (iSeq X.K te) := by
  refine ⟨fun pins s σ H R I h => ?_⟩
  refine thn (he.run pins s σ H _ I h) fun v s1 ⟨x, H1, J, rx, q⟩ => ?_
  obtain ⟨a, ex, q⟩ := q
  rw [ex] at rx
  obtain rfl : v = Value.ref a := rx
  have fp : ∀ b ∈ [s1.heap.objs.size], FpOk X pins H1 b := fun b hb => by
    obtain rfl := List.mem_singleton.mp hb
    exact J.fpOk (Nat.le_refl _) J.fresh
  rcases q with ⟨⟨xs, hq⟩, q⟩ | ⟨⟨xs, hq⟩, q⟩
  · obtain ⟨us, _, hp, _⟩ := J.list hq
    exact wpAny_pyIter_list hp.isList ⟨_, _, _, _, H1, rfl, J.kept (t' := s1.toks) fun b o z => Heap.get?_push_of_some _ z, turn_list a s1.heap.objs.size, ⟨_, Heap.get?_push_size _ rfl, rfl, rfl⟩, fp, q⟩
  · obtain ⟨us, _, hp, _⟩ := J.tuple hq
    obtain ⟨o, h1, h2, n, h3⟩ := hp
    have ht : s1.heap.IsTuple a us.toArray := ⟨o, h1, h2, n, h3⟩
    exact wpAny_pyIter_tuple ht ⟨_, _, _, _, H1, rfl, J.kept (t' := s1.toks) fun b o z => Heap.get?_push_of_some _ z, turn_tuple a s1.heap.objs.size, ⟨_, Heap.get?_push_size _ rfl, rfl, rfl⟩, fp, q⟩
section
variable {K : PySem.W.Frag} {Γ : Cxt} {ss : List Sl} {C : D → Prop} {CO : List D → Prop} {te ta tb : TE} {i j : Int} {xs ys : List D} {b : Bool} {ns : List Int}
theorem wpI_seq {tl : TE} {C : List D → Prop} (h : wpE K Γ tl ss fun d => (∃ ds, d = .lst ds ∧ C ds) ∨ (∃ ds, d = .tup ds ∧ C ds)) : wpI K Γ (iSeq K tl) ss C := fun H0 σ H τ hl I R k =>
  h H0 σ H τ hl I _ fun v d H1 J c => by
    rcases c with ⟨ds, rfl, c⟩ | ⟨ds, rfl, c⟩
    · obtain ⟨a, vs, e, n, t, r⟩ := J.val List.mem_cons_self
      exact ⟨a, e, .inl ⟨⟨vs, .inl (.inl t)⟩, k _ H1 ds [(.val (.lst ds), some v)] (J.perm List.perm_middle.symm) (walks_list (by rw [e])) c⟩⟩
    · obtain ⟨a, vs, e, t, r⟩ := J.val List.mem_cons_self
      exact ⟨a, e, .inr ⟨⟨vs, t⟩, k _ H1 ds [(.val (.tup ds), some v)] (J.perm List.perm_middle.symm) (walks_tup (by rw [e])) c⟩⟩
theorem wpI_seqL {tl : TE} {C : List D → Prop} (h : wpE K Γ tl ss fun d => ∃ ds, d = .lst ds ∧ C ds) : wpI K Γ (iSeq K tl) ss C := wpI_seq (h.mono fun d c => .inl c)
theorem wpI_seqT {tl : TE} {C : List D → Prop} (h : wpE K Γ tl ss fun d => ∃ ds, d = .tup ds ∧ C ds) : wpI K Γ (iSeq K tl) ss C := wpI_seq (h.mono fun d c => .inr c)
theorem cr_isi {X : Cx} : CallR X (.builtin "isinstance") (bIsi X.K) := call_isi
theorem op_eqA {X : Cx} (hu : X.A.units + 64 < cLine) : OpR X (compareOp .Eq) (rEqD X.K) := op_eqD hu
theorem op_neA {X : Cx} (hu : X.A.units + 64 < cLine) : OpR X (compareOp .NotEq) (rNeD X.K) := op_neD hu
def bAll (K : PySem.W.Frag) := rAll K
theorem cr_allA {X : Cx} (hc : X.calm = true) : CallR X (.builtin "all") (bAll X.K) := cr_all hc
def bAny (K : PySem.W.Frag) := rAny K
theorem cr_anyA {X : Cx} (hc : X.calm = true) : CallR X (.builtin "any") (bAny X.K) := cr_any hc
theorem Reps.bls {S : Addr → Prop} {H : Hp} : ∀ {bs : List Bool} {vs : List V}, Reps K S H (bs.map D.bl) vs → vs = bs.map V.bl
  | [], vs, h => h
  | n :: ns, vs, h => by
    obtain ⟨v, us, e, a, b⟩ := h
    have a : v = .bl n := a
    rw [e, a, Reps.bls b]; rfl
theorem wpB_all {bs : List Bool} (c : C (.bl (bs.all id))) : wpB K (bAll K) [.lst (bs.map D.bl)] C := fun S H vs l r Q q => by
  obtain ⟨v, rfl, a, ws, rfl, n, t, r⟩ := reps1 r
  rw [Reps.bls r] at t
  exact ⟨a, bs, rfl, .inl (.inl t), q _ _ H (Ext.refl H) (show Rep K S H (.bl (bs.all id)) _ from rfl) c⟩
theorem wpB_any {bs : List Bool} (c : C (.bl (bs.any id))) : wpB K (bAny K) [.lst (bs.map D.bl)] C := fun S H vs l r Q q => by
  obtain ⟨v, rfl, a, ws, rfl, n, t, r⟩ := reps1 r
  rw [Reps.bls r] at t
  exact ⟨a, bs, rfl, .inl (.inl t), q _ _ H (Ext.refl H) (show Rep K S H (.bl (bs.any id)) _ from rfl) c⟩
/-- a comprehension whose elements and tests are told by functions of the item -/
theorem wpO_lcF {us : List Nat} {wi : TI} {g : TG} {tt : TT} {p : D → Bool} {f : D → D} (h : wpI K Γ wi ss fun ds => ds.length ≤ 100000 ∧
      (∀ d ∈ ds, wpG K Γ us g d (wipeS ss us) fun ss2 => wpT K Γ tt ss2 fun b => b = p d ∧ (b = true → wpE K Γ te ss2 fun y => y = f d)) ∧ CO ((ds.filter p).map f)) :
    wpO K Γ (tLc wi g tt te us) ss CO := wpO_lc fun H0 σ H τ hl I R k => h H0 σ H τ hl I R fun J H1 ds τ1 I1 w ⟨hz, hs, c⟩ => k J H1 ds τ1 I1 w ⟨hz, fun i acc => acc = ((ds.take i).filter p).map f, rfl, fun i d acc hd ha => by
      have hm : d ∈ ds := List.mem_of_getElem? hd
      have ht : ds.take (i + 1) = ds.take i ++ [d] := by rw [List.take_add_one, hd]; rfl
      intro H0 σ H τ x hl I Q q
      refine hs d hm H0 σ H τ x hl I Q fun ss2 σ2 H2 hl2 e1 e2 I2 c2 => q ss2 σ2 H2 hl2 e1 e2 I2 ?_
      refine c2.mono fun b hb => ?_
      obtain ⟨hb, hb2⟩ := hb
      cases b with
      | true =>
        refine (hb2 rfl).mono fun y hy => ?_
        subst hy ha
        rw [ht, List.filter_append, List.map_append]
        simp [← hb]
      | false =>
        subst ha
        show ((ds.take i).filter p).map f = ((ds.take (i + 1)).filter p).map f
        rw [ht, List.filter_append, List.map_append]
        simp [← hb], fun acc ha => by
          subst ha
          rw [List.take_length]; exact c⟩
end
end SQ
namespace SQ
open PySem PySem.Spec PyProof.Rows L2 RZ
/-! ### sorted of ints, from a list or a tuple, up or down -/
def Downs (b : Bool) (ns : List Int) : Prop := OrdB b ns
section
variable {prog : Program} {w : World} {A : Around} {E : Value → Shared → Prop} {s : Shared}
theorem sort_new {vs : List Value} {ns : List Int} {b : Bool} {h1 : Heap} {kw : List (Str × Value)} {Q : Value → Shared → Prop} (hI : IntsAre vs ns) (hz : vs.length ≤ sizeLine)
    (hk : Builtin.«list.sort» ⟨[.ref h1.objs.size], kw⟩ = if b = true then Builtin.«list.sort» ⟨[.ref h1.objs.size], [(Str.ofString "reverse", .bool true)]⟩ else Builtin.«list.sort» ⟨[.ref h1.objs.size], []⟩)
    (ha : argsOk "list.sort" ⟨[.ref h1.objs.size], kw⟩) (ho : (h1.push (seqObj "list" vs.toArray 0)).get? h1.objs.size = some (seqObj "list" vs.toArray 0))
    (h : ∀ (h' : Heap) (out : List Value) (ns' : List Int) (ep : Nat), (∀ c o, h1.get? c = some o → h'.get? c = some o) → h'.get? h1.objs.size = some (seqObj "list" out.toArray ep) → IntsAre out ns' → ns'.Perm ns → OrdB b ns' → Q .none { s with heap := h' }) :
    wpAny (model prog w) A (call (.builtin "list.sort") [.ref h1.objs.size] kw) Q E { s with heap := h1.push (seqObj "list" vs.toArray 0) } := by
  have old : ∀ (out : Array Value) c o, h1.get? c = some o → (sortedHeap (h1.push (seqObj "list" vs.toArray 0)) h1.objs.size vs out).get? c = some o := fun out c o e => by
    have hlt : c < h1.objs.size := Heap.lt_size e
    rw [sortedHeap_old (Nat.ne_of_lt hlt) (Nat.lt_of_lt_of_le hlt (by rw [Heap.size_push]; exact Nat.le_succ _))]
    exact Heap.get?_push_of_some _ e
  refine wpAny_call_entry_kw slot_list_sort ⟨_, ho, rfl⟩ entry_list_sort ?_ ha
  rw [hk]
  cases b with
  | false =>
    rw [if_neg Bool.false_ne_true]
    refine SrtO.list_sort_ord SrtO.swo_int ho hz (fun h2 => SrtO.ints_sortable hI h2) fun out h1' h2' => ⟨_, rfl, ?_⟩
    obtain ⟨k1, k2, k3⟩ := SrtO.ints_out hI h1' h2'
    obtain ⟨ep, he⟩ := sortedHeap_at (out := out.toArray) ho
    exact h _ out _ ep (old _) he k1 k2 k3
  | true =>
    rw [if_pos rfl]
    refine SrtR.list_sort_ordR (b := true) SrtO.swo_int ho hz (fun h2 => SrtO.ints_sortable hI h2) fun out h1' h2' => ⟨_, rfl, ?_⟩
    obtain ⟨ns', k1, k2, k3⟩ := SrtR.ints_outR (b := true) hI h1' h2'
    obtain ⟨ep, he⟩ := sortedHeap_at (out := if true = true then out.toArray.reverse else out.toArray) ho
    refine h _ out.reverse ns' ep (old _) ?_ ?_ k2 k3
    · rw [he]; simp
    · simpa using k1
/-- the items of a list or a tuple, gathered: the heap is told -/
theorem gather {T : String} {a : Addr} {o : Obj} {vs : Array Value} {n : Nat} {Q : List Value → Shared → Prop} (hT : T = "list" ∨ T = "tuple") (ho : s.heap.get? a = some o) (hc : o.cls = .type T) (hd : o.data = .seq vs n) (hz : vs.size ≤ sizeLine)
    (q : ∀ h1 : Heap, h1.objs.size = s.heap.objs.size + 1 → (∀ b u, s.heap.get? b = some u → h1.get? b = some u) → Q vs.toList { s with heap := h1 }) : wpAny (model prog w) A (collect (.ref a)) Q E s := by
  have hN : (s.heap.push { cls := .type "list", data := .seq ([] : List Value).toArray }).get? s.heap.objs.size = some { cls := .type "list", data := .seq #[] 0 } := Heap.get?_push_size _ rfl
  have hN2 := Heap.get?_update_self (Obj.mapSeq (· ++ vs)) hN rfl
  have last : wpAny (model prog w) A (load s.heap.objs.size >>= fun u => match u.data with
      | .seq xs _ => pure xs.toList
      | _ => unsupported "internal:collect") Q E { s with heap := (s.heap.push { cls := .type "list", data := .seq ([] : List Value).toArray }).update s.heap.objs.size (Obj.mapSeq (· ++ vs)) } := by
    refine wpAny_bind (wpAny_load hN2 (wpAny_pure ?_))
    show Q ((#[] : Array Value) ++ vs).toList _
    rw [show ((#[] : Array Value) ++ vs).toList = vs.toList by simp]
    exact q _ (by rw [Heap.size_update, Heap.size_push]) fun b u hb => (Heap.get?_update_other _ _ (Nat.ne_of_gt (Heap.lt_size hb))).trans (Heap.get?_push_of_some _ hb)
  unfold collect
  apply wpAny_bind
  apply wpAny_runValue
  apply codeAny_builtin F.entry_proto_collect
  rw [Around.under_plainId F.plain_proto_collect _]
  apply wpAny_bind
  refine wpAny_newObj_type ?_
  refine wpAny_pure ⟨plainId_quiet F.plain_list_iadd _, ?_⟩
  apply codeAny_builtin F.entry_list_iadd
  rw [Around.under_plainId F.plain_list_iadd _]
  refine wpAny_mono (wpAny_extend_seq (A := A) (hsz := hz) (R := fun r s' => r = .ok (.ret (.ref s.heap.objs.size)) ∧ s' = { s with heap := (s.heap.push { cls := .type "list", data := .seq ([] : List Value).toArray }).update s.heap.objs.size (Obj.mapSeq (· ++ vs)) })
    (s := { s with heap := s.heap.push { cls := .type "list", data := .seq ([] : List Value).toArray } }) s.heap.objs.size a _ 0 hT hN (Heap.get?_push_of_some _ ho) hc hd ⟨rfl, rfl⟩) ?_ ?_
  · intro fin s' h
    cases fin with
    | done f =>
      obtain ⟨e1, e2⟩ := h
      subst e2
      cases e1
      exact last
    | again c' =>
      refine ⟨h.1, codeAny_mono h.2 ?_⟩
      rintro r s2 ⟨e1, e2⟩
      subst e1 e2
      exact last
  · intro e s' h
    exact absurd h.1 (by simp)
theorem sorted_any {T : String} {a : Addr} {o : Obj} {vs : List Value} {n : Nat} {ns : List Int} {b : Bool} {kw : List (Str × Value)} {Q : Value → Shared → Prop} (hT : T = "list" ∨ T = "tuple")
    (ho : s.heap.get? a = some o) (hc : o.cls = .type T) (hd : o.data = .seq vs.toArray n) (hI : IntsAre vs ns) (hz : vs.length ≤ sizeLine)
    (hk : ∀ c : Addr, Builtin.«list.sort» ⟨[.ref c], kw⟩ = if b = true then Builtin.«list.sort» ⟨[.ref c], [(Str.ofString "reverse", .bool true)]⟩ else Builtin.«list.sort» ⟨[.ref c], []⟩)
    (ha1 : argsOk "sorted" ⟨[.ref a], kw⟩) (ha2 : ∀ c, argsOk "list.sort" ⟨[c], kw⟩)
    (h : ∀ (h' : Heap) (p : Addr) (out : List Value) (ns' : List Int) (ep : Nat), (∀ c o, s.heap.get? c = some o → h'.get? c = some o) → s.heap.objs.size ≤ p → h'.get? p = some (seqObj "list" out.toArray ep) → IntsAre out ns' → ns'.Perm ns → OrdB b ns' → Q (.ref p) { s with heap := h' }) :
    wpAny (model prog w) A (call (.builtin "sorted") [.ref a] kw) Q E s := by
  refine call_function_entry_kw kind_sorted plain_sorted entry_sorted ha1 ?_
  unfold Builtin.«sorted»
  refine wpAny_bind (m := checkCount "sorted" 1 1 _) (wpAny_pure ?_)
  refine wpAny_bind (gather hT ho hc hd (by rw [List.size_toArray]; exact hz) fun h1 z1 k1 => ?_)
  refine wpAny_bind (wpAny_newList ?_ (by simpa using hz))
  have hs1 : s.heap.objs.size ≤ h1.objs.size := by omega
  refine wpAny_bind (wpAny_holding (sort_new (b := b) hI hz (hk _) (ha2 _) (Heap.get?_push_size _ rfl) fun h' out ns' ep k2 he h1' h2' h3' => ?_))
  exact wpAny_pure ⟨_, rfl, h h' _ out ns' ep (fun c o e => k2 c o (k1 c o e)) hs1 he h1' h2' h3'⟩
end
section
variable {X : Cx}
/-- sorted(xs) of ints, xs a list or a tuple -/
def bSrt (K : PySem.W.Frag) (b : Bool) : List V → Hp → VK → Prop := fun vs H Q => ∃ (a : Addr) (ns : List Int), vs = [V.ref a] ∧ (SqL K H a (ns.map V.int) ∨ SqT K H a (ns.map V.int)) ∧
  ∀ (ns' : List Int) (p : Addr), ns'.Perm ns → OrdB b ns' → H p = none → Q (.ref p) (upd H p (.lst (ns'.map V.int)))
theorem sorted_core {b : Bool} {kw : List (Str × Value)} {pins : List (Addr × Obj)} {s : Shared} {σ : L2.St} {H : Hp} {a : Addr} {ns : List Int} {Q : VK} (I : Inv X pins σ H s) (hs : SqL X.K H a (ns.map V.int) ∨ SqT X.K H a (ns.map V.int))
    (hk : ∀ c : Addr, Builtin.«list.sort» ⟨[.ref c], kw⟩ = if b = true then Builtin.«list.sort» ⟨[.ref c], [(Str.ofString "reverse", .bool true)]⟩ else Builtin.«list.sort» ⟨[.ref c], []⟩)
    (ha1 : argsOk "sorted" ⟨[.ref a], kw⟩) (ha2 : ∀ c, argsOk "list.sort" ⟨[c], kw⟩)
    (q : ∀ (ns' : List Int) (p : Addr), ns'.Perm ns → OrdB b ns' → H p = none → Q (.ref p) (upd H p (.lst (ns'.map V.int)))) : wpAny (model X.prog X.w) X.A (call (.builtin "sorted") [.ref a] kw) (EP X pins σ Q) X.xe s := by
  obtain ⟨T, o, its, n, hT, ho, hc, hd, rv, hz⟩ : ∃ (T : String) (o : Obj) (its : List Value) (n : Nat), (T = "list" ∨ T = "tuple") ∧ s.heap.get? a = some o ∧ o.cls = .type T ∧ o.data = .seq its.toArray n ∧ Vals (ns.map V.int) its ∧ its.length ≤ sizeLine := by
    rcases hs with hs | hs
    · obtain ⟨its, rv, hl, hz⟩ := I.list hs
      obtain ⟨o, h1, h2, n, h3⟩ := hl.isList
      exact ⟨"list", o, its, n, .inl rfl, h1, h2, h3, rv, by rw [← rv.length]; exact hz⟩
    · obtain ⟨its, rv, hl, hz⟩ := I.tuple hs
      obtain ⟨o, h1, h2, n, h3⟩ := hl
      exact ⟨"tuple", o, its, n, .inr rfl, h1, h2, h3, rv, by rw [← rv.length]; exact hz⟩
  refine sorted_any hT ho hc hd rv.ints hz hk ha1 ha2 fun h' p out ns' ep kp hp he k1 k2 k3 => ?_
  have hl : (ns'.map V.int).length ≤ sizeLine := by
    rw [List.length_map, k2.length_eq, ← List.length_map (f := V.int), rv.length]; exact hz
  exact ⟨.ref p, upd H p (.lst (ns'.map V.int)), I.laid (t' := s.toks) kp hp ⟨hl, out, ep, vals_of_ints k1, he⟩, rfl, q ns' p k2 k3 (I.hok.fresh hp)⟩
theorem cr_srt : CallR X (.builtin "sorted") (bSrt X.K false) := by
  intro pins s σ H vs us Q I r h
  obtain ⟨a, ns, rfl, hs, q⟩ := h
  rw [Vals.ref1 r]
  exact sorted_core (b := false) I hs (fun c => by rw [if_neg Bool.false_ne_true]) (args_sorted1 _) (fun c => args_list_sort c) q
def bSrtR (K : PySem.W.Frag) : List V → List V → Hp → VK → Prop := fun vs zs H Q => zs = [.bl true] ∧ bSrt K true vs H Q
theorem cr_srtR : CallRK X (.builtin "sorted") [Str.ofString "reverse"] (bSrtR X.K) := by
  intro pins s σ H vs zs us ws Q I r rz h
  obtain ⟨rfl, a, ns, rfl, hs, q⟩ := h
  rw [Vals.ref1 r]
  obtain ⟨w1, rfl, e1⟩ := vals1 rz
  obtain rfl : w1 = Value.bool true := e1
  refine sorted_core (b := true) I hs (fun c => ?_) (args_sorted_rev _ _) (fun c => args_list_sort_rev _ _) q
  rw [if_pos rfl]; rfl
end
section
variable {K : PySem.W.Frag} {Γ : Cxt} {ss : List Sl} {C : D → Prop} {CO : List D → Prop} {te ta tb : TE} {ns : List Int}
theorem srt_core {b : Bool} {d : D} (hd : d = .lst (ns.map D.int) ∨ d = .tup (ns.map D.int)) (c : ∀ ns' : List Int, ns'.Perm ns → OrdB b ns' → CO (ns'.map D.int)) : wpBO K (bSrt K b) [d] CO := fun S H vs l r Q q => by
  obtain ⟨v, rfl, r1⟩ := reps1 r
  rcases hd with rfl | rfl
  · obtain ⟨a, ws, rfl, n, t, r⟩ := r1
    rw [Reps.ints.mp r] at t
    exact ⟨a, ns, rfl, .inl (.inl (.inl t)), fun ns' p h1 h2 hp => q p _ _ hp (Reps.ints.mpr rfl) (c ns' h1 h2)⟩
  · obtain ⟨a, ws, rfl, t, r⟩ := r1
    rw [Reps.ints.mp r] at t
    exact ⟨a, ns, rfl, .inr t, fun ns' p h1 h2 hp => q p _ _ hp (Reps.ints.mpr rfl) (c ns' h1 h2)⟩
theorem wpBO_srtL (c : ∀ ns' : List Int, ns'.Perm ns → ns'.Pairwise (· ≤ ·) → CO (ns'.map D.int)) : wpBO K (bSrt K false) [.lst (ns.map D.int)] CO := srt_core (.inl rfl) fun ns' h1 h2 => c ns' h1 (by simpa [OrdB] using h2)
theorem wpBO_srtT (c : ∀ ns' : List Int, ns'.Perm ns → ns'.Pairwise (· ≤ ·) → CO (ns'.map D.int)) : wpBO K (bSrt K false) [.tup (ns.map D.int)] CO := srt_core (.inr rfl) fun ns' h1 h2 => c ns' h1 (by simpa [OrdB] using h2)
/-- a call with one keyword -/
theorem wpO_srtR {ta : TA} (h : wpA K Γ ta ss fun ds => ∃ ns : List Int, (ds = [.lst (ns.map D.int)] ∨ ds = [.tup (ns.map D.int)]) ∧ ∀ ns' : List Int, ns'.Perm ns → ns'.Pairwise (· ≥ ·) → CO (ns'.map D.int)) :
    wpO K Γ (tCKw (bSrtR K) ta (tCons (tC (.bl true)) tNil)) ss CO := fun H0 σ H τ hl I Q q =>
  h H0 σ H τ hl I _ fun vs ds H1 hd J ⟨ns, hx, c⟩ => by
    have key : ∀ d, ds = [d] → (d = .lst (ns.map D.int) ∨ d = .tup (ns.map D.int)) → bSrt K true vs H1 Q := fun d e hd' => by
      subst e
      exact srt_core (K := K) (b := true) (CO := CO) hd' (fun ns' h1 h2 => c ns' h1 (by simpa [OrdB] using h2)) (Out Γ (ss.zip σ ++ τ)) H1 vs (J.dropL).live (J.piled hd) Q fun p xs ws hp r c => q p xs _ (J.dropL.pushO hp r) c
    refine ⟨rfl, ?_⟩
    rcases hx with hx | hx
    · exact key _ hx (.inl rfl)
    · exact key _ hx (.inr rfl)
end
end SQ
namespace SQ
open PySem PySem.Spec PyProof.Rows L2 RZ
/-! ### try with clauses that name the exception, or don't -/
/-- a clause: the class it names, the slot of its name (if it has one), its suite's reading -/
structure Cls3 where
  c : Value
  i : Option Nat
  ts : Addr → Value → Option Addr → TS
/-- what follows a suite whose clause has a name: the name is unbound -/
def unb (i : Nat) (D : Ends) : Ends := { nx := fun σ' H' => D.nx (σ'.set i none) H', rt := D.rt, bk := fun σ' H' => D.bk (σ'.set i none) H', ct := fun σ' H' => D.ct (σ'.set i none) H' }
def suiteW (q : Cls3) (D : Ends) (cls : Value) (d : Option Addr) (σ : L2.St) (H : Hp) : Prop := ∀ a, H a = none → match q.i with
  | none => q.ts a cls d D σ H
  | some i => q.ts a cls d (unb i D) (σ.set i (some (.ref a))) H
def wMix (K : PySem.W.Frag) (Wo : WX) (D : Ends) : List Cls3 → WX
  | [] => Wo
  | q :: r => fun cls d σ H => ∃ b, PySem.W.exmOne K cls q.c = some b ∧ (b = true → suiteW q D cls d σ H) ∧ (b = false → wMix K Wo D r cls d σ H)
abbrev SuiteOk (X : Cx) (sts : List Stmt) (ts : Addr → Value → Option Addr → TS) : Prop := ∀ (a : Addr) (oe : Obj) (cls : Value) (d : Option Addr) (pn : List (Addr × Obj)), Zc cls d oe → (∃ vs, oe.data = .fields vs) → PSs (X.suite a ((a, oe) :: pn)) sts (ts a cls d)
inductive Clauses (X : Cx) : List ExceptHandler → List Cls3 → Prop
  | nil : Clauses X [] []
  | bare {x : Str} {c : Value} {ts : Addr → Value → Option Addr → TS} {s0 : Stmt} {sts : List Stmt} {p1 p2 : Pos} {hs : List ExceptHandler} {l : List Cls3} (hc : Names X x c) (k : SuiteOk X (s0 :: sts) ts) (r : Clauses X hs l) :
      Clauses X (.ExceptHandler (some (.Name x p1)) none (s0 :: sts) p2 :: hs) (⟨c, none, ts⟩ :: l)
  | named {x n : Str} {i : Nat} {c : Value} {ts : Addr → Value → Option Addr → TS} {s0 : Stmt} {sts : List Stmt} {p1 p2 : Pos} {hs : List ExceptHandler} {l : List Cls3} (hc : Names X x c) (hi : X.N[i]? = some n) (hl : X.env.kindOf n = some .local) (k : SuiteOk X (s0 :: sts) ts) (r : Clauses X hs l) :
      Clauses X (.ExceptHandler (some (.Name x p1)) (some n) (s0 :: sts) p2 :: hs) (⟨c, some i, ts⟩ :: l)
section
variable {X : Cx} {pins pinsI : List (Addr × Obj)} {D : Ends} {Wo : WX} {a : Addr} {B : Heap} {sI s' : Shared} {σ : L2.St} {H : Hp} {cls : Value} {d : Option Addr} {h3 : Heap}
/-- an exception that has landed in its frame -/
structure Landed (X : Cx) (pins : List (Addr × Obj)) (a : Addr) (B : Heap) (sI s' : Shared) (σ : L2.St) (H : Hp) (cls : Value) (d : Option Addr) (h3 : Heap) : Prop where
  ok : X.Ok
  frame : X.env.frame = some X.env.locals
  stack : X.stack = X.env :: X.outer
  I : Inv X pins σ H sI
  nb : ∀ b o, sI.heap.get? b = some o → b ∉ frs X.stack → B.get? b = some o
  up : sI.heap.UpToSlots h3
  fl : HandSPX.FlyingZ B (X.env :: X.outer) a (Zc cls d) h3
  na : H a = none
  os : s'.os = sI.os
  ag : AllBare s'.gens
theorem Landed.inv (L : Landed X pins a B sI s' σ H cls d h3) : Inv X pins σ H { s' with heap := h3 } := L.I.landed L.nb L.fl.1 L.up L.os L.ag
theorem Landed.apart (L : Landed X pins a B sI s' σ H cls d h3) : a ≠ X.env.locals ∧ a ∉ X.fs := by
  obtain ⟨oe, vs, he, hz, hd⟩ := L.fl.there
  have nf : a ∉ frs (X.env :: X.outer) := fun hm => by
    obtain ⟨_, o', e', hnf⟩ := L.fl.2.2.1.mem hm
    rw [he] at e'
    cases e'
    exact hnf _ hd
  refine ⟨fun z => nf (List.mem_filterMap.mpr ⟨X.env, List.mem_cons_self, by rw [L.frame, z]⟩), fun hm => ?_⟩
  obtain ⟨e, he', q⟩ := List.mem_filterMap.mp hm
  exact nf (List.mem_filterMap.mpr ⟨e, List.mem_cons_of_mem _ he', q⟩)
theorem Landed.again {h4 : Heap} (L : Landed X pins a B sI s' σ H cls d h3) (f : HandSPX.FlyingZ B (X.env :: X.outer) a (Zc cls d) h4) (u : h3.UpToSlots h4) : Landed X pins a B sI s' σ H cls d h4 :=
  { L with up := L.up.trans u, fl := f }
/-- the clauses, one after the other -/
theorem clauses_run (hN : X.N.Nodup) (tk : Takes X Wo) : ∀ {hs : List ExceptHandler} {l : List Cls3}, Clauses X hs l → Landed X pins a B sI s' σ H cls d h3 → wMix X.K Wo D l cls d σ H →
    wpAny (model X.prog X.w) X.A (handleBy (.ref a) X.env hs) (SP X pins D) X.xe { s' with heap := h3 } := by
  intro hs l k
  -- a clause's test
  have test : ∀ {x : Str} {c : Value} {b : Bool} {p1 : Pos} {Q : Flow → Shared → Prop} {fb : Sem Bool → Sem Flow} (_ : Names X x c) (_ : Landed X pins a B sI s' σ H cls d h3) {R F : Value → Shared → Prop},
      R c { s' with heap := h3 } → wpAny (model X.prog X.w) (X.A.mark (some (.ref a))) (eval (.Name x p1) X.env) R F { s' with heap := h3 } := by
    intro x c b p1 Q fb hc L R F q
    obtain ⟨oe, vs, he, hz, hd⟩ := L.fl.there
    have S := L.inv.suite he hd L.na L.apart.1 L.apart.2
    obtain ⟨hg, hdb, hm | ⟨hm, hv, hnn⟩⟩ := hc
    · exact ld_glob (X := X.suite a ((a, oe) :: (X.pn ++ pins))) S hg hm q hdb
    · exact ld_blt (X := X.suite a ((a, oe) :: (X.pn ++ pins))) S hg hm hv q hnn hdb
  have looks : ∀ {c : Value} {b : Bool}, Landed X pins a B sI s' σ H cls d h3 → PySem.W.exmOne X.K cls c = some b → PySem.W.Looks (model X.prog X.w) h3 (excMatches (.ref a) c) b := fun {c b} L hb =>
    PySem.W.exm_one (L.inv.kIn) (fun A Q E s k q => by
      obtain ⟨oe, vs, he, hz, hd⟩ := L.fl.there
      exact wpAny_typeOf_ref (k _ _ he) (by rw [hz.1]; exact q)) hb
  induction k with
  | nil =>
    intro L w
    refine wpAny_handleBy_nil ?_
    have fl := L.fl
    obtain ⟨k1, k2, k3, oe, vs, T, oT, ts', he, hz, hd, h1, hr⟩ := fl
    have go : wpAny (model X.prog X.w) X.A (setFlight (.ref a) X.env.frame) (fun _ s4 => wpAny (model X.prog X.w) X.A (throw (.ref a) : Sem Flow) (SP X pins D) X.xe s4) X.xe { s' with heap := h3 } := by
      rw [L.frame]
      refine HandSPX.setFlight_upZ L.fl fun h4 hh4 up4 => wpAny_throw (tk _ _ ?_)
      exact ⟨a, B, sI, pins, σ, H, cls, d, rfl, L.I, L.nb, L.up.trans up4, .inr (.inr (by rw [L.stack]; exact hh4)), L.na, L.os, L.ag, w⟩
    unfold PySem.passOn
    refine wpAny_bind (wpAny_field he hd h1 ?_)
    rw [if_neg (by simp : ¬ ((Value.ref T == Value.none) = true))]
    first
      | exact wpAny_bind (wpAny_pure (wpAny_bind go))
      | exact wpAny_bind go
  | @bare x c ts s0 sts p1 p2 hs l hc k r ih =>
    intro L w
    obtain ⟨b, hb, hy, hn⟩ := w
    refine wpAny_handleBy_cons (codeAny_handlers_test ?_) (by intro q; cases q)
    refine test (b := b) (Q := SP X pins D) (fb := fun _ => pure .next) hc L ((looks L hb).here ?_)
    cases b with
    | false => exact ih L (hn rfl)
    | true =>
      refine codeAny_handlers_suite ?_
      refine HandSPX.lands_againZ L.fl fun h4 fl4 up4 => ?_
      have L4 := L.again fl4 up4
      obtain ⟨oe, vs, he, hz, hd⟩ := L4.fl.there
      have S4 := L4.inv.suite he hd L4.na L4.apart.1 L4.apart.2
      refine wpAny_mono ((k a oe cls d (X.pn ++ pins) hz ⟨_, hd⟩).run [] _ _ H D S4 (hy rfl a L.na)) (fun f s6 q6 => ?_) (fun _ _ z => z.elim)
      cases f with
      | ret u =>
        obtain ⟨v6, σ6, H6, S6, r6, q⟩ := q6
        exact ⟨v6, σ6, H6, S6.unsuite L.ok, r6, q⟩
      | next =>
        obtain ⟨σ6, H6, S6, q⟩ := q6
        exact ⟨σ6, H6, S6.unsuite L.ok, q⟩
      | brk =>
        obtain ⟨σ6, H6, S6, q⟩ := q6
        exact ⟨σ6, H6, S6.unsuite L.ok, q⟩
      | cont =>
        obtain ⟨σ6, H6, S6, q⟩ := q6
        exact ⟨σ6, H6, S6.unsuite L.ok, q⟩
  | @named x n i c ts s0 sts p1 p2 hs l hc hi hl k r ih =>
    intro L w
    obtain ⟨b, hb, hy, hn⟩ := w
    refine wpAny_handleBy_cons (codeAny_handlers_test ?_) (by intro q; cases q)
    refine test (b := b) (Q := SP X pins D) (fb := fun _ => pure .next) hc L ((looks L hb).here ?_)
    cases b with
    | false => exact ih L (hn rfl)
    | true =>
      refine codeAny_handlers_suite_as ?_
      refine HandSPX.lands_againZ L.fl fun h4 fl4 up4 => ?_
      have L4 := L.again fl4 up4
      obtain ⟨oe, vs, he, hz, hd⟩ := L4.fl.there
      have S4 := L4.inv.suite he hd L4.na L4.apart.1 L4.apart.2
      refine store_ok (X := X.suite a ((a, oe) :: (X.pn ++ pins))) (v := .ref a) S4 hN hi (.inl hl) rfl (fun s5 S5 => ?_) (.inr hl)
      refine wpAny_mono ((k a oe cls d (X.pn ++ pins) hz ⟨_, hd⟩).run [] s5 _ H (unb i D) S5 (hy rfl a L.na)) (fun f s6 q6 => ?_) (fun _ _ z => z.elim)
      have fin : ∀ {σ6 : L2.St} {H6 : Hp} {Q : Shared → Prop}, Inv (X.suite a ((a, oe) :: (X.pn ++ pins))) [] σ6 H6 s6 → (∀ s7, Inv X pins (σ6.set i none) H6 s7 → Q s7) →
          wpAny (model X.prog X.w) X.A (do bindName X.env n .none; unbindBehindTheSuite X.env n p2) (fun _ s7 => Q s7) X.xe s6 := fun S6 hq => gone_ok (S6.unsuite L.ok) hN hi hl hq
      cases f with
      | ret u =>
        obtain ⟨v6, σ6, H6, S6, r6, q⟩ := q6
        exact fin S6 fun s7 J7 => ⟨_, _, _, J7, r6, q⟩
      | next =>
        obtain ⟨σ6, H6, S6, q⟩ := q6
        exact fin S6 fun s7 J7 => ⟨_, _, J7, q⟩
      | brk =>
        obtain ⟨σ6, H6, S6, q⟩ := q6
        exact fin S6 fun s7 J7 => ⟨_, _, J7, q⟩
      | cont =>
        obtain ⟨σ6, H6, S6, q⟩ := q6
        exact fin S6 fun s7 J7 => ⟨_, _, J7, q⟩
theorem ps_try_mix {body : List Stmt} {h0 : ExceptHandler} {hs : List ExceptHandler} {l : List Cls3} {pos : Pos} {tb : WX → TS} (hst : X.stack = X.env :: X.outer) (hf : X.env.frame = some X.env.locals) (hN : X.N.Nodup) (tk : Takes X Wo)
    (hb : ∀ (W : WX) (pn : List (Addr × Obj)) (xe : Value → Shared → Prop), Takes (X.tr pn xe) W → PassesOwn (model X.prog X.w) X.A X.env xe → PSs (X.tr pn xe) body (tb W))
    (hh : Clauses X (h0 :: hs) l) : PS X (.Try body (h0 :: hs) [] [] pos) (fun D σ H => tb (wMix X.K Wo D l) D σ H) := by
  refine ⟨fun pins s σ H D I h => ?_⟩
  have ok := I.ok
  have hfr : X.A.frames = some (X.env :: X.outer) := by rw [ok.frames, hst]
  apply wpAny_Try_except
  have run := (hb (wMix X.K Wo D l) (X.pn ++ pins) (fun e s₁ => wpAny (model X.prog X.w) X.A (noteFrame e X.env) (fun _ s₂ => wpAny (model X.prog X.w) X.A (setFlight e none) (fun _ s₃ =>
    wpAny (model X.prog X.w) X.A (handleBy e X.env (h0 :: hs)) (SP X pins D) X.xe s₃) X.xe s₂) X.xe s₁) (fun u s' xx => by
      obtain ⟨a, B, sI, pins', σ', H', cls, d, rfl, J', nb, up, sky, na, os, ag, w⟩ := xx
      have sky' : Sky B (X.env :: X.outer) a (Zc cls d) X.env.locals s'.heap := by rw [← hst]; exact sky
      show wpAny (model X.prog X.w) X.A (noteFrame (.ref a) X.env) _ _ _
      exact Sky.land Zc.steady hfr hf sky' fun h3 fl3 up3 => clauses_run hN tk hh ⟨ok, hf, hst, J'.ofTry ok, nb, up.trans up3, fl3, na, os, ag⟩ w) PassesOwn.looking).run [] s σ H D (I.toTry _) h
  refine wpAny_mono run (fun f s1 q => ?_) fun e s1 he => he
  cases f with
  | ret u =>
    obtain ⟨v, σ', H', J', r, q⟩ := q
    exact ⟨v, σ', H', J'.ofTry ok, r, q⟩
  | next =>
    obtain ⟨σ', H', J', q⟩ := q
    exact wpAny_execs_nil ⟨σ', H', J'.ofTry ok, q⟩
  | brk =>
    obtain ⟨σ', H', J', q⟩ := q
    exact ⟨σ', H', J'.ofTry ok, q⟩
  | cont =>
    obtain ⟨σ', H', J', q⟩ := q
    exact ⟨σ', H', J'.ofTry ok, q⟩
end
end SQ
/-! an own error whose __init__ keeps one value, over any base -/
namespace SQ
namespace Ow
open PySem PySem.W PySem.Calls PyProof.Rows PySem.HandSPX Builtin Builtin.ObjectAttr
def iA (fl : Str) (p1 p2 : Pos) : Arguments := { posonlyargs := [], args := [{ arg := "self", annotation := none, pos := p1 }, { arg := fl, annotation := none, pos := p2 }], vararg := none, kwonlyargs := [], kw_defaults := [], kwarg := none, defaults := [] }
def iB (fl : Str) (q1 q2 q3 q4 : Pos) : List Stmt := [.Assign [.Attribute (.Name "self" q1) fl q2] (.Name fl q3) q4]
def iS (fl : Str) : Scope := { kind := .function, names := [(PySem.Str.ofString "self", .local), (fl, .local)], isGenerator := false, isCoroutine := false, more := [] }
structure Txt1 (K : Frag) (mg : Str → Option Value) (x fl : Str) (C fI : Addr) (newId : String) (tl : List Value) : Prop where
  gC : mg x = some (.ref C)
  ini : excInitIn K C tl newId = true
  ovr : excOver K C tl = true
  tak : takerIn K C fl = some none
  sa : findIn K (.ref C) "__setattr__" = some (some (.builtin "object.__setattr__"))
  ga : findIn K (.ref C) "__getattribute__" = some (some (.builtin "BaseException.__getattribute__"))
  gg : findIn K (.ref C) "__getattr__" = some none
  noN : findIn K (.ref C) fl = some none
  iC : findIn K (.ref C) "__init__" = some (some (.ref fI))
  tC : typeIn K (.ref fI) = some (.type "function")
  kC : keepIn K (.ref C) = true
  exC : subIn K (.ref C) (.type "BaseException") = some true
  tyC : typeIn K (.ref C) = some (.type "type")
  hdC : hasDictIn K C = true
  fn : ∃ (oc : Value) (od : Option Addr) (doc pm : Value) (an : Option Addr) (cdv ct : Value) (osl : Array (Option Value)) (qn : Str) (p1 p2 q1 q2 q3 q4 : Pos),
    K.lookup fI = some ⟨oc, od, .func (fnOf "__init__" qn (iA fl p1 p2) (iB fl q1 q2 q3 q4) (iS fl) .none .none doc pm an cdv ct), osl⟩ ∧ codeIn K cdv qn = true
/-- what is read off a field's name -/
structure Nm (fl : Str) : Prop where
  bd : ∀ (qn : Str) (p1 p2 q1 q2 q3 q4 : Pos) (doc pm : Value) (an : Option Addr) (cdv ct a v : Value), bindArgs (fnOf "__init__" qn (iA fl p1 p2) (iB fl q1 q2 q3 q4) (iS fl) .none .none doc pm an cdv ct) ⟨[a, v], []⟩ = pure [(("self" : Str), a), ((fl : Str), v)]
  al : ∀ a v : Value, ([(("self" : Str), a), (fl, v)].all fun y => List.lookup y.fst (iS fl).names == some NameKind.local || List.lookup y.fst (iS fl).names == some NameKind.cell) = true
  k1 : ∀ (qn : Str) (L a : Addr) (cd : Value), (envOfC qn (iS fl) L a cd).kindOf "self" = some .local
  k2 : ∀ (qn : Str) (L a : Addr) (cd : Value), (envOfC qn (iS fl) L a cd).kindOf fl = some .local
  l1 : ∀ (qn : Str) (L f : Addr) (cd a v : Value), bindL (envOfC qn (iS fl) L f cd).kindOf [(("self" : Str), a), (fl, v)] (fun _ => none) "self" = some a
  l2 : ∀ (qn : Str) (L f : Addr) (cd a v : Value), bindL (envOfC qn (iS fl) L f cd).kindOf [(("self" : Str), a), (fl, v)] (fun _ => none) fl = some v
  db : (fl == ("__debug__" : Str)) = false
theorem nm_value : Nm "value" := ⟨fun _ _ _ _ _ _ _ _ _ _ _ _ _ _ => rfl, fun _ _ => rfl, fun _ _ _ _ => rfl, fun _ _ _ _ => rfl, fun _ _ _ _ _ _ => by first | rfl | with_unfolding_all rfl | kernel_rfl, fun _ _ _ _ _ _ => by first | rfl | with_unfolding_all rfl | kernel_rfl, rfl⟩
theorem nm_limit : Nm "limit" := ⟨fun _ _ _ _ _ _ _ _ _ _ _ _ _ _ => rfl, fun _ _ => rfl, fun _ _ _ _ => rfl, fun _ _ _ _ => rfl, fun _ _ _ _ _ _ => by first | rfl | with_unfolding_all rfl | kernel_rfl, fun _ _ _ _ _ _ => by first | rfl | with_unfolding_all rfl | kernel_rfl, rfl⟩
theorem nm_line : Nm "line" := ⟨fun _ _ _ _ _ _ _ _ _ _ _ _ _ _ => rfl, fun _ _ => rfl, fun _ _ _ _ => rfl, fun _ _ _ _ => rfl, fun _ _ _ _ _ _ => by first | rfl | with_unfolding_all rfl | kernel_rfl, fun _ _ _ _ _ _ => by first | rfl | with_unfolding_all rfl | kernel_rfl, rfl⟩
theorem nm_name : Nm "name" := ⟨fun _ _ _ _ _ _ _ _ _ _ _ _ _ _ => rfl, fun _ _ => rfl, fun _ _ _ _ => rfl, fun _ _ _ _ => rfl, fun _ _ _ _ _ _ => by first | rfl | with_unfolding_all rfl | kernel_rfl, fun _ _ _ _ _ _ => by first | rfl | with_unfolding_all rfl | kernel_rfl, rfl⟩
theorem nm_many : Nm "many" := ⟨fun _ _ _ _ _ _ _ _ _ _ _ _ _ _ => rfl, fun _ _ => rfl, fun _ _ _ _ => rfl, fun _ _ _ _ => rfl, fun _ _ _ _ _ _ => by first | rfl | with_unfolding_all rfl | kernel_rfl, fun _ _ _ _ _ _ => by first | rfl | with_unfolding_all rfl | kernel_rfl, rfl⟩
theorem one_size (v : Value) : [v].length ≤ sizeLine := by rw [sizeLine_eq]; exact (by decide : 1 ≤ 16777216)
theorem ldC {M : Model} {s : Shared} {name : Str} {scope : Scope} {L a : Addr} {cd : Value} {m : Str → Option Value} {x : Str} {pos : Pos} {v : Value} {Q : Value → Shared → Prop} {A : Around} {E : Value → Shared → Prop} (hn : s.heap.Ns L m) (hv : m x = some v) (h : Q v s)
    (hl : (envOfC name scope L a cd).kindOf x = some .local) (hd : (x == ("__debug__" : Str)) = false) (hk : scope.kind = .function := by rfl) :
    wpAny M A (eval (.Name x pos) (envOfC name scope L a cd)) Q E s := wpAny_Name (wpAny_loadName_local hk hl hn hv h) hd
structure InitEnd (h h' : Heap) (fl : Str) (x C dx t1 : Addr) (v : Value) : Prop where
  keep : ∀ b o, b ≠ x → h.get? b = some o → h'.get? b = some o
  obj : h'.get? x = some { cls := .ref C, dict := some dx, data := .fields #[.ref t1, .none, .none, .none, .bool false, .none] }
  dbig : h.objs.size ≤ dx
  dne : dx ≠ x
  ns : h'.Ns1 dx (fun y => if y = fl then some v else none)
structure Made (h h' : Heap) (fl : Str) (e C d : Addr) (v : Value) : Prop where
  keep : ∀ b o, h.get? b = some o → h'.get? b = some o
  new : h.objs.size ≤ e
  obj : ∃ oe vs, h'.get? e = some oe ∧ oe.cls = .ref C ∧ oe.dict = some d ∧ oe.data = .fields vs ∧ vs[1]? = some .none
  dbig : h.objs.size ≤ d
  dne : d ≠ e
  ns : h'.Ns1 d (fun y => if y = fl then some v else none)
section
variable {prog : Program} {w : World} {A : Around} {E : Value → Shared → Prop} {R : Result → Shared → Prop} {s : Shared} {K : Frag} {mg : Str → Option Value} {C fI : Addr} {x fl : Str} {B newId initId : String} {tl : List Value}
theorem store1 {xa t0 : Addr} {tk : Tok} {v : Value} {hp : Heap} {g : Array GenState} {d : Drawn} {t : Nat} {os : OsState} (T : Txt1 K mg x fl C fI newId tl) (SF : StoreFacts B tl "object.__setattr__" "object") (X : K.In hp) (hx : hp.get? xa = some (excO C t0))
    (hq : ∀ h' tk' dx, (∀ b o, b ≠ xa → hp.get? b = some o → h'.get? b = some o) → hp.objs.size ≤ dx → dx ≠ xa → h'.get? xa = some { cls := .ref C, dict := some dx, data := .fields #[.ref t0, .none, .none, .none, .bool false, .none] } →
      h'.Ns1 dx (fun y => if y = fl then some v else none) → R (.ok (.ret .none)) ⟨h', g, d, tk', os⟩) :
    codeAny (model prog w) A (.call (.builtin "object.__setattr__") ⟨[.ref xa, .str fl tk, v], []⟩) R ⟨hp, g, d, t, os⟩ := by
  have hxs : xa ≠ hp.objs.size := Nat.ne_of_lt (Heap.lt_size hx)
  refine osa_openX (s := ⟨hp, g, d, t, os⟩) (od := none) SF X ⟨hx, rfl, rfl, trivial⟩ T.ovr T.tak fun b => ?_
  obtain ⟨cd, hc, hd'⟩ := any_some T.hdC
  refine wpAny_bind (wpAny_pure (wpAny_bind (instanceDict_exc hx (looks_clsIn X hc) hd' ?_)))
  show wpAny _ _ (storeInDict hp.objs.size (.str fl tk) fl v) _ _ _
  refine store_in_new ?_ ?_
  · exact ⟨_, #[], _, (Heap.get?_update_ne _ _ _ _ hxs.symm).trans (Heap.get?_push_at rfl rfl), rfl, fun e he => absurd he (by simp), fun _ => rfl⟩
  · intro h' tk' hn' hs
    have hx₁ : (hp.push { cls := .type "dict", data := .dict #[] }).get? xa = some (excO C t0) := Heap.get?_push_of_some _ hx
    refine hq h' tk' hp.objs.size (fun b o hb ho => ?_) (Nat.le_refl _) hxs.symm ?_ hn'
    · exact (hs.2 b (Nat.ne_of_lt (Heap.lt_size ho))).trans ((Heap.get?_update_ne _ _ _ _ hb).trans (Heap.get?_push_of_some _ ho))
    · exact (hs.2 xa hxs).trans (Heap.get?_update_self _ hx₁ rfl)

theorem init1 (T : Txt1 K mg x fl C fI newId tl) (nm : Nm fl) (SF : StoreFacts B tl "object.__setattr__" "object") {xa t0 : Addr} {v : Value} (X : K.In s.heap) (hlim : s.heap.NoLimit) (hx : s.heap.get? xa = some (excO C t0)) (hroom : A.depth < recursionLimit)
    (hq : ∀ h' tk dx, InitEnd s.heap h' fl xa C dx t0 v → R (.ok (.ret .none)) { s with heap := h', toks := tk }) :
    codeAny (model prog w) A (.call (.ref fI) ⟨[.ref xa, v], []⟩) R s := by
  obtain ⟨oc, od, doc, pm, an, cdv, ct, osl, qn, p1, p2, q1, q2, q3, q4, ho, hcd⟩ := T.fn
  refine Att.call_fn (binds := [("self", .ref xa), (fl, v)]) X hlim ho hcd hroom (BindsTo.of_eq (nm.bd _ _ _ _ _ _ _ _ _ _ _ _ _ _)) (nm.al _ _) (fun s₁ IC => ?_) rfl rfl rfl
  obtain ⟨h₁, tk₁, rfl⟩ := IC.toInCall.same
  have k : ∀ b o, s.heap.get? b = some o → h₁.get? b = some o := IC.toInCall.keep
  have hn := IC.toInCall.ns
  have X₁ : K.In h₁ := X.keeps k
  have hx₁ := k _ _ hx
  show wpAny _ _ (execs _ _) _ _ _
  refine wpAny_execs_cons (plainObj_wpAny_Assign_Attribute ?_)
  refine ldC (v := v) hn (nm.l2 _ _ _ _ _ _) (ldC (v := .ref xa) hn (nm.l1 _ _ _ _ _ _) ?_ (nm.k1 _ _ _ _) (by decide)) (nm.k2 _ _ _ _) nm.db
  · refine set_plain X₁ (ox := excO C t0) (od := none) ⟨hx₁, rfl, rfl, trivial⟩ T.sa ?_
    refine store1 T SF X₁ hx₁ (fun h₃ tk₃ dx k₃ dn dne hx₃ hn₃ => ?_)
    show wpAny _ _ (execs _ _) _ _ _
    have z : s.heap.objs.size < h₁.objs.size := hn.lt
    exact wpAny_execs_nil (hq h₃ tk₃ dx ⟨fun b o hb e => k₃ b o hb (k b o e), hx₃, Nat.le_of_lt (Nat.lt_of_lt_of_le z dn), dne, hn₃⟩)

theorem made1 (T : Txt1 K mg x fl C fI newId tl) (nm : Nm fl) (F : ExcBaseFacts B newId initId tl) (SF : StoreFacts B tl "object.__setattr__" "object") {v : Value} (X : K.In s.heap) (hlim : s.heap.NoLimit) (hroom : A.depth + 1 < recursionLimit)
    (hq : ∀ h' tk e d, Made s.heap h' fl e C d v → R (.ok (.ret (.ref e))) { s with heap := h', toks := tk }) :
    codeAny (model prog w) A (.call (.ref C) ⟨[v], []⟩) R s := by
  obtain ⟨nm', N, qn, bs, bm, hdct, sn, sub, ab, col, dd, k0, k1, k2, k3, k5, hC, hbm⟩ := excInit_of X T.ini
  obtain ⟨hp, g, dr, tk, os⟩ := s
  have k : ∀ b o, hp.get? b = some o → ((hp.push (kdv_tup [v])).push (excO C hp.objs.size)).get? b = some o := fun b o e => Heap.get?_push_of_some _ (Heap.get?_push_of_some _ e)
  have hget : ((hp.push (kdv_tup [v])).push (excO C hp.objs.size)).get? (hp.objs.size + 1) = some (excO C hp.objs.size) := by heap_get
  refine call_own F hbm hC (looks_findIn X T.iC) (fun self => bind_fn X self T.tC) (one_size v) ?_
  refine init1 (s := ⟨(hp.push (kdv_tup [v])).push (excO C hp.objs.size), g, dr, tk, os⟩) T nm SF (X.keeps k) (hlim.keeps k) hget ?_ fun h' tk' dx ⟨k', hx, dn, dne, hns⟩ => ?_
  · show A.depth + 1 < recursionLimit
    exact hroom
  · have old : ∀ b o, hp.get? b = some o → h'.get? b = some o := fun b o e => k' b o (Nat.ne_of_lt (Nat.lt_succ_of_lt (Heap.lt_size e))) (k b o e)
    have z : hp.objs.size + 1 + 1 ≤ dx := by
      first
        | (simpa only [Heap.size_push] using dn)
        | exact dn
        | (have q := dn; rw [Heap.size_push, Heap.size_push] at q; exact q)
    exact ⟨rfl, hq h' tk' (hp.objs.size + 1) dx ⟨old, Nat.le_succ _, ⟨_, _, hx, rfl, rfl, rfl, rfl⟩, Nat.le_trans (Nat.le_trans (Nat.le_succ _) (Nat.le_succ _)) z, dne, hns⟩⟩
end
end Ow
open PySem PySem.Spec PyProof.Rows L2
/-- all of a class of one's own with one kept value -/
structure OwnX (K : PySem.W.Frag) (mg : Str → Option Value) (x fl : Str) (C : Addr) : Prop where
  ex : ∃ (fI : Addr) (B newId initId : String) (tl : List Value), Ow.Txt1 K mg x fl C fI newId tl ∧ ExcBaseFacts B newId initId tl ∧ StoreFacts B tl "object.__setattr__" "object"
  nm : Ow.Nm fl
theorem look1 (fl : Str) (v : V) : List.lookup fl [(fl, v)] = some v := by simp [List.lookup]
theorem relO_one {v : V} {v' : Value} {fl : Str} (r : RelV v v') (f : Str) : RelO (List.lookup f [(fl, v)]) (if f = fl then some v' else none) := by
  by_cases hw : f = fl
  · subst hw
    rw [if_pos rfl, look1]
    exact r
  · rw [if_neg hw]
    have q2 : List.lookup f [(fl, v)] = none := by simp [List.lookup, beq_eq_false_iff_ne.mpr hw]
    rw [q2]
    trivial
section
variable {X : Cx} {C : Addr} {x fl : Str}
/-- x(e) -/
def tMk1 (C : Addr) (fl : Str) (ta : TA) : L2.St → Hp → XK → Prop := fun σ H Q => ta σ H fun vs H1 => ∃ v, vs = [v] ∧ ∀ d, H1 d = none → Q (.ref C) (some d) (upd H1 d (.xd [(fl, v)]))
theorem pmk_1 {a : Expr} {ta : TA} {p pos : Pos} {k : Nat} (T : OwnX X.K X.mg x fl C) (hr : Room k X.A) (ha : PA X [a] ta) (hg : Gl X x) (hdb : (x == ("__debug__" : Str)) = false := by decide)
    (he : starEach (a :: []) X.env = (false, eval a X.env) :: starEach [] X.env := by rfl) (hpl : (backTo pos (starEach [] X.env)).any (·.1) = false := by rfl) :
    PMk X (.Call (.Name x p) [a] [] pos) (tMk1 C fl ta) := by
  obtain ⟨⟨fI, B, newId, initId, tl, T, F, SF⟩, nm⟩ := T
  intro pins s σ H Q I h
  refine wpAny_Call_Name_kw (ld_glob I hg T.gC ?_ hdb)
  refine PySem.W.callWith_K (h₀ := X.base) I.ok.mod.kin T.kC (thn (ha.run pos pins s σ H _ I h) fun us s1 hh => ?_) he hpl
  obtain ⟨vs, H1, I1, r1, v, ev, q1⟩ := hh
  subst ev
  refine ⟨I1.kIn, ?_⟩
  cases r1 with
  | cons rv rn =>
    rename_i v' us'
    cases rn
    show wpAny _ _ (call (.ref C) [v']) _ _ _
    have hlim := I1.nolimit
    obtain ⟨hp, g, dr, tk, os⟩ := s1
    refine wpAny_call (Ow.made1 T nm F SF I1.kIn hlim (by have := hr.dp; omega) fun h' tk' e d M => ?_)
    show MkP X pins σ Q (.ref e) ⟨h', g, dr, tk', os⟩
    obtain ⟨oe, fv, hoe, hc, hd, hdat, h1⟩ := M.obj
    have hns := M.ns
    obtain ⟨G', g1, g2⟩ := restrict h' fun b => decide (b ≠ e)
    have gk : ∀ b, b ≠ e → G'.get? b = h'.get? b := fun b hb => g1 b (decide_eq_true hb)
    have ge : G'.get? e = none := g2 e (by simp)
    have old : ∀ b o, hp.get? b = some o → G'.get? b = some o := fun b o q => (gk b (Nat.ne_of_lt (Nat.lt_of_lt_of_le (Heap.lt_size q) M.new))).trans (M.keep b o q)
    have ob : ObjOk X.prog X.w (upd H1 d (.xd [(fl, v)])) G' d (.xd [(fl, v)]) :=
      ⟨_, hns.at (fun o q => (gk d M.dne).trans q), fun f => relO_one rv f⟩
    have J : Inv X pins σ (upd H1 d (.xd [(fl, v)])) ⟨G', g, dr, tk', os⟩ := I1.laid (t' := tk') old M.dbig ob
    refine ⟨e, oe, fv, ⟨G', g, dr, tk', os⟩, _, .ref C, some d, rfl, J, fun b o q => ?_, ge, hoe, ⟨hc, hd⟩, hdat, h1, ?_, rfl, I1.bare, raises_own T.exC T.tyC, q1 d (I1.hok.fresh M.dbig)⟩
    · by_cases hb : b = e
      · have q' : G'.get? b = some o := q
        rw [hb, ge] at q'; cases q'
      · exact (gk b hb).symm.trans q
    · rw [upd_ne (Ne.symm M.dne)]
      exact I1.hok.fresh M.new
/-- the kept value of the exception that the suite holds (at a; its class cls, its dict d) -/
def tBy1 (C : Addr) (fl : Str) (a : Addr) (cls : Value) (d : Option Addr) (te : TE) : TE := fun σ H Q => te σ H fun x H1 => x = .ref a ∧ cls = .ref C ∧ ∃ (dd : Addr) (v : V), d = some dd ∧ H1 dd = some (.xd [(fl, v)]) ∧ Q v H1
theorem pe_by1 {a : Addr} {oe : Obj} {cls : Value} {d : Option Addr} {pn : List (Addr × Obj)} {e : Expr} {te : TE} {pos : Pos} (T : OwnX X.K X.mg x fl C) (hz : Zc cls d oe) (hf : ∃ vs, oe.data = .fields vs) (he : PE (X.suite a ((a, oe) :: pn)) e te)
    (hb : attributeBase e fl X.env (eval e X.env) = eval e X.env := by rfl) :
    PE (X.suite a ((a, oe) :: pn)) (.Attribute e fl pos) (tBy1 C fl a cls d te) := by
  obtain ⟨⟨fI, B, newId, initId, tl, T, F, SF⟩, nm⟩ := T
  refine ⟨fun pins s σ H Q I h => ?_⟩
  refine attr_of hb (thn (he.run pins s σ H _ I h) fun u s1 hh => ?_)
  obtain ⟨x, H1, I1, rx, ex, ec, dd, v, ed, ea, q⟩ := hh
  subst ex
  obtain rfl : u = Value.ref a := rx
  subst ec
  subst ed
  obtain ⟨ha, _⟩ := I1.pin (a, oe) (List.mem_append_left _ List.mem_cons_self)
  obtain ⟨vs, hd⟩ := hf
  have hx : ObjOk X.prog X.w H1 s1.heap dd (.xd [(fl, v)]) := I1.hok dd _ ea
  obtain ⟨mA, hns, hr⟩ := hx
  obtain ⟨od, ho, hl⟩ := lookIn_ns hns
  obtain ⟨u, hu, ru⟩ := RelO.some_of (v := v) (o := mA fl) (by rw [← look1 fl v]; exact hr fl)
  have J : PySem.W.InstAt s1.heap a oe C (some od) := ⟨ha, hz.1, by unfold PySem.W.notCls; rw [hd] <;> rfl, by rw [hz.2]; exact ho⟩
  exact HandSPX.exc_get I1.kIn J T.ga T.gg T.exC (PySem.W.findObj_own T.hdC T.noN rfl (by rw [hl, hu])) (handed_of ru) ⟨v, H1, I1.tok _, ru, q⟩
end
end SQ
/-! defs that raise: their promises, their calls -/
namespace SQ
open PySem PySem.Spec PyProof.Rows L2
/-- a def that may raise, called by its name -/
structure CalX (P : Program) (w : World) (K : PySem.W.Frag) (mg : Str → Option Value) (base : Heap) (k : Nat) (x : Str) (sp : Sp) : Prop where
  ex : ∃ (f : Addr) (fd : FuncData) (ps : List Str), FnOk P w K mg base (L2.CX P w) k f fd ps sp ∧ mg x = some (.ref f) ∧ PySem.W.keepIn K (.ref f) = true ∧ Binds K fd ps []
section
variable {X : Cx} {k j : Nat} {x : Str} {sp : Sp} {p pos : Pos} {e : Expr} {es : List Expr} {t : TA}
/-- nothing is let out -/
theorem pe_c0 (c : CalX X.prog X.w X.K X.mg X.base k x sp) (hr : Room j X.A) (hk : k ≤ j) (hg : Gl X x) (ha : PA X (e :: es) t)
    (hdb : (x == ("__debug__" : Str)) = false := by decide) (he : starEach (e :: es) X.env = (false, eval e X.env) :: starEach es X.env := by rfl) (hpl : (backTo pos (starEach es X.env)).any (·.1) = false := by rfl) :
    PE X (.Call (.Name x p) (e :: es) [] pos) (tCall sp [] E0 t) := by
  obtain ⟨f, fd, ps, F, hm, kp, b⟩ := c.ex
  exact pe_call F (hr.mono hk) hg hm kp b .nil passL ha hdb he hpl
/-- what it raises leaves the def -/
theorem pe_cE {E : XK} {W : WX} (tk : Takes X W) (hW : ∀ cls d σ H, E cls d H → W cls d σ H) (c : CalX X.prog X.w X.K X.mg X.base k x sp) (hr : Room j X.A) (hk : k ≤ j) (hg : Gl X x) (ha : PA X (e :: es) t)
    (hdb : (x == ("__debug__" : Str)) = false := by decide) (he : starEach (e :: es) X.env = (false, eval e X.env) :: starEach es X.env := by rfl) (hpl : (backTo pos (starEach es X.env)).any (·.1) = false := by rfl) :
    PE X (.Call (.Name x p) (e :: es) [] pos) (tCall sp [] E t) := by
  obtain ⟨f, fd, ps, F, hm, kp, b⟩ := c.ex
  exact pe_call F (hr.mono hk) hg hm kp b .nil (passes_call tk hW) ha hdb he hpl
end
section
variable {K : PySem.W.Frag} {Γ : Cxt} {H0 H H' : Hp} {ps qs τ : Ps} {a : Addr} {d : D} {v : V} {xs : List D} {vs : List V} {ss : List Sl} {σ : L2.St} {C C' : D → Prop} {te tb : TE} {ta : TA} {e : En}
/-- nothing is let out: the scene with no errors -/
theorem Env.no (I : Env K Γ H0 H ps) (E : XK) : Env K { Γ with X := fun _ => False, E := E } H0 H ps := ⟨⟨I.ok.al, I.ok.st⟩, I.w, I.rel, I.nd, I.fr, I.sl, fun _ _ _ _ _ _ _ z => z.elim⟩
theorem Env.re {X : Exc → Prop} {E : XK} (I : Env K { Γ with X := X, E := E } H0 H ps) (J : Env K Γ H0 H' qs) : Env K Γ H0 H ps := ⟨⟨I.ok.al, I.ok.st⟩, I.w, I.rel, I.nd, I.fr, I.sl, J.thr⟩
abbrev Cxt.calm (Γ : Cxt) (E : XK) : Cxt := { Γ with X := fun _ => False, E := E }
theorem wpE_calm {E : XK} (h : wpE K (Γ.calm E) te ss C) : wpE K Γ te ss C := fun H0 σ H τ hl I Q q => h H0 σ H τ hl (I.no E) Q fun v d H2 J c => q v d H2 (J.re I) c
theorem wpA_calm' {E : XK} {C : List D → Prop} (h : wpA K Γ ta ss C) : wpA K (Γ.calm E) ta ss C → wpA K Γ ta ss C := fun _ => h
/-- a call that lets nothing out -/
theorem wpE_call0 {F : Fn} (mono : ∀ B B' ds C X, Sc.le B B' → F B ds C X → F B' ds C X)
    (h : wpA K Γ ta ss fun ds => F (sc Γ) ds C fun _ => False) : wpE K Γ (tCall (spF K F) [] E0 ta) ss C := fun H0 σ H τ hl I Q q =>
  h H0 σ H τ hl I _ fun vs ds H1 hd J1 h1 => by
    have J := J1.dropL
    refine ⟨{ Γ.sub (ss.zip σ ++ τ) H1 with X := fun _ => False, E := E0 }, ds, C, ⟨J.subOk.al, J.subOk.st⟩, J.subW, ?_, mono _ _ _ _ _ (Sc.sub J) h1, fun v d H2 r w x c => ?_, fun x cls d H2 r w y z => z.elim⟩
    · rw [List.append_nil]; exact J1.piled hd
    · exact q v d H2 ((J.back r w).push x) c
/-! ### raise -/
def tRaise0 (C : Addr) (E : XK) : TS := fun _ _ H => E (.ref C) none H
theorem wpS_raise0 {C : Addr} (h : Γ.X ⟨C, [], []⟩) : wpS K Γ (tRaise0 C Γ.E) ss e := fun H0 σ H τ D hl I k =>
  show Γ.E (.ref C) none H from I.thr ⟨C, [], []⟩ (.ref C) none H I.rel I.w ⟨rfl, .inl rfl⟩ h
def tRaise1 (C : Addr) (fl : Str) (E : XK) (ta : TA) : TS := fun _ σ H => tMk1 C fl ta σ H fun cls d H' => E cls d H'
theorem wpS_raise1 {C : Addr} {fl : Str} (h : wpA K Γ ta ss fun ds => ∃ d, ds = [d] ∧ Γ.X ⟨C, [fl], [d]⟩) : wpS K Γ (tRaise1 C fl Γ.E ta) ss e := fun H0 σ H τ D hl I k =>
  h H0 σ H τ hl I _ fun vs ds H1 hd J1 ⟨d, e1, hx⟩ => by
    subst e1
    obtain ⟨v, rfl⟩ : ∃ v, vs = [v] := by
      cases vs with
      | nil => cases hd
      | cons v r => cases r with
        | nil => exact ⟨v, rfl⟩
        | cons _ _ => cases hd
    refine ⟨v, rfl, fun p hp => ?_⟩
    have ex : Ext H1 (upd H1 p (.xd [(fl, v)])) := Ext.new hp
    have J2 := J1.ext ex
    have r := J2.val (d := d) (v := v) List.mem_cons_self
    have J3 := J2.dropL.dropL
    exact J3.thr ⟨C, [fl], [d]⟩ (.ref C) (some p) _ J3.rel J3.w ⟨rfl, .inr ⟨p, [(fl, v)], rfl, upd_same, rfl, v, [], rfl, r.less fun a z => .inl z, rfl⟩⟩ hx
end
section
variable {X : Cx} {k : Nat} {C : Addr} {x fl m : Str} {E : XK} {bmB : List Value} {B newId initId : String} {p p2 pos pos2 : Pos} {j : Nat} {a : Expr} {ta : TA}
theorem ps_raise0 (hc : X.calm = true) (tk : Takes X (fun cls d _ H => E cls d H)) (F : ExcBaseFacts B newId initId bmB) (q : PySem.W.excIn X.K C bmB newId = true) (gC : X.mg x = some (.ref C)) (kC : PySem.W.keepIn X.K (.ref C) = true)
    (h1 : PySem.W.subIn X.K (.ref C) (.type "BaseException") = some true) (h2 : PySem.W.typeIn X.K (.ref C) = some (.type "type")) (hg : Gl X x) (hdb : (x == ("__debug__" : Str)) = false := by decide) :
    PS X (.Raise (some (.Call (.Name x p) [.Constant (.str m) j p2] [] pos)) none pos2) (tRaise0 C E) := ps_raise hc tk (pmk_own F q gC kC (raises_own h1 h2) hg hdb)
theorem ps_raise1 (hc : X.calm = true) (tk : Takes X (fun cls d _ H => E cls d H)) (T : OwnX X.K X.mg x fl C) (hr : Room k X.A) (ha : PA X [a] ta) (hg : Gl X x) (hdb : (x == ("__debug__" : Str)) = false := by decide)
    (he : starEach (a :: []) X.env = (false, eval a X.env) :: starEach [] X.env := by rfl) (hpl : (backTo pos (starEach [] X.env)).any (·.1) = false := by rfl) :
    PS X (.Raise (some (.Call (.Name x p) [a] [] pos)) none pos2) (tRaise1 C fl E ta) := ps_raise hc tk (pmk_1 T hr ha hg hdb he hpl)
end
/-! ### a def's promise, from its body over trees -/
structure CalN (P : Program) (w : World) (K : PySem.W.Frag) (mg : Str → Option Value) (base : Heap) (k : Nat) (x : Str) (sp : Sp) : Prop where
  ex : ∃ (f : Addr) (fd : FuncData) (ps : List Str), FnOk P w K mg base CX0 k f fd ps sp ∧ mg x = some (.ref f) ∧ PySem.W.keepIn K (.ref f) = true ∧ Binds K fd ps []
abbrev CF (P : Program) (w : World) (K : PySem.W.Frag) (mg : Str → Option Value) (base : Heap) (k : Nat) (x : Str) (F : Fn) : Prop := CalN P w K mg base k x (spF K F)
abbrev CFX (P : Program) (w : World) (K : PySem.W.Frag) (mg : Str → Option Value) (base : Heap) (k : Nat) (x : Str) (F : Fn) : Prop := CalX P w K mg base k x (spF K F)
/-- a body's ends -/
abbrev en0 (C : D → Prop) : En := { nx := fun _ => C .non, rt := rtV C }
abbrev ss0 (ds : List D) (n : Nat) : List Sl := ds.map Sl.val ++ List.replicate (n - ds.length) .un
section
variable {P : Program} {w : World} {K : PySem.W.Frag} {mg : Str → Option Value} {base : Heap} {x : Str} {st : Stmt} {f : Addr} {fd : FuncData} {N ps : List Str} {k : Nat} {F : Fn}
theorem cf_of {st : Stmt} (Df : Fun K x x st f fd) (hm : mg x = some (.ref f)) (hb : Binds K fd ps []) (S : FnScope N ps (defScope st)) (len : ∀ B ds C X, F B ds C X → ds.length = ps.length)
    (body : ∀ (cdv : Value) (A : Around) (outer : List PySem.Env) (s : Shared) (H : Hp) (E : XK), Room k (A.deeper (envOfC x (defScope st) s.heap.objs.size f cdv)) →
      ∃ t, PSs (cxOf CX0 P w K mg base N x (defScope st) f cdv A outer s H E).nox (defBody st) t ∧ ∀ (Γ : Cxt) (ds : List D) (C : D → Prop), F (sc Γ) ds C Γ.X → wpS K Γ t (ss0 ds N.length) (en0 C)) : CF P w K mg base (k + 1) x F :=
  ⟨f, fd, ps, Df.ok S (fun vs H Q E h => by
      obtain ⟨Γ, ds, C, _, _, r, h, _⟩ := h
      rw [← r.length, len _ _ _ _ h]) (fun cdv A outer s H vs Q E hr h => by
      obtain ⟨t, ht, hw⟩ := body cdv A outer s H E hr
      exact ⟨t, ht, run_def h fun Γ ds C _ f => hw Γ ds C f⟩), hm, Df.kp, hb⟩
theorem cfx_of {st : Stmt} (Df : Fun K x x st f fd) (hm : mg x = some (.ref f)) (hb : Binds K fd ps []) (S : FnScope N ps (defScope st)) (len : ∀ B ds C X, F B ds C X → ds.length = ps.length)
    (body : ∀ (cdv : Value) (A : Around) (outer : List PySem.Env) (s : Shared) (H : Hp) (E : XK), Room k (A.deeper (envOfC x (defScope st) s.heap.objs.size f cdv)) →
      ∃ t, PSs (cxOf (L2.CX P w) P w K mg base N x (defScope st) f cdv A outer s H E) (defBody st) t ∧ ∀ (Γ : Cxt) (ds : List D) (C : D → Prop), Γ.E = E → F (sc Γ) ds C Γ.X → wpS K Γ t (ss0 ds N.length) (en0 C)) : CFX P w K mg base (k + 1) x F :=
  ⟨f, fd, ps, Df.okX S (fun vs H Q E h => by
      obtain ⟨Γ, ds, C, _, _, r, h, _⟩ := h
      rw [← r.length, len _ _ _ _ h]) (fun cdv A outer s H vs Q E hr h => by
      obtain ⟨t, ht, hw⟩ := body cdv A outer s H E hr
      exact ⟨t, ht, run_def h fun Γ ds C e f => hw Γ ds C e f⟩), hm, Df.kp, hb⟩
end
section
variable {X : Cx} {k j : Nat} {x : Str} {sp : Sp} {p pos : Pos} {e : Expr} {es : List Expr} {t : TA}
theorem pe_f (c : CalN X.prog X.w X.K X.mg X.base k x sp) (hr : Room j X.A) (hk : k ≤ j) (hg : Gl X x) (ha : PA X (e :: es) t)
    (hdb : (x == ("__debug__" : Str)) = false := by decide) (he : starEach (e :: es) X.env = (false, eval e X.env) :: starEach es X.env := by rfl) (hpl : (backTo pos (starEach es X.env)).any (·.1) = false := by rfl) :
    PE X (.Call (.Name x p) (e :: es) [] pos) (tCall sp [] E0 t) := by
  obtain ⟨f, fd, ps, F, hm, kp, b⟩ := c.ex
  exact pe_call F (hr.mono hk) hg hm kp b .nil pass0 ha hdb he hpl
end
end SQ
/-! the walk, and what is common to the texts -/
namespace SQ
open PySem PySem.Spec PyProof.Rows L2
section
variable {K : PySem.W.Frag} {C : D → Prop} {i j : Int}
theorem wpR_pow (h : CPowW i j) (c : C (.int (i ^ j.toNat))) : wpR K (rI CPowW fun i j => .int (i ^ j.toNat)) (.int i) (.int j) C := wpR_condI h c
theorem wpR_mod (h : 0 < j) (c : C (.int (i % j))) : wpR K (rI (fun _ j => 0 < j) fun i j => .int (i % j)) (.int i) (.int j) C := wpR_condI h c
theorem wpR_fdiv (h : CDivW i j) (c : C (.int (i / j))) : wpR K (rI CDivW fun i j => .int (i / j)) (.int i) (.int j) C := wpR_condI h c
theorem wpR_mul1 (h : -(2 ^ 64) < i ∧ i < 2 ^ 64) (c : C (.int (i * j))) : wpR K (rMulA K) (.int i) (.int j) C := wpR_mulI (.inl (.inl h)) c
theorem wpR_mul2 (h : -(2 ^ 64) < j ∧ j < 2 ^ 64) (c : C (.int (i * j))) : wpR K (rMulA K) (.int i) (.int j) C := wpR_mulI (.inl (.inr h)) c
end
section
variable {K : PySem.W.Frag} {Γ : Cxt} {ss : List Sl} {e : En} {te : TE} {C : D → Prop} {CO : List D → Prop}
theorem wpS_retV (he : e.rt = rtV C) (h : wpE K Γ te ss C) : wpS K Γ (tRet te) ss e := wpS_ret (h.mono fun d c => by rw [he]; exact c)
theorem wpS_retL (he : e.rt = rtO CO) (h : wpO K Γ te ss CO) : wpS K Γ (tRet te) ss e := wpS_retO fun H0 σ H τ hl I Q q => h H0 σ H τ hl I Q fun a xs H2 J c => q a xs H2 J (by rw [he]; exact c)
end
end SQ
local macro_rules | `(tactic| walk_at "wk1") => `(tactic| first
  | with_reducible refine SQ.wpS_retV rfl ?_
  | with_reducible refine SQ.wpS_retL rfl ?_
  | with_reducible refine SQ.wpO_lst ?_
  | with_reducible refine SQ.wpS_ret ?_
  | with_reducible refine SQ.wpE_var rfl ?_
  | with_reducible refine SQ.wpE_int ?_
  | with_reducible refine SQ.wpE_bl ?_
  | with_reducible refine SQ.wpE_non ?_
  | with_reducible refine SQ.wpE_str ?_
  | with_reducible refine SQ.wpE_ty ?_
  | with_reducible refine SQ.wpA_nil ?_
  | with_reducible refine SQ.wpA_cons ?_
  | with_reducible refine SQ.wpE_cb ?_
  | with_reducible refine SQ.wpE_op ?_
  | with_reducible refine SQ.wpE_un ?_
  | with_reducible refine SQ.wpS_seq ?_
  | with_reducible refine SQ.wpS_if ?_
  | with_reducible refine SQ.wpS_next ?_
  | with_reducible refine SQ.wpT_and ?_
  | with_reducible refine SQ.wpT_or ?_
  | with_reducible refine SQ.wpT_not ?_
  | with_reducible refine SQ.wpE_andV ?_
  | with_reducible refine SQ.wpE_orV ?_
  | with_reducible refine SQ.wpE_notV ?_
  | with_reducible refine SQ.wpE_chain ?_
  | with_reducible refine SQ.wpT_test ?_
  | with_reducible refine SQ.wpT_B ?_
  | with_reducible refine SQ.wpS_set (Nat.le_of_ble_eq_true rfl) ?_
  | with_reducible refine SQ.wpR_subI ?_
  | with_reducible refine SQ.wpR_cmpI ?_
  | with_reducible refine SQ.wpR_addI ?_
  | ((with_reducible refine SQ.wpR_pow ?_ ?_); · exact ⟨by decide, by decide +kernel⟩)
  | ((with_reducible refine SQ.wpR_mod ?_ ?_); · first | assumption | decide +kernel | omega)
  | ((with_reducible refine SQ.wpR_mul1 ?_ ?_); · first | decide +kernel | (constructor <;> omega))
  | ((with_reducible refine SQ.wpR_mul2 ?_ ?_); · first | decide +kernel | (constructor <;> omega))
  | ((with_reducible refine SQ.wpR_fdiv ?_ ?_); · first | exact ⟨by decide +kernel, by decide +kernel⟩ | exact ⟨by assumption, by assumption⟩)
  | with_reducible refine SQ.wpU_int ?_
  | with_reducible refine SQ.wpB_intI ?_
  | with_reducible refine SQ.wpB_intB ?_
  | with_reducible refine SQ.wpB_lenT ?_
  | with_reducible refine SQ.wpB_lenL ?_
  | with_reducible refine SQ.wpB_lenS ?_
  | with_reducible refine SQ.wpB_abs ?_
  | with_reducible refine SQ.wpB_max2 ?_
  | with_reducible refine SQ.wpB_min2 ?_
  | with_reducible refine SQ.wpB_tupL ?_
  | with_reducible refine SQ.wpB_tupT ?_
  | with_reducible refine SQ.wpE_if ?_
  | with_reducible refine ⟨_, rfl, ?_⟩
  | dsimp only)
namespace SQ
open PySem PySem.Spec PyProof.Rows L2
end SQ
local macro_rules | `(tactic| walk_at "wk") => `(tactic| repeat walk_at "wk1")
namespace SQ
open PySem PySem.Spec PyProof.Rows L2
/-- a class of one's own, no field -/
structure Own0 (K : PySem.W.Frag) (mg : Str → Option Value) (x : Str) (C : Addr) : Prop where
  ex : ∃ (B newId initId : String) (bm : List Value), ExcBaseFacts B newId initId bm ∧ PySem.W.excIn K C bm newId = true
  gC : mg x = some (.ref C)
  kC : PySem.W.keepIn K (.ref C) = true
  h1 : PySem.W.subIn K (.ref C) (.type "BaseException") = some true
  h2 : PySem.W.typeIn K (.ref C) = some (.type "type")
theorem ps_raiseO {X : Cx} {x m : Str} {C : Addr} {E : XK} {p p2 pos pos2 : Pos} {j : Nat} (hc : X.calm = true) (tk : Takes X (fun cls d _ H => E cls d H)) (T : Own0 X.K X.mg x C) (hg : Gl X x) (hdb : (x == ("__debug__" : Str)) = false := by decide) :
    PS X (.Raise (some (.Call (.Name x p) [.Constant (.str m) j p2] [] pos)) none pos2) (tRaise0 C E) := by
  obtain ⟨B, n, i, bm, F, q⟩ := T.ex
  exact ps_raise0 hc tk F q T.gC T.kC T.h1 T.h2 hg hdb
/-! ### what isinstance tells -/
def Typed (d : D) : Prop := ∃ n, tyName d = some n
def dInt : D → Bool
  | .int _ => true
  | .bl _ => true
  | _ => false
def dBl : D → Bool
  | .bl _ => true
  | _ => false
def dTup : D → Bool
  | .tup _ => true
  | _ => false
def dLst : D → Bool
  | .lst _ => true
  | _ => false
def dStr : D → Bool
  | .str _ => true
  | _ => false
section
variable {K : PySem.W.Frag} {C : D → Prop} {d : D}
theorem wpB_isInt (h : Typed d) (c : C (.bl (dInt d))) : wpB K (bIsi K) [d, .ty "int"] C := by
  obtain ⟨n, hn⟩ := h
  cases d <;> first | exact wpB_isi (b := true) rfl (by decide +kernel) c | exact wpB_isi (b := false) rfl (by decide +kernel) c | cases hn
theorem wpB_isBl (h : Typed d) (c : C (.bl (dBl d))) : wpB K (bIsi K) [d, .ty "bool"] C := by
  obtain ⟨n, hn⟩ := h
  cases d <;> first | exact wpB_isi (b := true) rfl (by decide +kernel) c | exact wpB_isi (b := false) rfl (by decide +kernel) c | cases hn
theorem wpB_isTup (h : Typed d) (c : C (.bl (dTup d))) : wpB K (bIsi K) [d, .ty "tuple"] C := by
  obtain ⟨n, hn⟩ := h
  cases d <;> first | exact wpB_isi (b := true) rfl (by decide +kernel) c | exact wpB_isi (b := false) rfl (by decide +kernel) c | cases hn
theorem wpB_isLst (h : Typed d) (c : C (.bl (dLst d))) : wpB K (bIsi K) [d, .ty "list"] C := by
  obtain ⟨n, hn⟩ := h
  cases d <;> first | exact wpB_isi (b := true) rfl (by decide +kernel) c | exact wpB_isi (b := false) rfl (by decide +kernel) c | cases hn
theorem wpB_isStr (h : Typed d) (c : C (.bl (dStr d))) : wpB K (bIsi K) [d, .ty "str"] C := by
  obtain ⟨n, hn⟩ := h
  cases d <;> first | exact wpB_isi (b := true) rfl (by decide +kernel) c | exact wpB_isi (b := false) rfl (by decide +kernel) c | cases hn
end
/-! ### a list that is no longer changed -/
section
variable {K : PySem.W.Frag} {Γ : Cxt} {H0 H : Hp} {τ : Ps} {ss : List Sl} {σ : L2.St} {xs : List D} {e : En} {t1 : TS} {te : TE} {C : D → Prop}
theorem Env.freezeAt {i : Nat} (hl : σ.length = ss.length) (h : ss[i]? = some (.own xs)) (I : Env K Γ H0 H (ss.zip σ ++ τ)) : Env K Γ H0 H ((ss.set i (.val (.lst xs))).zip σ ++ τ) := by
  have hi : i < ss.length := (List.getElem?_eq_some_iff.mp h).1
  obtain ⟨o, ho⟩ := get_of_len hl h
  have I1 := I.perm ((zip_out h ho).append_right τ)
  obtain ⟨a, vs, e1, _⟩ := I1.sl _ List.mem_cons_self
  have e1 : o = some (.ref a) := e1
  subst e1
  have I2 : Env K Γ H0 H ((Sl.val (.lst xs), some (.ref a)) :: ((ss.eraseIdx i).zip (σ.eraseIdx i) ++ τ)) := Env.freeze I1
  have p := zip_set (s := .val (.lst xs)) (o := some (V.ref a)) hl hi
  have es : σ.set i (some (V.ref a)) = σ := by
    obtain ⟨hj, hv⟩ := List.getElem?_eq_some_iff.mp ho
    rw [← hv]; exact List.set_getElem_self hj
  rw [es] at p
  exact I2.perm (p.symm.append_right τ)
theorem wpS_freeze {i : Nat} (h : ss[i]? = some (.own xs)) (k : wpS K Γ t1 (ss.set i (.val (.lst xs))) e) : wpS K Γ t1 ss e := fun H0 σ H τ D hl I kk =>
  k H0 σ H τ D (by simp [hl]) (I.freezeAt hl h) kk
end
/-! ### numbers in rows -/
def down (ns : List Int) : List Int := ns.mergeSort fun a b => decide (a ≥ b)
def up (ns : List Int) : List Int := ns.mergeSort fun a b => decide (a ≤ b)
theorem down_perm (ns : List Int) : (down ns).Perm ns := List.mergeSort_perm _ _
theorem up_perm (ns : List Int) : (up ns).Perm ns := List.mergeSort_perm _ _
theorem down_falls (ns : List Int) : (down ns).Pairwise (· ≥ ·) := by
  have h := List.pairwise_mergeSort (le := fun a b : Int => decide (a ≥ b)) (fun a b c h1 h2 => by simp only [decide_eq_true_eq] at *; omega) (fun a b => by simp only [Bool.or_eq_true, decide_eq_true_eq]; omega) ns
  exact h.imp (by simp)
theorem up_rises (ns : List Int) : (up ns).Pairwise (· ≤ ·) := by
  have h := List.pairwise_mergeSort (le := fun a b : Int => decide (a ≤ b)) (fun a b c h1 h2 => by simp only [decide_eq_true_eq] at *; omega) (fun a b => by simp only [Bool.or_eq_true, decide_eq_true_eq]; omega) ns
  exact h.imp (by simp)
theorem down_of {ns ns' : List Int} (p : ns'.Perm ns) (h : ns'.Pairwise (· ≥ ·)) : ns' = down ns :=
  List.Perm.eq_of_pairwise (fun _ _ _ _ a b => Int.le_antisymm b a) h (down_falls ns) (p.trans (down_perm ns).symm)
theorem up_of {ns ns' : List Int} (p : ns'.Perm ns) (h : ns'.Pairwise (· ≤ ·)) : ns' = up ns :=
  List.Perm.eq_of_pairwise (fun _ _ _ _ a b => Int.le_antisymm a b) h (up_rises ns) (p.trans (up_perm ns).symm)
theorem down_len (ns : List Int) : (down ns).length = ns.length := (down_perm ns).length_eq
/-- all prefix sums -/
def heads (t : Int) : List Int → List Int
  | [] => []
  | n :: r => (t + n) :: heads (t + n) r
theorem heads_len (ns : List Int) : ∀ t, (heads t ns).length = ns.length := by
  induction ns with
  | nil => intro t; rfl
  | cons n r ih => intro t; simp [heads, ih]
theorem heads_app (as bs : List Int) : ∀ t, heads t (as ++ bs) = heads t as ++ heads (t + as.sum) bs := by
  induction as with
  | nil => intro t; simp [heads]
  | cons n r ih => intro t; simp [heads, ih, Int.add_assoc]
theorem heads_take {ns : List Int} {i : Nat} {n : Int} (h : ns[i]? = some n) : heads 0 (ns.take (i + 1)) = heads 0 (ns.take i) ++ [(ns.take i).sum + n] := by
  rw [List.take_add_one, h]
  simp [heads_app, heads]
theorem map_get {ns : List Int} {i : Nat} {d : D} (h : (ns.map D.int)[i]? = some d) : ∃ n, ns[i]? = some n ∧ d = .int n := by
  rw [List.getElem?_map] at h
  cases e : ns[i]? with
  | none => rw [e] at h; cases h
  | some n => rw [e] at h; exact ⟨n, rfl, (Option.some.inj h).symm⟩
end SQ
/-! a bowl: three ints that draws change -/
namespace SQ
open PySem PySem.Spec PyProof.Rows L2
section
variable {K : PySem.W.Frag} {Γ : Cxt} {H0 H : Hp} {τ ps : Ps} {ss : List Sl} {σ : L2.St} {e : En} {te tb : TE} {C : D → Prop} {p : Addr}
theorem bowl_at (b : Bowl Γ.S Γ.W p) (I : Env K Γ H0 H ps) : ∃ x y z : Int, H p = some (.lst [.int x, .int y, .int z]) := by
  obtain ⟨xs, h, x, y, z, rfl⟩ := b.2.1 H I.w
  exact ⟨x, y, z, h⟩
/-- bowl[j] -/
theorem wpE_ixB {i : Nat} {j : Int} (h : ss[i]? = some (.val (.cell p))) (b : Bowl Γ.S Γ.W p) (hj : 0 ≤ j ∧ j < 3) (c : ∀ z, C (.int z)) : wpE K Γ (tOp (rIx K) (tVar i) (tC (.int j))) ss C := fun H0 σ H τ hl I Q q => by
  obtain ⟨o, ho⟩ := get_of_len hl h
  have m := zip_get h ho
  obtain ⟨v, e1, r⟩ := I.sl _ (List.mem_append_left _ m)
  have e1 : o = some v := e1
  subst e1
  have r : v = .ref p := r
  subst r
  obtain ⟨x, y, z, hp⟩ := bowl_at b I
  have key : ∃ w : Int, atI [V.int x, .int y, .int z] j = some (.int w) := by
    have : j = 0 ∨ j = 1 ∨ j = 2 := by omega
    rcases this with rfl | rfl | rfl
    · exact ⟨x, rfl⟩
    · exact ⟨y, rfl⟩
    · exact ⟨z, rfl⟩
  obtain ⟨w, hw⟩ := key
  exact ⟨.ref p, ho, .inl ⟨p, _, j, _, rfl, rfl, .inl (.inl hp), hw, q _ (.int w) H (I.push (d := .int w) rfl) (c w)⟩⟩
/-- what the scene may change, is changed -/
theorem Env.setW {xs : List V} (b : Bowl Γ.S Γ.W p) (hx : OkB xs) (I : Env K Γ H0 H ps) : Env K Γ H0 (upd H p (.lst xs)) ps := by
  obtain ⟨x, y, z, hp⟩ := bowl_at b I
  have hS : Γ.S p := b.1
  have nb : ∀ a ∈ owned ps, a ≠ p := fun a z e => (I.fr a z).1 (e ▸ hS)
  have rl : Rel (Out Γ ps) H (upd H p (.lst xs)) := fun a o n e _ => by
    rw [upd_ne (fun z => n (by rw [z]; exact .inl hS))]; exact e
  refine ⟨I.ok, b.2.2 H xs I.w hx, fun a o n e t => ?_, I.nd, I.fr, fun q hq => ?_, I.thr⟩
  · rw [upd_ne (fun z => n (by rw [z]; exact hS))]; exact I.rel a o n e t
  · refine slot.mono ?_ ?_ ?_ (I.sl q hq)
    · exact fun d v r => Rep.rel rl I.live d v r
    · exact fun d v r => Reps.rel rl I.live d v r
    · intro ys e1 a vs e2 e3
      obtain ⟨s, o⟩ := q
      have e1' : s = .own ys := e1
      have e2' : o = some (.ref a) := e2
      subst e1' e2'
      rw [upd_ne (nb a (mem_owned hq))]; exact e3
/-- bowl[j] = e -/
theorem wpS_setB {i : Nat} {j : Int} (h : ss[i]? = some (.val (.cell p))) (b : Bowl Γ.S Γ.W p) (hj : 0 ≤ j ∧ j < 3) (h1 : wpE K Γ te ss fun d => ∃ n, d = .int n ∧ e.nx ss) : wpS K Γ (tAsg te (gSub (tVar i) (tC (.int j)) rSetL)) ss e := fun H0 σ H τ D hl I k => by
  obtain ⟨o, ho⟩ := get_of_len hl h
  have m := zip_get h ho
  obtain ⟨v0, e1, r⟩ := I.sl _ (List.mem_append_left _ m)
  have e1 : o = some v0 := e1
  subst e1
  have r : v0 = .ref p := r
  subst r
  refine h1 H0 σ H τ hl I _ fun v d H2 J ⟨n, hd, c⟩ => ⟨.ref p, ho, ?_⟩
  subst hd
  have rv : v = .int n := J.val List.mem_cons_self
  subst rv
  obtain ⟨x, y, z, hp⟩ := bowl_at b J
  have key : ∃ m, ixN 3 j = some m ∧ OkB ([V.int x, .int y, .int z].set m (.int n)) := by
    have : j = 0 ∨ j = 1 ∨ j = 2 := by omega
    rcases this with rfl | rfl | rfl
    · exact ⟨0, rfl, n, y, z, rfl⟩
    · exact ⟨1, rfl, x, n, z, rfl⟩
    · exact ⟨2, rfl, x, y, n, rfl⟩
  obtain ⟨m, hm, ok⟩ := key
  refine ⟨p, _, j, m, rfl, rfl, hp, hm, ?_⟩
  exact k.nx ss σ _ hl (J.drop.setW b ok) c
end
end SQ
/-! a new list becomes a bowl -/
namespace SQ
open PySem PySem.Spec PyProof.Rows L2
def Cxt.add (Γ : Cxt) (p : Addr) : Cxt := { Γ with S := fun a => Γ.S a ∨ a = p, W := fun H => Γ.W H ∧ ∃ xs, H p = some (.lst xs) ∧ OkB xs }
section
variable {K : PySem.W.Frag} {Γ : Cxt} {H0 H H' : Hp} {τ ps qs : Ps} {ss : List Sl} {σ : L2.St} {e : En} {te tb : TE} {C : D → Prop} {p q : Addr} {t1 : TS} {xs : List D}
theorem Cxt.Ok.add (ok : Γ.Ok) : (Γ.add p).Ok := by
  refine ⟨fun H w a s => ?_, fun H H' w h x => ⟨ok.st H H' w.1 (fun a s => h a (.inl s)) x, ?_⟩⟩
  · rcases s with s | s
    · exact ok.al H w.1 a s
    · obtain ⟨xs, hx, _⟩ := w.2
      subst s
      exact ⟨_, hx, trivial⟩
  · obtain ⟨xs, hx, o⟩ := w.2
    exact ⟨xs, by rw [h p (.inr rfl)]; exact hx, o⟩
theorem bowl_new (ok : Γ.Ok) (hp : ¬ Γ.S p) : Bowl (Γ.add p).S (Γ.add p).W p :=
  ⟨.inr rfl, fun H w => w.2, fun H xs w o => ⟨ok.st H _ w.1 (fun a s => upd_ne fun z => hp (z ▸ s)) (fun a φ h => by
    obtain ⟨ys, hy, _⟩ := w.2
    rw [upd_ne (fun z => by rw [z, hy] at h; cases h)]; exact h), xs, upd_same, o⟩⟩
theorem tb_add {T : List (Addr × Str)} (t : Tb Γ.W T) : Tb (Γ.add p).W T := ⟨fun H w => t.1 H w.1, fun H H' w e tt => ⟨t.2 H H' w.1 e tt, by
  obtain ⟨xs, hx, o⟩ := w.2
  exact ⟨xs, e p _ hx (fun ps q => by cases q), o⟩⟩⟩
theorem bowl_old (hp : ¬ Γ.S p) (b : Bowl Γ.S Γ.W q) : Bowl (Γ.add p).S (Γ.add p).W q :=
  ⟨.inl b.1, fun H w => b.2.1 H w.1, fun H xs w o => ⟨b.2.2 H xs w.1 o, by
    obtain ⟨ys, hy, oy⟩ := w.2
    exact ⟨ys, by rw [upd_ne (fun z : p = q => hp (z ▸ b.1))]; exact hy, oy⟩⟩⟩
theorem Env.toBowl {a b c : Int} (I : Env K Γ H0 H ((.own [.int a, .int b, .int c], some (.ref p)) :: ps)) : Env K (Γ.add p) H0 H ((.val (.cell p), some (.ref p)) :: ps) := by
  have hf := I.fr p List.mem_cons_self
  have nd := List.nodup_cons.mp I.nd
  obtain ⟨vs, hv, r⟩ := I.own List.mem_cons_self
  have hvs : vs = [V.int a, .int b, .int c] := Reps.ints.mp (show Reps K (Out Γ ((.own [.int a, .int b, .int c], some (.ref p)) :: ps)) H ([a, b, c].map D.int) vs from r)
  subst hvs
  have out : ∀ x, Out (Γ.add p) ((Sl.val (.cell p), some (V.ref p)) :: ps) x → Out Γ ((Sl.own [.int a, .int b, .int c], some (V.ref p)) :: ps) x := fun x z => by
    rcases z with (z | z) | z
    · exact .inl z
    · exact .inr (by rw [z]; exact List.mem_cons_self)
    · exact .inr (List.mem_cons_of_mem _ z)
  refine ⟨I.ok.add, ⟨I.w, _, hv, a, b, c, rfl⟩, fun x o n e t => I.rel x o (fun z => n (.inl z)) e t, nd.2, fun x hx => ⟨fun z => ?_, (I.fr x (List.mem_cons_of_mem _ hx)).2⟩, fun s hs => ?_, fun x cls d H' r w y z => ?_⟩
  · rcases z with z | z
    · exact (I.fr x (List.mem_cons_of_mem _ hx)).1 z
    · exact nd.1 (z ▸ hx)
  · rcases List.mem_cons.mp hs with z | z
    · subst z; exact ⟨.ref p, rfl, rfl⟩
    · exact slot.mono (fun d v r => r.less out) (fun d v r => r.less out) (fun ys e1 a vs e2 e3 => e3) (I.sl s (List.mem_cons_of_mem _ z))
  · refine I.thr x cls d H' (fun y o n e t => ?_) w.1 ⟨y.1, y.2.imp id ?_⟩ z
    · by_cases hy : y = p
      · subst hy
        obtain ⟨pt, hp⟩ := hf.2 o e
        exact absurd hp (t pt)
      · exact r y o (fun z => z.elim n hy) e t
    · rintro ⟨dd, fs, e1, e2, e3, e4⟩
      exact ⟨dd, fs, e1, e2, e3, e4.less fun a z => .inl z⟩
theorem Env.ofBowl (hp : ¬ Γ.S p) (hf : ∀ o, H0 p = some o → ∃ pt, o = .tbl pt) (I : Env K Γ H0 H ps) (J : Env K (Γ.add p) H0 H' qs) : Env K Γ H0 H' qs := by
  refine ⟨I.ok, J.w.1, fun x o n e t => ?_, J.nd, fun a z => ⟨fun s => (J.fr a z).1 (.inl s), (J.fr a z).2⟩, fun s hs => ?_, I.thr⟩
  · by_cases hy : x = p
    · subst hy
      obtain ⟨pt, hp⟩ := hf o e
      exact absurd hp (t pt)
    · exact J.rel x o (fun z => z.elim n hy) e t
  · have out : ∀ x, Out Γ qs x → Out (Γ.add p) qs x := fun x z => z.imp .inl id
    exact slot.mono (fun d v r => r.less out) (fun d v r => r.less out) (fun ys e1 a vs e2 e3 => e3) (J.sl s hs)
/-- a def is called with a new bowl -/
theorem wpE_callBowl {F : Fn} (mono : ∀ B B' ds C X, Sc.le B B' → F B ds C X → F B' ds C X)
    (h : wpO K Γ te ss fun xs => (∃ a b c : Int, xs = [.int a, .int b, .int c]) ∧ ∀ (B : Sc) p, B p → (∀ T, Tb Γ.W T → B.tb T) → F B [.cell p] C fun _ => False) : wpE K Γ (tCall (spF K F) [] E0 (tCons te tNil)) ss C := fun H0 σ H τ hl I Q q =>
  h H0 σ H τ hl I _ fun a xs H2 J ⟨⟨x, y, z, hx⟩, hF⟩ => by
    subst hx
    have hf := J.fr a List.mem_cons_self
    have J1 := J.toBowl
    have b := bowl_new J.ok hf.1
    have one : wpE K (Γ.add a) (tCall (spF K F) [] E0 (fun _ H Q => Q [V.ref a] H)) ss C :=
      wpE_call0 mono fun H0 σ H τ hl I Q q => q [V.ref a] [.cell a] H rfl (I.push (d := .cell a) rfl) (hF (sc (Γ.add a)) a b fun T t => tb_add t)
    exact one H0 σ H2 τ hl J1.drop Q fun v d H3 J3 c => q v d H3 (Env.ofBowl hf.1 hf.2 I J3) c
/-- the list in the slot i becomes a bowl -/
theorem wpS_bowl {i : Nat} {a b c : Int} (h : ss[i]? = some (.own [.int a, .int b, .int c])) (k : ∀ p, ¬ Γ.S p → Γ.Ok → wpS K (Γ.add p) t1 (ss.set i (.val (.cell p))) e) : wpS K Γ t1 ss e := fun H0 σ H τ D hl I kk => by
  have hi : i < ss.length := (List.getElem?_eq_some_iff.mp h).1
  obtain ⟨o, ho⟩ := get_of_len hl h
  have I1 := I.perm ((zip_out h ho).append_right τ)
  obtain ⟨p, vs, e1, _⟩ := I1.sl _ List.mem_cons_self
  have e1 : o = some (.ref p) := e1
  subst e1
  have hf := I1.fr p List.mem_cons_self
  have I2 := I1.toBowl
  have pz := zip_set (s := .val (.cell p)) (o := some (V.ref p)) hl hi
  have es : σ.set i (some (V.ref p)) = σ := by
    obtain ⟨hj, hv⟩ := List.getElem?_eq_some_iff.mp ho
    rw [← hv]; exact List.set_getElem_self hj
  rw [es] at pz
  exact k p hf.1 I.ok H0 σ H τ D (by simp [hl]) (I2.perm (pz.symm.append_right τ))
    ⟨fun ss σ H' hl J c => kk.nx ss σ H' hl (Env.ofBowl hf.1 hf.2 I J) c, fun v d H' J c => kk.rt v d H' (Env.ofBowl hf.1 hf.2 I J) c, fun ss σ H' hl J c => kk.bk ss σ H' hl (Env.ofBowl hf.1 hf.2 I J) c, fun ss σ H' hl J c => kk.ct ss σ H' hl (Env.ofBowl hf.1 hf.2 I J) c⟩
end
end SQ
/-! defs that hand back a new list -/
namespace SQ
open PySem PySem.Spec PyProof.Rows L2
abbrev FnO := Sc → List D → (List D → Prop) → (Exc → Prop) → Prop
abbrev enO (C : List D → Prop) : En := { nx := fun _ => False, rt := rtO C }
theorem start_env {K : PySem.W.Frag} {Γ : Cxt} {H : Hp} {E : XK} {ds : List D} {vs : List V} {N : List Str} (ok : Γ.Ok) (w : Γ.W H) (r : Reps K Γ.S H ds vs)
    (x : ∀ x cls d H2, Rel Γ.S H H2 → Γ.W H2 → RepX K Γ.S H2 x cls d → Γ.X x → E cls d H2) :
    (L2.start N vs).length = (ss0 ds N.length).length ∧ Env K { Γ with E := E } H H ((ss0 ds N.length).zip (L2.start N vs) ++ []) := by
  have hl := r.length
  have I0 : Env K { Γ with E := E } H H [] := ⟨⟨ok.al, ok.st⟩, w, Rel.refl _ _, List.nodup_nil, fun a z => (by cases z), fun p z => (by cases z), fun x1 cls d H' h1 h2 h3 h4 => x x1 cls d H' h1 h2 h3 h4⟩
  have I1 : Env K { Γ with E := E } H H (pile ds vs) := by
    have : ∀ (ds : List D) (vs : List V), Reps K Γ.S H ds vs → Env K { Γ with E := E } H H (pile ds vs) := by
      intro ds
      induction ds with
      | nil => intro vs r; have r : vs = [] := r; subst r; exact I0
      | cons d ds ih =>
        intro vs r
        obtain ⟨v, ws, rfl, a, b⟩ := r
        have J := ih ws b
        refine J.push (a.less fun b z => ?_)
        rcases z with z | z
        · exact z
        · have : owned (pile ds ws) = [] := owned_pile
          rw [this] at z; cases z
    exact this ds vs r
  have I2 := zip_start ds vs (N.length - ds.length) hl I1
  have hz : L2.start N vs = vs.map some ++ List.replicate (N.length - ds.length) none := by
    unfold L2.start; rw [hl]
  exact ⟨by rw [hz]; simp [ss0, hl], by rw [hz, List.append_nil]; exact I2⟩
theorem run_defO {K : PySem.W.Frag} {F : FnO} {vs : List V} {H : Hp} {Q : VK} {E : XK} {N : List Str} {t : TS} (h : spO K F vs H Q E)
    (hb : ∀ (Γ : Cxt) (ds : List D) (C : List D → Prop), Γ.E = E → F (sc Γ) ds C Γ.X → wpS K Γ t (ss0 ds N.length) (enO C)) :
    t { nx := fun _ H' => Q .non H', rt := Q } (L2.start N vs) H := by
  obtain ⟨Γ, ds, C, ok, w, r, f, q, x⟩ := h
  obtain ⟨h1, h2⟩ := start_env (N := N) ok w r x
  refine hb { Γ with E := E } ds C rfl f H (L2.start N vs) H [] _ h1 h2 ⟨fun ss σ H' _ I c => c.elim, fun v s H' I c => ?_, fun ss σ H' _ I c => c.elim, fun ss σ H' _ I c => c.elim⟩
  cases s with
  | val d => exact c.elim
  | un => exact c.elim
  | own xs =>
    obtain ⟨a, ws, e1, e2, e3⟩ := I.sl _ List.mem_cons_self
    have e1 : some v = some (.ref a) := e1
    cases e1
    have hf := I.fr a List.mem_cons_self
    exact q a xs ws H' hf.2 hf.1 I.rel I.w e2 (e3.less fun b z => z.elim .inl fun z => .inr (z ▸ List.mem_cons_self)) c
section
variable {P : Program} {w : World} {K : PySem.W.Frag} {mg : Str → Option Value} {base : Heap} {x : Str} {st : Stmt} {f : Addr} {fd : FuncData} {N ps : List Str} {k : Nat} {F : FnO}
theorem cfo_of {st : Stmt} (Df : Fun K x x st f fd) (hm : mg x = some (.ref f)) (hb : Binds K fd ps []) (S : FnScope N ps (defScope st)) (len : ∀ B ds C X, F B ds C X → ds.length = ps.length)
    (body : ∀ (cdv : Value) (A : Around) (outer : List PySem.Env) (s : Shared) (H : Hp) (E : XK), Room k (A.deeper (envOfC x (defScope st) s.heap.objs.size f cdv)) →
      ∃ t, PSs (cxOf CX0 P w K mg base N x (defScope st) f cdv A outer s H E).nox (defBody st) t ∧ ∀ (Γ : Cxt) (ds : List D) (C : List D → Prop), F (sc Γ) ds C Γ.X → wpS K Γ t (ss0 ds N.length) (enO C)) : CalN P w K mg base (k + 1) x (spO K F) :=
  ⟨f, fd, ps, Df.ok S (fun vs H Q E h => by
      obtain ⟨Γ, ds, C, _, _, r, h, _⟩ := h
      rw [← r.length, len _ _ _ _ h]) (fun cdv A outer s H vs Q E hr h => by
      obtain ⟨t, ht, hw⟩ := body cdv A outer s H E hr
      exact ⟨t, ht, run_defO h fun Γ ds C _ f => hw Γ ds C f⟩), hm, Df.kp, hb⟩
end
/-! the walk through bowls -/
end SQ
local macro_rules | `(tactic| walk_at "wk1") => `(tactic| first
  | ((with_reducible refine SQ.wpE_ixB rfl (by assumption) ?_ ?_); (focus decide); intro _)
  | ((with_reducible refine SQ.wpS_setB rfl (by assumption) ?_ ?_); (focus decide)))
namespace SQ
open PySem PySem.Spec PyProof.Rows L2
theorem log_small {n : Int} (h0 : 0 < n) (h : n < 2 ^ 200) : n.natAbs.log2 < 9000 := by
  have h1 : n.natAbs ≠ 0 := by omega
  have h2 : n.natAbs < 2 ^ 200 := by omega
  have h3 : n.natAbs.log2 < 200 := (Nat.log2_lt h1).mpr h2
  omega
section
variable {K : PySem.W.Frag} {Γ : Cxt} {ss : List Sl} {te : TE}
/-- a comprehension whose elements each keep a property -/
theorem wpO_lcP {us : List Nat} {wi : TI} {g : TG} {tt : TT} {P : Nat → D → Prop} {CO : List D → Prop} (h : wpI K Γ wi ss fun ds => ds.length ≤ 100000 ∧
      (∀ i d, ds[i]? = some d → wpG K Γ us g d (wipeS ss us) fun ss2 => wpT K Γ tt ss2 fun b => b = true ∧ wpE K Γ te ss2 (P i)) ∧ ∀ ys : List D, ys.length = ds.length → (∀ i y, ys[i]? = some y → P i y) → CO ys) :
    wpO K Γ (tLc wi g tt te us) ss CO := wpO_lc fun H0 σ H τ hl I R k => h H0 σ H τ hl I R fun J H1 ds τ1 I1 w ⟨hz, hs, c⟩ => k J H1 ds τ1 I1 w ⟨hz, fun i acc => acc.length = i ∧ ∀ j y, acc[j]? = some y → P j y, ⟨rfl, fun j y h => by simp at h⟩, fun i d acc hd ha => by
      intro H0 σ H τ x hl I Q q
      refine hs i d hd H0 σ H τ x hl I Q fun ss2 σ2 H2 hl2 e1 e2 I2 c2 => q ss2 σ2 H2 hl2 e1 e2 I2 ?_
      refine c2.mono fun b hb => ?_
      obtain ⟨rfl, hb2⟩ := hb
      refine hb2.mono fun y hy => ⟨by simp [ha.1], fun j z hj => ?_⟩
      rw [List.getElem?_append] at hj
      split at hj
      · exact ha.2 j z hj
      · rename_i hn
        have hj2 := (List.getElem?_eq_some_iff.mp hj).1
        have : j = i := by
          have := ha.1
          simp at hj2; omega
        subst this
        rw [ha.1] at hj
        simp at hj
        rw [← hj]; exact hy, fun acc ha => c acc ha.1 ha.2⟩
end
end SQ
/-! slices -/
namespace SQ
open PySem PySem.Spec PyProof.Rows L2
section
variable {K : PySem.W.Frag} {Γ : Cxt} {ss : List Sl} {te : TE} {CO : List D → Prop} {C : D → Prop}
theorem Reps.rev {S : Addr → Prop} {H : Hp} : ∀ {xs : List D} {vs : List V}, Reps K S H xs vs → Reps K S H xs.reverse vs.reverse
  | [], vs, h => by
    have h : vs = [] := h
    subst h; exact rfl
  | x :: xs, vs, h => by
    obtain ⟨v, us, rfl, a, b⟩ := h
    rw [List.reverse_cons, List.reverse_cons]
    exact (Reps.rev b).app ⟨v, [], rfl, a, rfl⟩
theorem wpO_revL (h : wpE K Γ te ss fun d => ∃ xs, d = .lst xs ∧ CO xs.reverse) : wpO K Γ (tRevL K te) ss CO := fun H0 σ H τ hl I Q q =>
  h H0 σ H τ hl I _ fun v d H1 J ⟨xs, e, c⟩ => by
    subst e
    obtain ⟨a, vs, e, n, t, r⟩ := J.val List.mem_cons_self
    refine ⟨a, vs, e, .inl (.inl t), fun p hp => q p xs.reverse _ (J.drop.pushO hp (Reps.rev r)) c⟩
/-- the ends of a slice -/
def wpP (K : PySem.W.Frag) (Γ : Cxt) (tl : TO) (ss : List Sl) (C : Option Int → Prop) : Prop := ∀ H0 σ H τ, σ.length = ss.length → Env K Γ H0 H (ss.zip σ ++ τ) →
  ∀ Q : Option Int → Hp → Prop, (∀ i H2, Env K Γ H0 H2 (ss.zip σ ++ τ) → C i → Q i H2) → tl σ H Q
theorem wpP_no {C : Option Int → Prop} (c : C none) : wpP K Γ tNoPart ss C := fun H0 σ H τ hl I Q q => q none H I c
theorem wpP_some {C : Option Int → Prop} (h : wpE K Γ te ss fun d => ∃ i, d = .int i ∧ C (some i)) : wpP K Γ (tPart te) ss C := fun H0 σ H τ hl I Q q =>
  h H0 σ H τ hl I _ fun v d H2 J ⟨i, e, c⟩ => by
    subst e
    exact ⟨i, J.val List.mem_cons_self, q _ H2 J.drop c⟩
def cutD (xs : List D) (lo hi : Option Int) : List D := (xs.drop (HT.sIx xs.length 0 lo)).take (HT.sIx xs.length xs.length hi - HT.sIx xs.length 0 lo)
def rSlc (K : PySem.W.Frag) : V → Option Int → Option Int → Hp → VK → Prop := fun x lo hi H Q => rSlL K x lo hi H Q ∨ rSlA K x lo hi H Q
theorem sl_any {X : Cx} : L2.SlR X (rSlc X.K) := sl_list.or sl_tupA
/-- a slice's value -/
def wpC (K : PySem.W.Frag) (r : V → Option Int → Option Int → Hp → VK → Prop) (x : D) (lo hi : Option Int) (C : D → Prop) : Prop := ∀ S H v, Live S H → Rep K S H x v →
  ∀ Q : VK, (∀ z d H2, Ext H H2 → Rep K S H2 d z → C d → Q z H2) → r v lo hi H Q
theorem Reps.cut {S : Addr → Prop} {H : Hp} {xs : List D} {vs : List V} (lo hi : Option Int) (r : Reps K S H xs vs) : Reps K S H (cutD xs lo hi) (cutV vs lo hi) := by
  have hl := r.length
  unfold cutD cutV
  rw [hl]
  exact (r.drop _).take _
theorem wpC_L {xs : List D} {lo hi : Option Int} (c : C (.lst (cutD xs lo hi))) : wpC K (rSlc K) (.lst xs) lo hi C := fun S H v l r Q q => by
  obtain ⟨a, vs, rfl, n, t, r⟩ := r
  refine .inl ⟨a, vs, rfl, .inl (.inl t), fun p hp => ?_⟩
  have ex : Ext H (upd H p (.lst (cutV vs lo hi))) := Ext.new hp
  refine q _ (.lst (cutD xs lo hi)) _ ex ⟨p, cutV vs lo hi, rfl, fun z => ?_, upd_same, (r.cut lo hi).ext ex⟩ c
  obtain ⟨o, e, _⟩ := l p z
  rw [hp] at e; cases e
theorem wpC_T {xs : List D} {lo hi : Option Int} (c : C (.tup (cutD xs lo hi))) : wpC K (rSlc K) (.tup xs) lo hi C := fun S H v l r Q q => by
  obtain ⟨a, vs, rfl, t, r⟩ := r
  have hl := r.length
  refine .inr ⟨a, vs, rfl, t, fun w => ?_, fun w p hp => ?_⟩
  · have e : cutD xs lo hi = xs := by
      unfold cutD
      rw [hl, w.1, w.2, List.drop_zero, Nat.sub_zero, ← hl, List.take_length]
    rw [e] at c
    exact q _ (.tup xs) H (Ext.refl H) ⟨a, vs, rfl, t, r⟩ c
  · have ex : Ext H (upd H p (.tup (cutV vs lo hi))) := Ext.new hp
    exact q _ (.tup (cutD xs lo hi)) _ ex ⟨p, cutV vs lo hi, rfl, SqT.of upd_same, (r.cut lo hi).ext ex⟩ c
theorem wpE_sl {r : V → Option Int → Option Int → Hp → VK → Prop} {tl th : TO} (h : wpE K Γ te ss fun x => wpP K Γ tl ss fun lo => wpP K Γ th ss fun hi => wpC K r x lo hi C) : wpE K Γ (L2.tSl r te tl th) ss C := fun H0 σ H τ hl I Q q =>
  h H0 σ H τ hl I _ fun x dx H1 J1 h1 => h1 H0 σ H1 ((.val dx, some x) :: τ) hl (J1.perm (List.perm_middle.symm)) _ fun lo H2 J2 h2 =>
    h2 H0 σ H2 ((.val dx, some x) :: τ) hl J2 _ fun hi H3 J3 h3 => by
      have J4 := J3.perm (List.perm_middle (l₁ := ss.zip σ) (a := (Sl.val dx, some x)) (l₂ := τ))
      refine h3 (Out Γ (ss.zip σ ++ τ)) H3 x J4.drop.live ((J4.val List.mem_cons_self).less fun a z => z) Q fun z d H5 ex r c => ?_
      exact q z d H5 ((J4.drop.ext ex).push r) c
end
section
variable {K : PySem.W.Frag} {C : D → Prop} {xs ds : List D} {i : Int} {ns : List Int} {r : List V → Hp → VK → Prop}
theorem wpR_ixL' (h : ∃ d, atI xs i = some d ∧ C d) : wpR K (rIx K) (.lst xs) (.int i) C := by
  obtain ⟨d, h, c⟩ := h
  exact wpR_ixL h c
theorem wpR_ixT' (h : ∃ d, atI xs i = some d ∧ C d) : wpR K (rIx K) (.tup xs) (.int i) C := by
  obtain ⟨d, h, c⟩ := h
  exact wpR_ixT h c
theorem wpB_frz (h : wpBO K r ds fun ys => C (.lst ys)) : wpB K r ds C := fun S H vs l rx Q q =>
  h S H vs l rx Q fun p ys ws hp ry c => by
    have ex : Ext H (upd H p (.lst ws)) := Ext.new hp
    refine q _ (.lst ys) _ ex ⟨p, ws, rfl, fun z => ?_, upd_same, ry.ext ex⟩ c
    obtain ⟨o, e, _⟩ := l p z
    rw [hp] at e; cases e
theorem wpB_srtL (c : C (.lst ((up ns).map .int))) : wpB K (bSrt K false) [.lst (ns.map D.int)] C := wpB_frz (wpBO_srtL fun ns' h1 h2 => by rw [up_of h1 h2]; exact c)
theorem wpB_srtT (c : C (.lst ((up ns).map .int))) : wpB K (bSrt K false) [.tup (ns.map D.int)] C := wpB_frz (wpBO_srtT fun ns' h1 h2 => by rw [up_of h1 h2]; exact c)
theorem up_rev (ns : List Int) : (up ns).reverse = down ns := down_of ((List.reverse_perm _).trans (up_perm ns)) (List.pairwise_reverse.mpr (up_rises ns))
end
end SQ
local macro_rules | `(tactic| walk_at "wk1") => `(tactic| first
  | with_reducible refine SQ.wpE_sl ?_
  | with_reducible refine SQ.wpP_no ?_
  | with_reducible refine SQ.wpP_some ?_
  | with_reducible refine SQ.wpC_L ?_
  | with_reducible refine SQ.wpC_T ?_
  | with_reducible refine SQ.wpO_revL ?_
  | ((with_reducible refine SQ.wpR_ixL' ?_); (try refine ⟨_, rfl, ?_⟩))
  | ((with_reducible refine SQ.wpR_ixT' ?_); (try refine ⟨_, rfl, ?_⟩))
  | with_reducible refine SQ.wpE_frz (SQ.wpO_lst ?_)
  | with_reducible refine SQ.wpE_frz (SQ.wpO_revL ?_)
  | ((with_reducible refine And.intro (Nat.le_of_ble_eq_true ?_) ?_); (focus rfl))
  | with_reducible refine SQ.wpB_srtL ?_
  | with_reducible refine SQ.wpB_srtT ?_
  | with_reducible refine SQ.wpBO_lstL ?_
  | with_reducible refine SQ.wpBO_lstT ?_
  | with_reducible refine SQ.wpO_cb ?_)
namespace SQ
open PySem PySem.Spec PyProof.Rows L2
/-! i, j = a new list, a value -/
section
variable {K : PySem.W.Frag} {Γ : Cxt} {ss : List Sl} {te tb : TE} {e : En}
theorem wpS_parO {i j : Nat} (hi : i < ss.length) (hj : j < ss.length) (h : wpO K Γ te ss fun xs => wpE K Γ tb ss fun y => e.nx ((ss.set i (.own xs)).set j (.val y))) : wpS K Γ (tPar i j (tCons te (tCons tb tNil))) ss e := fun H0 σ H τ D hl I k =>
  h H0 σ H τ hl I _ fun a xs H1 J1 h1 => h1 H0 σ H1 ((.own xs, some (.ref a)) :: τ) hl (J1.perm List.perm_middle.symm) _ fun y d H2 J2 c => by
    have J3 : Env K Γ H0 H2 ((.own xs, some (.ref a)) :: (ss.zip σ ++ ((.val d, some y) :: τ))) := by
      refine J2.perm ?_
      refine (List.Perm.cons _ List.perm_middle).trans ((List.Perm.swap _ _ _).trans (List.Perm.cons _ ?_))
      exact List.perm_middle.symm
    have J4 := J3.store hl hi
    have J5 := (J4.perm (List.perm_middle (l₁ := (ss.set i (.own xs)).zip (σ.set i (some (.ref a)))))).store (i := j) (by simp [hl]) (by simpa using hj)
    exact ⟨_, _, rfl, k.nx _ _ H2 (by simp [hl]) J5 c⟩
end
end SQ
/-! the rules with the written part named: for bodies of comprehensions -/
namespace SQ
open PySem PySem.Spec PyProof.Rows L2
section
variable {X : Cx} {K : PySem.W.Frag}
theorem ix_seqK (h : X.K = K := by rfl) : IxR X (rIx K) := by subst h; exact ix_seq
theorem sl_anyK (h : X.K = K := by rfl) : L2.SlR X (rSlc K) := by subst h; exact sl_any
theorem op_addK (h : X.K = K := by rfl) : OpR X (binaryOp .Add) (rAddA K) := by subst h; exact op_addA
theorem op_mulK (h : X.K = K := by rfl) : OpR X (binaryOp .Mult) (rMulA K) := by subst h; exact op_mulA
theorem op_eqK (hu : X.A.units + 64 < cLine) (h : X.K = K := by rfl) : OpR X (compareOp .Eq) (rEqD K) := by subst h; exact op_eqA hu
theorem op_neK (hu : X.A.units + 64 < cLine) (h : X.K = K := by rfl) : OpR X (compareOp .NotEq) (rNeD K) := by subst h; exact op_neA hu
theorem cr_lenK (h : X.K = K := by rfl) : CallR X (.builtin "len") (bLen K) := by subst h; exact cr_len
theorem cr_maxK (hc : X.calm = true) (h : X.K = K := by rfl) : CallR X (.builtin "max") (bMax K) := by subst h; exact cr_maxA hc
theorem cr_minK (hc : X.calm = true) (h : X.K = K := by rfl) : CallR X (.builtin "min") (bMin K) := by subst h; exact cr_minA hc
theorem cr_sumK (hc : X.calm = true) (h : X.K = K := by rfl) : CallR X (.builtin "sum") (bSum K) := by subst h; exact cr_sumA hc
theorem cr_tupK (h : X.K = K := by rfl) : CallR X (.type "tuple") (bTup K) := by subst h; exact cr_tup
theorem cr_lstK (h : X.K = K := by rfl) : CallR X (.type "list") (bLst K) := by subst h; exact cr_lst
theorem cr_isiK (h : X.K = K := by rfl) : CallR X (.builtin "isinstance") (bIsi K) := by subst h; exact cr_isi
theorem cr_allK (hc : X.calm = true) (h : X.K = K := by rfl) : CallR X (.builtin "all") (bAll K) := by subst h; exact cr_allA hc
theorem cr_anyK (hc : X.calm = true) (h : X.K = K := by rfl) : CallR X (.builtin "any") (bAny K) := by subst h; exact cr_anyA hc
theorem cr_srtK (h : X.K = K := by rfl) : CallR X (.builtin "sorted") (bSrt K false) := by subst h; exact cr_srt
theorem cr_srtRK (h : X.K = K := by rfl) : CallRK X (.builtin "sorted") [Str.ofString "reverse"] (bSrtR K) := by subst h; exact cr_srtR
theorem pg_tupK {es : List Expr} {k : Nat} {t : TGs} {n : Nat} {pos : Pos} (hc : X.calm = true) (hp : PGs X es t)
    (hn : (assignEach es X.env).length = n := by rfl) (hst : (assignEach es X.env).findIdx? (·.1) = none := by rfl) (h : X.K = K := by rfl) : PG X (.Tuple es k pos) (gTup K n t) := by subst h; exact pg_tup hc hp hn hst
theorem pi_seqK {tg l : Expr} {te : TE} (he : PE X l te) (h : X.K = K := by rfl) : PI X tg l (iSeq K te) := by subst h; exact pi_seq he
theorem pi_zipK {e e2 : Expr} {ta : TA} {p pos tpos : Pos} {elts : List Expr} {kk : Nat} (hg : Gl X "zip") (hm : X.mg "zip" = none) (ha : PA X [e, e2] ta) (h : X.K = K := by rfl)
    (hs : starEach [e, e2] X.env = (false, eval e X.env) :: starEach [e2] X.env := by rfl) (hpl : (backTo pos (starEach [e2] X.env)).any (·.1) = false := by rfl) :
    PI X (.Tuple elts kk tpos) (.Call (.Name "zip" p) [e, e2] [] pos) (RZ.iZipA K ta) := by subst h; exact RZ.pi_zipA hg hm ha hs hpl
theorem pe_revK {e : Expr} {te : TE} {k : Nat} {p1 p2 p3 pos : Pos} (he : PE X e te) (h : X.K = K := by rfl) : PE X (.Subscript e (.Slice none none (some (.UnaryOp .USub (.Constant (.int 1) k p1) p2)) p3) pos) (tRevL K te) := by subst h; exact pe_revL he
end
section
variable {K : PySem.W.Frag} {Γ : Cxt} {ss : List Sl} {te : TE} {e : En} {g : TG}
theorem wpS_asg {us : List Nat} (h : wpE K Γ te ss fun d => wpG K Γ us g d ss e.nx) : wpS K Γ (tAsg te g) ss e := fun H0 σ H τ D hl I k =>
  h H0 σ H τ hl I _ fun v d H2 J c => c H0 σ H2 τ v hl J _ fun ss2 σ2 H3 hl2 _ _ J2 c2 => k.nx ss2 σ2 H3 hl2 J2 c2
end
section
variable {K : PySem.W.Frag} {C : D → Prop} {i j : Int}
theorem wpR_eqI (c : C (.bl (decide (i = j)))) : wpR K (rEqD K) (.int i) (.int j) C := wpR_eqD rfl rfl (by
  have : eqD (.int i) (.int j) = decide (i = j) := by
    by_cases h : i = j
    · subst h; simp
    · simp [h]
  rw [this]; exact c)
theorem wpR_neI (c : C (.bl (decide (i ≠ j)))) : wpR K (rNeD K) (.int i) (.int j) C := wpR_neD rfl rfl (by
  have : (!eqD (.int i) (.int j)) = decide (i ≠ j) := by
    by_cases h : i = j
    · subst h; simp
    · simp [h]
  rw [this]; exact c)
end
end SQ
local macro_rules | `(tactic| walk_at "wk1") => `(tactic| first
  | with_reducible refine SQ.wpR_eqI ?_
  | with_reducible refine SQ.wpR_neI ?_
  | rw [if_pos (by decide)]
  | rw [if_neg (by decide)])
namespace SQ
open PySem PySem.Spec PyProof.Rows L2
end SQ
/-! comprehensions that change a list of their def -/
namespace SQ
open PySem PySem.Spec PyProof.Rows L2
section
variable {K : PySem.W.Frag} {Γ : Cxt} {H0 H H' : Hp} {ps qs τ : Ps} {a : Addr} {d : D} {v : V} {xs : List D} {vs : List V} {ss : List Sl} {σ : L2.St} {C : D → Prop} {te ta tb : TE} {e : En} {wi : TI} {g : TG}
/-- with more on the pile, which may change -/
def wpEX (K : PySem.W.Frag) (Γ : Cxt) (te : TE) (ss : List Sl) (X : Ps) (C : D → Ps → Prop) : Prop := ∀ H0 σ H τ, σ.length = ss.length → Env K Γ H0 H (ss.zip σ ++ (X ++ τ)) →
  ∀ Q : VK, (∀ v d X' H2, Env K Γ H0 H2 ((.val d, some v) :: (ss.zip σ ++ (X' ++ τ))) → C d X' → Q v H2) → te σ H Q
def wpOX (K : PySem.W.Frag) (Γ : Cxt) (te : TE) (ss : List Sl) (X : Ps) (C : List D → Prop) : Prop := ∀ H0 σ H τ, σ.length = ss.length → Env K Γ H0 H (ss.zip σ ++ (X ++ τ)) →
  ∀ Q : VK, (∀ a xs H2, Env K Γ H0 H2 ((.own xs, some (.ref a)) :: (ss.zip σ ++ τ)) → C xs → Q (.ref a) H2) → te σ H Q
def wpSX (K : PySem.W.Frag) (Γ : Cxt) (ts : TS) (ss : List Sl) (X : Ps) (e : En) : Prop := ∀ H0 σ H τ D, σ.length = ss.length → Env K Γ H0 H (ss.zip σ ++ (X ++ τ)) → EnOk K Γ H0 τ e D → ts D σ H
theorem wpO_lcX {us : List Nat} {C : List D → Prop} {X0 : Ps} (h : wpI K Γ wi ss fun ds => ds.length ≤ 100000 ∧ ∃ I : Nat → List D → Ps → Prop, I 0 [] X0 ∧
      (∀ i d acc X, ds[i]? = some d → I i acc X → wpG K Γ us g d (wipeS ss us) fun ss2 => wpEX K Γ te ss2 X fun y X' => I (i + 1) (acc ++ [y]) X') ∧ (∀ acc X, I ds.length acc X → C acc)) :
    wpOX K Γ (tLc wi g tYes te us) ss X0 C := fun H0 σ H τ0 hl I Q q =>
  h H0 σ H (X0 ++ τ0) hl I _ fun J H1 ds τ1 I1 w ⟨hz, P, p0, ps, pd⟩ => fun A hA => by
    obtain ⟨lost, hlost⟩ := wiped_pile hl us
    have hlw : (wipe σ us).length = (wipeS ss us).length := by rw [wipe_length, wipeS_length, hl]
    have pm : ∀ (X Y Z : Ps) (p : Sl × Option V), (p :: (X ++ (Y ++ Z))).Perm (X ++ (Y ++ p :: Z)) := fun X Y Z p => by
      rw [← List.append_assoc, ← List.append_assoc]
      exact List.perm_middle.symm
    refine ⟨fun i m H' => m = ds.length - i ∧ i ≤ ds.length ∧ ∃ acc X, acc.length ≤ i ∧ Env K Γ H0 H' (ss.zip σ ++ (τ1 ++ ((.own acc, some (.ref A)) :: (X ++ τ0)))) ∧ P i acc X, ⟨ds.length, by simp, Nat.zero_le _, [], X0, Nat.le_refl _, (I1.pushO hA (Reps.nil)).perm (pm _ _ _ _), p0⟩, ?_⟩
    rintro i m H' ⟨rfl, hi, acc, X, hacc, I', p⟩
    obtain ⟨w1, w2⟩ := w H0 H' _ I' (fun q hq => List.mem_append_right _ (List.mem_append_left _ hq))
    by_cases hlt : i < ds.length
    · have hd : ds[i]? = some ds[i] := List.getElem?_eq_getElem hlt
      obtain ⟨g1, g2⟩ := w1 i _ hd
      refine .inr ⟨g1, fun H2 => i + 1 ≤ ds.length ∧ ∃ acc X, acc.length ≤ i + 1 ∧ Env K Γ H0 H2 (ss.zip σ ++ (τ1 ++ ((.own acc, some (.ref A)) :: (X ++ τ0)))) ∧ P (i + 1) acc X, ?_, fun x H2 y => ?_⟩
      · rintro H2 ⟨h1, acc, X, h2, I2, p2⟩
        exact ⟨ds.length - (i + 1), by omega, rfl, h1, acc, X, h2, I2, p2⟩
      · have J2 := g2 x H2 y
        -- the block's slots; what it wipes lies on the pile
        have J3 : Env K Γ H0 H2 ((.val ds[i], some x) :: ((wipeS ss us).zip (wipe σ us) ++ (lost ++ (τ1 ++ ((.own acc, some (.ref A)) :: (X ++ τ0)))))) := by
          have a1 : Env K Γ H0 H2 (ss.zip σ ++ ((.val ds[i], some x) :: (τ1 ++ ((.own acc, some (.ref A)) :: (X ++ τ0))))) := J2.perm List.perm_middle.symm
          have a2 := (hlost K Γ H0 H2 _).mp a1
          refine a2.perm ?_
          rw [← List.append_assoc, ← List.append_assoc (bs := lost)]
          exact List.perm_middle
        have back : ∀ (τ : Ps) (acc : List D) (ss2 : List Sl) (σ2 : L2.St) (H3 : Hp), σ2.length = ss2.length → wipe σ2 us = wipe (wipe σ us) us → wipeS ss2 us = wipeS (wipeS ss us) us → Env K Γ H0 H3 (ss2.zip σ2 ++ (lost ++ (τ1 ++ ((.own acc, some (.ref A)) :: τ)))) → Env K Γ H0 H3 (ss.zip σ ++ (τ1 ++ ((.own acc, some (.ref A)) :: τ))) := fun τ acc ss2 σ2 H3 hl2 e1 e2 I3 => by
          obtain ⟨l2, h2⟩ := wiped_pile hl2 us
          have b1 := (h2 K Γ H0 H3 _).mp I3
          have b2 : Env K Γ H0 H3 ((wipeS ss2 us).zip (wipe σ2 us) ++ (lost ++ (τ1 ++ ((.own acc, some (.ref A)) :: τ)))) := (b1.perm (by
            rw [← List.append_assoc]
            exact (List.perm_append_comm.append_right _).trans (by rw [List.append_assoc]))).dropL (qs := l2)
          rw [e1, e2, wipe_wipe, wipeS_wipeS] at b2
          exact (hlost K Γ H0 H3 _).mpr b2
        refine ps i _ acc X hd p H0 (wipe σ us) H2 _ x hlw J3 _ fun ss2 σ2 H3 hl2 e1 e2 I2 c => ⟨e1.trans (wipe_wipe σ us), ?_⟩
        have I2' : Env K Γ H0 H3 (ss2.zip σ2 ++ (X ++ (lost ++ (τ1 ++ ((Sl.own acc, some (V.ref A)) :: τ0))))) := I2.perm (List.Perm.append_left _ (by
          have h1 : (lost ++ (τ1 ++ ((Sl.own acc, some (V.ref A)) :: (X ++ τ0)))).Perm (lost ++ (τ1 ++ (X ++ ((Sl.own acc, some (V.ref A)) :: τ0)))) := (List.perm_middle.symm.append_left _).append_left _
          refine h1.trans ?_
          rw [← List.append_assoc, ← List.append_assoc, ← List.append_assoc, ← List.append_assoc]
          refine List.Perm.append_right _ ?_
          rw [List.append_assoc X]
          exact List.perm_append_comm))
        refine c H0 σ2 H3 _ hl2 I2' _ fun v d X' H5 I5 c5 => ?_
        have pa : ((.val d, some v) :: (ss2.zip σ2 ++ (X' ++ (lost ++ (τ1 ++ ((Sl.own acc, some (V.ref A)) :: τ0))))) : Ps).Perm ((.own acc, some (.ref A)) :: (.val d, some v) :: (ss2.zip σ2 ++ (lost ++ (τ1 ++ (X' ++ τ0))))) := by
          refine List.Perm.trans (List.Perm.cons _ ?_) (List.Perm.swap _ _ _)
          refine List.Perm.trans ?_ (List.perm_middle (l₁ := ss2.zip σ2) (a := (Sl.own acc, some (V.ref A))))
          refine List.Perm.append_left _ ?_
          have h1 : (X' ++ (lost ++ (τ1 ++ ((Sl.own acc, some (V.ref A)) :: τ0)))).Perm ((Sl.own acc, some (V.ref A)) :: (X' ++ (lost ++ (τ1 ++ τ0)))) := by
            rw [← List.append_assoc, ← List.append_assoc, ← List.append_assoc, ← List.append_assoc]
            exact List.perm_middle
          refine h1.trans (List.Perm.cons _ ?_)
          rw [← List.append_assoc, ← List.append_assoc, ← List.append_assoc, ← List.append_assoc]
          refine List.Perm.append_right _ ?_
          rw [List.append_assoc]
          exact List.perm_append_comm
        have I6 := I5.perm pa
        obtain ⟨ws, hw, rw'⟩ := I6.own List.mem_cons_self
        refine ⟨ws, hw, Nat.lt_of_le_of_lt (by rw [← rw'.length]; exact hacc) (Nat.lt_of_lt_of_le (Nat.lt_of_lt_of_le hlt hz) (by decide)), hlt, acc ++ [d], X', by simp; exact hacc, ?_, c5⟩
        have rd := I6.val (d := d) (v := v) (List.mem_cons_of_mem _ List.mem_cons_self)
        have I7 := I6.write (rw'.app (Reps.one rd))
        refine back (X' ++ τ0) (acc ++ [d]) ss2 σ2 _ hl2 e1 e2 ?_
        have I8 := (I7.perm (List.Perm.swap _ _ _)).drop
        refine I8.perm ?_
        rw [← List.append_assoc lost, ← List.append_assoc lost]
        exact pm _ _ _ _
    · have hi' : i = ds.length := by omega
      subst hi'
      refine .inl ⟨w2, ?_⟩
      have I3 := I'.perm (pm _ _ _ _).symm
      have I4 : Env K Γ H0 H' ((.own acc, some (.ref A)) :: (ss.zip σ ++ (X ++ τ0))) := (I3.perm (by
        have : (((Sl.own acc, some (V.ref A)) :: (ss.zip σ ++ (τ1 ++ (X ++ τ0)))) : Ps).Perm (τ1 ++ ((Sl.own acc, some (V.ref A)) :: (ss.zip σ ++ (X ++ τ0)))) := by
          refine List.Perm.trans (List.Perm.cons _ ?_) List.perm_middle.symm
          rw [← List.append_assoc (ss.zip σ) τ1 (X ++ τ0), ← List.append_assoc τ1 (ss.zip σ) (X ++ τ0)]; exact List.perm_append_comm.append_right _
        exact this)).dropL
      have I5 := (I4.perm (by
        have : (((Sl.own acc, some (V.ref A)) :: (ss.zip σ ++ (X ++ τ0))) : Ps).Perm (X ++ ((Sl.own acc, some (V.ref A)) :: (ss.zip σ ++ τ0))) := by
          refine List.Perm.trans (List.Perm.cons _ ?_) List.perm_middle.symm
          rw [← List.append_assoc, ← List.append_assoc]; exact List.perm_append_comm.append_right _
        exact this)).dropL
      exact q A acc H' I5 (pd acc X p)
theorem Reps.erase {S : Addr → Prop} {xs : List D} {vs : List V} (k : Nat) (r : Reps K S H xs vs) : Reps K S H (xs.eraseIdx k) (vs.eraseIdx k) := by
  rw [List.eraseIdx_eq_take_drop_succ, List.eraseIdx_eq_take_drop_succ]
  exact (r.take k).app (r.drop (k + 1))
/-- one drawn item of the list is taken out -/
theorem wpEX_popDraw {F : Fn} {i j : Nat} {left : List D} {p : Addr} {C : D → Ps → Prop} (mono : ∀ B B' ds C X, Sc.le B B' → F B ds C X → F B' ds C X)
    (hs : ss[i]? = some (.val (.cell a))) (h0 : ss[j]? = some (.val (.cell p))) (b : Bowl Γ.S Γ.W p)
    (hF : ∀ (B : Sc) (n : Nat) (C : D → Prop), B p → 0 < n → n ≤ 100000 → (∀ r : Int, 0 ≤ r → r < n → C (.int r)) → F B [.cell p, .int n] C fun _ => False)
    (hn : 0 < left.length) (hz : left.length ≤ 100000) (c : ∀ (k : Nat) (d : D), left[k]? = some d → C d [(.own (left.eraseIdx k), some (.ref a))]) :
    wpEX K Γ (tBM K "list" rPopAt (tVar i) (tCons (tCall (spF K F) [] E0 (tCons (tVar j) (tCons (tCB (bLen K) (tCons (tVar i) tNil)) tNil))) tNil)) ss [(.own left, some (.ref a))] C := fun H0 σ H τ hl I Q q => by
  obtain ⟨o1, ho1⟩ := get_of_len hl hs
  obtain ⟨v1, e1, r1⟩ := I.sl _ (List.mem_append_left _ (zip_get hs ho1))
  have e1 : o1 = some v1 := e1
  subst e1
  have r1 : v1 = .ref a := r1
  subst r1
  obtain ⟨o2, ho2⟩ := get_of_len hl h0
  obtain ⟨v2, e2, r2⟩ := I.sl _ (List.mem_append_left _ (zip_get h0 ho2))
  have e2 : o2 = some v2 := e2
  subst e2
  have r2 : v2 = .ref p := r2
  subst r2
  obtain ⟨vs, hv, rv⟩ := I.own (a := a) (xs := left) (List.mem_append_right _ List.mem_cons_self)
  have hlen := rv.length
  refine ⟨.ref a, ho1, .inl ⟨rfl, vs, .inl (.inl hv)⟩, ?_⟩
  have one : wpE K Γ (tCall (spF K F) [] E0 (fun _ H Q => Q [V.ref p, .int left.length] H)) ss fun d => ∃ r : Int, d = .int r ∧ 0 ≤ r ∧ r < left.length :=
    wpE_call0 mono fun H0 σ H τ hl I Q q => q [V.ref p, .int left.length] [.cell p, .int left.length] H rfl ((I.push (d := .int left.length) rfl).push (d := .cell p) rfl) (hF _ _ _ b hn hz fun r h1 h2 => ⟨r, rfl, h1, h2⟩)
  refine ⟨.ref p, ho2, .ref a, ho1, .ref a, vs.length, rfl, .inl ⟨vs, .inl (.inl hv), rfl⟩, ?_⟩
  rw [← hlen]
  refine one H0 σ H _ hl I _ fun v d H2 J ⟨r, e, h1, h2⟩ => ?_
  subst e
  have ev : v = .int r := J.val List.mem_cons_self
  subst ev
  obtain ⟨k, rfl⟩ := Int.eq_ofNat_of_zero_le h1
  have hk : k < left.length := by omega
  have J1 := J.drop
  obtain ⟨vs2, hv2, rv2⟩ := J1.own (a := a) (xs := left) (List.mem_append_right _ List.mem_cons_self)
  have hk2 : k < vs2.length := by rw [← rv2.length]; exact hk
  have J2 : Env K Γ H0 H2 ((.own left, some (.ref a)) :: (ss.zip σ ++ τ)) := J1.perm List.perm_middle
  obtain ⟨vs3, hv3, rv3⟩ := J2.own List.mem_cons_self
  have e3 : vs3 = vs2 := by rw [hv2] at hv3; cases hv3; rfl
  subst e3
  have hd : left[k]? = some left[k] := by simp [hk]
  have hy : vs3[k]? = some vs3[k] := by simp [hk2]
  have ry : Rep K (Out Γ ((Sl.own left, some (V.ref a)) :: (ss.zip σ ++ τ))) H2 left[k] vs3[k] := by
    obtain ⟨v', e1, r1⟩ := rv3.get hd
    rw [hy] at e1; cases e1; exact r1
  refine ⟨a, vs3, k, k, vs3[k], rfl, rfl, hv3, by omega, by omega, ?_, hy, ?_⟩
  · exact (PySem.seqIndex_of (by omega) (by omega)).trans (by simp)
  · have J3 := (J2.push ry).perm (List.Perm.swap _ _ _)
    obtain ⟨vs4, hv4, rv4⟩ := J3.own List.mem_cons_self
    have e4 : vs4 = vs3 := by rw [hv2] at hv4; cases hv4; rfl
    subst e4
    have J4 := (J3.write (rv4.erase k)).perm (List.Perm.swap _ _ _)
    exact q _ left[k] _ _ (J4.perm (List.Perm.cons _ List.perm_middle.symm)) (c k _ hd)
/-- the list in the slot i lies on the pile; the slot keeps its address -/
theorem wpS_apart {i : Nat} {t1 : TS} (h : ss[i]? = some (.own xs)) (k : ∀ a, wpSX K Γ t1 (ss.set i (.val (.cell a))) [(.own xs, some (.ref a))] e) : wpS K Γ t1 ss e := fun H0 σ H τ D hl I kk => by
  have hi : i < ss.length := (List.getElem?_eq_some_iff.mp h).1
  obtain ⟨o, ho⟩ := get_of_len hl h
  have I1 := I.perm ((zip_out h ho).append_right τ)
  obtain ⟨a, vs, e1, _⟩ := I1.sl _ List.mem_cons_self
  have e1 : o = some (.ref a) := e1
  subst e1
  have pz := zip_set (s := .val (.cell a)) (o := some (V.ref a)) hl hi
  have es : σ.set i (some (V.ref a)) = σ := by
    obtain ⟨hj, hv⟩ := List.getElem?_eq_some_iff.mp ho
    rw [← hv]; exact List.set_getElem_self hj
  rw [es] at pz
  have I2 : Env K Γ H0 H ((.val (.cell a), some (.ref a)) :: ((.own xs, some (.ref a)) :: ((ss.eraseIdx i).zip (σ.eraseIdx i) ++ τ))) := I1.push (d := .cell a) rfl
  have I3 : Env K Γ H0 H ((ss.set i (.val (.cell a))).zip σ ++ ([(.own xs, some (.ref a))] ++ τ)) := I2.perm (by
    refine (List.Perm.swap _ _ _).trans ?_
    refine (List.Perm.cons _ (pz.symm.append_right τ)).trans ?_
    exact List.perm_middle.symm)
  exact k a H0 σ H τ D (by simp [hl]) I3 kk
theorem wpS_retX {te : TE} {X : Ps} (h : wpOX K Γ te ss X fun xs => e.rt (.own xs)) : wpSX K Γ (tRet te) ss X e := fun H0 σ H τ D hl I k =>
  h H0 σ H τ hl I _ fun a xs H2 J c => k.rt (.ref a) (.own xs) H2 J.shed c
theorem wpS_retXV {te : TE} {X : Ps} (h : wpOX K Γ te ss X fun xs => e.rt (.val (.lst xs))) : wpSX K Γ (tRet te) ss X e := fun H0 σ H τ D hl I k =>
  h H0 σ H τ hl I _ fun a xs H2 J c => k.rt (.ref a) (.val (.lst xs)) H2 J.shed.freeze c
end
section
open PySem.Calls
variable {X : Cx} {K : PySem.W.Frag} {o e : Expr} {es : List Expr} {to : TE} {t : TA} {name : Str} {apos cpos : Pos} {T id : String} {r : V → List V → Hp → VK → Prop}
theorem pe_bmK (pa : PlainAttrs T) (slot : Slot T name id) (hty : typeOf (.builtin id) = pure (.type "method_descriptor")) (hm : MtR X id r) (ho : PE X o to) (ha : PA X (e :: es) t) (h : X.K = K := by rfl)
    (hbase : attributeBase o name X.env (eval o X.env) = eval o X.env := by rfl)
    (hfew : ((backTo cpos (starEach (e :: es) X.env)).all (fun x => !x.1) && (backToKw cpos (keywordEach [] X.env)).all (fun x => x.1.isSome)
      && decide ((e :: es).length + ([] : List Keyword).length + (if ([] : List Keyword).isEmpty then 0 else 1) < 30)) = true := by rfl)
    (hline : (apos.endLine == cpos.line) = true := by rfl) (hs : starEach (e :: es) X.env = (false, eval e X.env) :: starEach es X.env := by rfl) (hplain : (backTo cpos (starEach es X.env)).any (·.1) = false := by rfl) :
    PE X (.Call (.Attribute o name apos) (e :: es) [] cpos) (tBM K T r to t) := by subst h; exact pe_bm pa slot hty hm ho ha hbase hfew hline hs hplain
end
end SQ
/-! small dict displays -/
namespace SQ
open PySem PySem.Spec PyProof.Rows L2
section
variable {K : PySem.W.Frag} {Γ : Cxt} {H0 H : Hp} {ps : Ps} {ss : List Sl} {C : D → Prop} {xs : List D} {i j : Int}
theorem Env.new_dk {p : Addr} {H' : Hp} {kws : List (Key × V)} {ks : List Key} {ds : List D} (I : Env K Γ H0 H ps) (hp : H p = none) (ex : Ext H H') (h : H' p = some (.dK kws)) (hk : kws.map (·.1) = ks) (r : Reps K (Out Γ ps) H' ds (kws.map (·.2))) : Env K Γ H0 H' ((.val (.dk ks ds), some (.ref p)) :: ps) := by
  have hn : ¬ Out Γ ps p := fun z => by
    obtain ⟨o, e, _⟩ := I.live p z
    rw [hp] at e; cases e
  exact (I.ext ex).push (d := .dk ks ds) ⟨p, kws, rfl, hn, h, hk, r⟩
theorem wpE_dnew (c : C (.dk [] [])) : wpE K Γ tDNewK ss C := fun H0 σ H τ hl I Q q => fun p hp =>
  q _ _ _ (I.new_dk (ds := []) hp (Ext.new hp) upd_same rfl Reps.nil) c
theorem wpE_disp1 (c : C (.dk [.inl i] [.int j])) : wpE K Γ (tDisp [(tC (.int i), tC (.int j))]) ss C := fun H0 σ H τ hl I Q q => fun p hp => by
  refine ⟨upd_same, [(.inl i, .int j)], rfl, Nat.le_of_ble_eq_true rfl, ?_⟩
  have ex : Ext H (upd (upd H p (.dK [])) p (.dK (mergeK [] [(Sum.inl i, V.int j)]))) := fun a o e => by
    have hn : a ≠ p := fun z => by rw [z, hp] at e; cases e
    rw [upd_ne hn, upd_ne hn]; exact e
  exact q _ _ _ (I.new_dk (ds := [.int j]) (ks := [.inl i]) (kws := [(.inl i, .int j)]) hp ex upd_same rfl (Reps.one (d := .int j) rfl)) c
theorem wpE_tup' {ta : TA} (h : wpA K Γ ta ss fun xs => xs.length ≤ 100000 ∧ C (.tup xs)) : wpE K Γ (tTup ta) ss C := wpE_tup h
end
end SQ
local macro_rules | `(tactic| walk_at "wk1") => `(tactic| first
  | with_reducible refine SQ.wpE_dnew ?_
  | with_reducible refine SQ.wpE_disp1 ?_
  | with_reducible refine SQ.wpE_tup ?_)
namespace SQ
open PySem PySem.Spec PyProof.Rows L2
end SQ
/-! a lambda handed to a def that calls it within a try -/
namespace SQ
open PySem PySem.Spec PyProof.Rows L2
def dOwn : Sl → Sl
  | .own _ => .un
  | s => s
def deown (ss : List Sl) : List Sl := ss.map dOwn
section
variable {K : PySem.W.Frag} {Γ : Cxt} {H0 H H' : Hp} {τ ps : Ps} {ss : List Sl} {σ : L2.St} {C : D → Prop}
theorem owned_map : ∀ (l : Ps), owned (l.map (Prod.map dOwn id)) = []
  | [] => rfl
  | (.un, o) :: r => owned_map r
  | (.val d, o) :: r => owned_map r
  | (.own xs, some (.ref a)) :: r => owned_map r
  | (.own xs, none) :: r => owned_map r
  | (.own xs, some _) :: r => owned_map r
theorem deown_zip : (deown ss).zip σ = (ss.zip σ).map (Prod.map dOwn id) := by
  unfold deown; rw [List.zip_map_left]
/-- within: the def's own lists are left alone -/
theorem Env.freshen {X : Exc → Prop} {E : XK} (I : Env K Γ H0 H (ss.zip σ ++ τ))
    (thr : ∀ x cls d H', Rel (Out Γ (ss.zip σ ++ τ)) H H' → (Γ.sub (ss.zip σ ++ τ) H).W H' → RepX K (Out Γ (ss.zip σ ++ τ)) H' x cls d → X x → E cls d H') :
    Env K { Γ.sub (ss.zip σ ++ τ) H with X := X, E := E } H H ((deown ss).zip σ ++ []) := by
  rw [List.append_nil, deown_zip]
  have ho := owned_map (ss.zip σ)
  refine ⟨⟨I.subOk.al, I.subOk.st⟩, I.subW, Rel.refl _ _, by rw [ho]; exact List.nodup_nil, fun a z => (by rw [ho] at z; cases z), fun p hp => ?_, thr⟩
  obtain ⟨q, hq, rfl⟩ := List.mem_map.mp hp
  have hs := I.sl q (List.mem_append_left _ hq)
  obtain ⟨s, o⟩ := q
  cases s with
  | un => trivial
  | own xs => trivial
  | val d =>
    obtain ⟨v, e, r⟩ := hs
    refine ⟨v, e, r.less fun a z => ?_⟩
    rcases z with z | z
    · exact z
    · rw [ho] at z; cases z
/-- behind code objects that were made -/
theorem Env.extN (I : Env K Γ H0 H ps) (e : LamX.ExtN H H') (w : Γ.W H') : Env K Γ H0 H' ps := by
  have rl : Rel (Out Γ ps) H H' := fun a o _ h n => e a o h n
  refine ⟨I.ok, w, fun a o n h t => e a o (I.rel a o n h t) t, I.nd, I.fr, fun q hq => ?_, I.thr⟩
  refine slot.mono (fun d v r => Rep.rel rl I.live d v r) (fun d v r => Reps.rel rl I.live d v r) (fun ys e1 a vs e2 e3 => e a _ e3 fun ps q => by cases q) (I.sl q hq)
/-- what is made of an error -/
def wpX (K : PySem.W.Frag) (outs : Value → Option Addr → Hp → VK → Prop) (x : Exc) (C : D → Prop) : Prop := ∀ S H cls d, Live S H → RepX K S H x cls d →
  ∀ Q : VK, (∀ z dd H2, Rel S H H2 → (∀ a, S a → H2 a = H a) → Rep K S H2 dd z → C dd → Q z H2) → outs cls d H Q
theorem Env.relS (I : Env K Γ H0 H ps) (r : Rel (Out Γ ps) H H') (s : ∀ a, Out Γ ps a → H' a = H a) : Env K Γ H0 H' ps := by
  refine I.back (H' := H') r ⟨I.ok.st H H' I.w (fun a z => s a (.inl z)) (fun a φ h => ?_), fun a z => s a (.inr z)⟩
  refine r a _ (fun z => ?_) h (fun ps q => by cases q)
  obtain ⟨o, e, m⟩ := I.live a z
  rw [h] at e; cases e; exact m
abbrev tOut (outs : Value → Option Addr → Hp → VK → Prop) : (XK → Hp → VK → Prop) → Hp → VK → Prop := fun tl H Q => tl (fun cls d H' => outs cls d H' Q) H Q
theorem wpE_lam {outs : Value → Option Addr → Hp → VK → Prop} {T : List (Addr × Str)} {t : XK → TE} (tb : Tb Γ.W T)
    (h : ∀ (Γ' : Cxt) (E : XK), Sc.le (sc Γ) (sc Γ') → Γ'.E = E → Γ'.X = (fun x => wpX K outs x C) → wpE K Γ' (t E) (deown ss) C) : wpE K Γ (LamX.tLam T (tOut outs) t) ss C := fun H0 σ H τ hl I Q q => by
  refine ⟨tb.1 H I.w, fun H1 eN tT => ?_⟩
  have I1 : Env K Γ H0 H1 (ss.zip σ ++ τ) := I.extN eN (tb.2 H H1 I.w eN tT)
  show t (fun cls d H' => outs cls d H' Q) σ H1 Q
  have I2 := Env.freshen (X := fun x => wpX K outs x C) (E := fun cls d H' => outs cls d H' Q) I1 fun x cls d H' r w y z => by
    have J := I1.back r w
    refine z _ H' cls d J.live y Q fun v dd H2 e s rd c => ?_
    exact q v dd H2 ((J.relS e s).push rd) c
  refine h _ _ (Sc.sub I1) rfl rfl H1 σ H1 [] (by simp [deown, hl]) I2 Q fun v d H2 J c => ?_
  have hJ := I1.back J.rel J.w
  refine q v d H2 (hJ.push ((J.val List.mem_cons_self).less fun a z => .inl z)) c
end
end SQ
/-! try: return a() / except .. -/
namespace SQ
open PySem PySem.Spec PyProof.Rows L2
def outsL (K : PySem.W.Frag) (n : Nat) (l : List Cls3) : Value → Option Addr → Hp → VK → Prop := fun cls d H Q => ∀ σ : L2.St, σ.length = n → wMix K (fun _ _ _ _ => False) { nx := fun _ H' => Q .non H', rt := Q } l cls d σ H
theorem gives_try {X : Cx} {Ng : List Str} {x a q : Str} {sg : Scope} {g : Addr} {cdg : Value} {l : List Cls3} {h0 : ExceptHandler} {hs : List ExceptHandler} {p1 p2 p3 p8 : Pos} (hN : Ng.Nodup) (hst : ∀ f : Addr, (L2.start Ng [V.ref f])[0]? = some (some (V.ref f)))
    (hh : ∀ (s : Shared) (H : Hp), Clauses (cxOf C8.CX0 X.prog X.w X.K X.mg X.base Ng x sg g cdg X.A X.stack s H C8.E0).nox (h0 :: hs) l) :
    LamX.GivesTo X Ng x sg g cdg [.Try [.Return (some (.Call (.Name a p1) [] [] p2)) p3] (h0 :: hs) [] [] p8] a q (tOut (outsL X.K Ng.length l)) := by
  intro f c' s H Q tl act hc h
  refine ⟨_, pss_one (ps_try_mix (X := (cxOf C8.CX0 X.prog X.w X.K X.mg X.base Ng x sg g cdg X.A X.stack s H C8.E0).nox) (Wo := fun _ _ _ _ => False)
      (tb := fun W D σ H => ∃ Ech : XK, (∀ cls d σ' H', Ech cls d H' → σ'.length = Ng.length → W cls d σ' H') ∧ σ[0]? = some (some (.ref f)) ∧ H c' = some (LamX.CodeO c' q) ∧ tl Ech H D.rt)
      rfl rfl hN LamX.takes0 (fun W pn xe tk _ => ?_) (hh s H)), ?_⟩
  · refine ⟨fun pins s' σ H' D I h' => ?_⟩
    obtain ⟨Ech, hW, h1, h2, h3⟩ := h'
    have tk' : Takes ((cxOf C8.CX0 X.prog X.w X.K X.mg X.base Ng x sg g cdg X.A X.stack s H C8.E0).tr pn xe) (fun cls d σ H => σ.length = Ng.length → W cls d σ H) := fun u s' ⟨a, B, sI, pins, σ, H, cls, d, e, I, nb, up, sky, na, os, ag, w⟩ =>
      tk u s' ⟨a, B, sI, pins, σ, H, cls, d, e, I, nb, up, sky, na, os, ag, w I.len⟩
    have hp := act _ pn xe Ech p1 p2 tk' hW
    have hq := pss_one (ps_ret (pos := p3) hp)
    exact hq.run pins s' σ H' D I ⟨h1, h2, h3⟩
  · exact ⟨fun cls d H' => outsL X.K Ng.length l cls d H' Q, fun cls d σ' H' o hl => o σ' hl, hst f, hc, h⟩
/-! ### the suites -/
/-- the scene of a suite: nothing that stands is changed -/
def scX (S : Addr → Prop) (H : Hp) : Cxt := ⟨S, fun H' => ∀ a, S a → H' a = H a, fun _ _ _ => False, fun _ => False⟩
section
variable {K : PySem.W.Frag} {S : Addr → Prop} {H : Hp} {C : D → Prop} {ts : TS} {Q : VK} {σ : L2.St}
theorem scX_env (lv : Live S H) : ∀ (σ : L2.St), Env K (scX S H) H H ((List.replicate σ.length Sl.un).zip σ ++ []) := fun σ => by
  have I0 : Env K (scX S H) H H [] := ⟨⟨fun H' w a z => by
    obtain ⟨o, e, m⟩ := lv a z
    exact ⟨o, (w a z).trans e, m⟩, fun H1 H2 w h _ a z => (h a z).trans (w a z)⟩, fun _ _ => rfl, Rel.refl _ _, List.nodup_nil, fun a z => (by cases z), fun p z => (by cases z), fun _ _ _ _ _ _ _ z => z.elim⟩
  have : ∀ σ : L2.St, Env K (scX S H) H H ((List.replicate σ.length Sl.un).zip σ) := by
    intro σ
    induction σ with
    | nil => exact I0
    | cons o r ih => exact ih.pushU o
  rw [List.append_nil]; exact this σ
theorem suite_bare (lv : Live S H) (q : ∀ z dd H2, Rel S H H2 → (∀ a, S a → H2 a = H a) → Rep K S H2 dd z → C dd → Q z H2)
    (h : ∀ n, wpS K (scX S H) ts (List.replicate n .un) (en0 C)) : ts { nx := fun _ H' => Q .non H', rt := Q } σ H := by
  refine h σ.length H σ H [] _ (by simp) (scX_env lv σ) ⟨fun ss σ' H' _ I c => ?_, fun v s H' I c => ?_, fun ss σ' H' _ I c => c.elim, fun ss σ' H' _ I c => c.elim⟩
  · exact q .non .non H' I.rel I.w rfl c
  · cases s with
    | val d => exact q v d H' I.rel I.w ((I.val List.mem_cons_self).less fun a z => .inl z) c
    | un => exact c.elim
    | own xs => exact c.elim
theorem suite_named {i : Nat} {a : Addr} (hi : i < σ.length) (lv : Live S H) (q : ∀ z dd H2, Rel S H H2 → (∀ a, S a → H2 a = H a) → Rep K S H2 dd z → C dd → Q z H2)
    (h : ∀ n, i < n → wpS K (scX S H) ts ((List.replicate n .un).set i (.val (.cell a))) (en0 C)) : ts (unb i { nx := fun _ H' => Q .non H', rt := Q }) (σ.set i (some (.ref a))) H := by
  have I0 := scX_env (K := K) lv σ
  have I1 : Env K (scX S H) H H (((List.replicate σ.length Sl.un).set i (.val (.cell a))).zip (σ.set i (some (.ref a))) ++ []) :=
    Env.store (by simp) (by simpa using hi) (I0.push (d := .cell a) (v := .ref a) rfl)
  refine h σ.length hi H _ H [] _ (by simp) I1 ⟨fun ss σ' H' _ I c => ?_, fun v s H' I c => ?_, fun ss σ' H' _ I c => c.elim, fun ss σ' H' _ I c => c.elim⟩
  · exact q .non .non H' I.rel I.w rfl c
  · cases s with
    | val d => exact q v d H' I.rel I.w ((I.val List.mem_cons_self).less fun a z => .inl z) c
    | un => exact c.elim
    | own xs => exact c.elim
theorem new_out {S : Addr → Prop} {H : Hp} {p : Addr} {o : HO} (lv : Live S H) (hp : H p = none) : ¬ S p ∧ Rel S H (upd H p o) ∧ (∀ a, S a → upd H p o a = H a) ∧ Ext H (upd H p o) := by
  have hn : ¬ S p := fun z => by
    obtain ⟨o, e, _⟩ := lv p z
    rw [hp] at e; cases e
  exact ⟨hn, (Ext.new hp).rel, fun a z => upd_ne (fun e => hn (e ▸ z)), Ext.new hp⟩
/-- return [text, e.value] -/
theorem suite_field {i : Nat} {a : Addr} {x fl : Str} {CN : Addr} {cls : Value} {d : Option Addr} {v0 : D} {y : Exc} {D0 : Ends} (hD : D0.rt = Q) (hi : i < σ.length) (lv : Live S H) (ry : RepX K S H y cls d) (hc : y.cls = CN) (hn : y.ns = [fl]) (hd : y.ds = [v0])
    (q : ∀ z dd H2, Rel S H H2 → (∀ a, S a → H2 a = H a) → Rep K S H2 dd z → C dd → Q z H2) (c : C (.lst [.str x, v0])) :
    tRet (tLst (tCons (tC (.str x)) (tCons (tBy1 CN fl a cls d (tVar i)) tNil))) (unb i D0) (σ.set i (some (.ref a))) H := by
  obtain ⟨e1, e2⟩ := ry
  rw [hn] at e2
  rcases e2 with e2 | ⟨dd, fs, e3, e4, e5, e6⟩
  · cases e2
  obtain ⟨v, rfl⟩ : ∃ v, fs = [(fl, v)] := by
    match fs, e5 with
    | [(f, v)], e5 =>
      have : f = fl := by simpa using e5
      exact ⟨v, by rw [this]⟩
  rw [hd] at e6
  obtain ⟨v', ws, e7, rv, e8⟩ := e6
  have e7 : [v] = v' :: ws := e7
  cases e7
  refine ⟨.ref a, by simp [hi], rfl, by rw [e1, hc], dd, v, e3, e4, (by show 2 ≤ sizeLine; decide), fun p hp => ?_⟩
  obtain ⟨h1, h2, h3, h4⟩ := new_out (o := .lst [.str x, v]) lv hp
  show D0.rt _ _
  rw [hD]
  exact q _ (.lst [.str x, v0]) _ h2 h3 ⟨p, [.str x, v], rfl, h1, upd_same, Reps.cons (d := .str x) rfl ((Reps.one rv).ext h4)⟩ c
end
end SQ
/-! defs of the law: called where nothing is being shown, their code object is known -/
namespace SQ
open PySem PySem.Spec PyProof.Rows L2
/-- a def's promise, kept where nothing is being shown -/
structure FnG (P : Program) (w : World) (K : PySem.W.Frag) (mg : Str → Option Value) (base : Heap) (k : Nat) (f : Addr) (fd : FuncData) (ps : List Str) (sp : Sp) : Prop where
  len : ∀ vs H Q E, sp vs H Q E → vs.length = ps.length
  go : ∀ (A : Around) (outer : List PySem.Env) (s : Shared) (H : Hp) (args : Args) (us : List Value) (vs : List V) (Q : VK) (E : XK), A.guards = some [] → Room k A → Env0 P w K mg base A outer s H →
    BindsTo s fd args (ps.zip us) → Vals vs us → sp vs H Q E → codeAny (model P w) A (.call (.ref f) args) (CR CX0 outer P w H s Q E) s
/-- the def stands there, c is its code object -/
structure FunC (K : PySem.W.Frag) (x : Str) (st : Stmt) (f : Addr) (fd : FuncData) (c : Addr) : Prop where
  ex : ∃ (oc : Value) (od : Option Addr) (kV doc pm : Value) (an : Option Addr) (ct : Value) (osl : Array (Option Value)),
    fd = PySem.W.fnOf x x (defArgs st) (defBody st) (defScope st) .none kV doc pm an (.ref c) ct ∧ K.lookup f = some ⟨oc, od, .func fd, osl⟩ ∧ PySem.W.codeIn K (.ref c) x = true
  kp : PySem.W.keepIn K (.ref f) = true
structure CalG (P : Program) (w : World) (K : PySem.W.Frag) (mg : Str → Option Value) (base : Heap) (k : Nat) (x : Str) (sp : Sp) : Prop where
  ex : ∃ (f : Addr) (fd : FuncData) (ps : List Str), FnG P w K mg base k f fd ps sp ∧ mg x = some (.ref f) ∧ PySem.W.keepIn K (.ref f) = true ∧ Binds K fd ps []
abbrev CFG (P : Program) (w : World) (K : PySem.W.Frag) (mg : Str → Option Value) (base : Heap) (k : Nat) (x : Str) (F : Fn) : Prop := CalG P w K mg base k x (spF K F)
section
variable {P : Program} {w : World} {K : PySem.W.Frag} {mg : Str → Option Value} {base : Heap} {x : Str} {st : Stmt} {f c : Addr} {fd : FuncData} {N ps : List Str} {k : Nat} {F : Fn}
theorem fng_of (Df : FunC K x st f fd c) (S : FnScope N ps (defScope st)) (len : ∀ B ds C X, F B ds C X → ds.length = ps.length)
    (body : ∀ (A : Around) (outer : List PySem.Env) (s : Shared) (H : Hp) (E : XK), A.guards = some [] → Room k (A.deeper (envOfC x (defScope st) s.heap.objs.size f (.ref c))) →
      ∃ t, PSs (cxOf CX0 P w K mg base N x (defScope st) f (.ref c) A outer s H E).nox (defBody st) t ∧ ∀ (Γ : Cxt) (ds : List D) (C : D → Prop), F (sc Γ) ds C Γ.X → wpS K Γ t (ss0 ds N.length) (en0 C)) : FnG P w K mg base (k + 1) f fd ps (spF K F) := by
  obtain ⟨oc, od, kV, doc, pm, an, ct, osl, rfl, lk, hcd⟩ := Df.ex
  have hlen : ∀ vs H Q E, spF K F vs H Q E → vs.length = ps.length := fun vs H Q E h => by
    obtain ⟨Γ, ds, C, _, _, r, h, _⟩ := h
    rw [← r.length, len _ _ _ _ h]
  refine ⟨hlen, fun A outer s H args us vs Q E hg hr e0 hb r h => ?_⟩
  refine LamX.run_ofS lk hcd S hr e0 hb r (hlen _ _ _ _ h) fun hr' => ?_
  obtain ⟨t, ht, hw⟩ := body A outer s H E hg hr'
  exact ⟨t, ht.nox, run_def h fun Γ ds C _ f => hw Γ ds C f⟩
theorem cfg_of (Df : FunC K x st f fd c) (hm : mg x = some (.ref f)) (hb : Binds K fd ps []) (S : FnScope N ps (defScope st)) (len : ∀ B ds C X, F B ds C X → ds.length = ps.length)
    (body : ∀ (A : Around) (outer : List PySem.Env) (s : Shared) (H : Hp) (E : XK), A.guards = some [] → Room k (A.deeper (envOfC x (defScope st) s.heap.objs.size f (.ref c))) →
      ∃ t, PSs (cxOf CX0 P w K mg base N x (defScope st) f (.ref c) A outer s H E).nox (defBody st) t ∧ ∀ (Γ : Cxt) (ds : List D) (C : D → Prop), F (sc Γ) ds C Γ.X → wpS K Γ t (ss0 ds N.length) (en0 C)) : CFG P w K mg base (k + 1) x F :=
  ⟨f, fd, ps, fng_of Df S len body, hm, Df.kp, hb⟩
end
section
variable {X : Cx} {k j : Nat} {x : Str} {sp : Sp} {p pos : Pos} {e : Expr} {es : List Expr} {t : TA}
/-- such a def is called -/
theorem pe_g (c : CalG X.prog X.w X.K X.mg X.base k x sp) (hr : Room j X.A) (hk : k ≤ j) (hu : X.A.guards = some []) (hg : Gl X x) (ha : PA X (e :: es) t)
    (hdb : (x == ("__debug__" : Str)) = false := by decide) (he : starEach (e :: es) X.env = (false, eval e X.env) :: starEach es X.env := by rfl) (hpl : (backTo pos (starEach es X.env)).any (·.1) = false := by rfl) :
    PE X (.Call (.Name x p) (e :: es) [] pos) (tCall sp [] E0 t) := by
  obtain ⟨f, fd, ps, F, hm, kp, b⟩ := c.ex
  constructor
  intro pins s σ H Q I h
  apply wpAny_Call_Name_kw
  refine ld_glob I hg hm ?_ hdb
  refine PySem.W.callWith_K (h₀ := X.base) I.ok.mod.kin kp (thn (ha.run pos pins s σ H _ I h) ?_) he hpl
  rintro us s1 ⟨vs, H1, I1, r, q⟩
  refine ⟨I1.kIn, ?_⟩
  have q : sp (vs ++ []) H1 Q E0 := q
  rw [List.append_nil] at q
  have hl : us.length = ps.length := by rw [← r.length]; exact F.len _ _ _ _ q
  have hb := b s1 us I1.kIn (by rw [List.append_nil]; exact hl)
  rw [List.append_nil] at hb
  refine wpAny_call (codeAny_mono (F.go X.A X.stack s1 H1 ⟨us, []⟩ us vs Q E0 hu (hr.mono hk) I1.env0 hb r q) ?_)
  rintro (e' | fl) s2 hq
  · exact (show False from hq).elim
  · cases fl with
    | ret u => exact I1.after hq
    | _ => exact (show False from hq).elim
end
end SQ
/-! repr of trees, where nothing else is being shown -/
namespace SQ
open PySem PySem.Spec PyProof.Rows L2
def keyD : Key → PyData
  | .inl i => .int i
  | .inr x => .str x
mutual
def rp : D → PyData
  | .non => .none
  | .bl b => .bool b
  | .int i => .int i
  | .str x => .str x
  | .tup xs => .tuple (rps xs)
  | .lst xs => .list (rps xs)
  | .dk ks ds => .dict ((ks.map keyD).zip (rps ds))
  | _ => .none
def rps : List D → List PyData
  | [] => []
  | d :: ds => rp d :: rps ds
end
mutual
/-- can be shown: the numbers are not too long -/
def rok : D → Bool
  | .non => true
  | .bl _ => true
  | .int i => decide (i.natAbs < 10 ^ 45)
  | .str x => x.cps.toList.all fun c => decide (c < 16 ^ 8)
  | .tup xs => roks xs
  | .lst xs => roks xs
  | .dk ks ds => (ks.all fun k => match k with | .inl i => decide (i.natAbs < 10 ^ 45) | .inr x => x.cps.toList.all fun c => decide (c < 16 ^ 8)) && roks ds
  | _ => false
def roks : List D → Bool
  | [] => true
  | d :: ds => rok d && roks ds
end
mutual
/-- no list within -/
def nl : D → Bool
  | .lst _ => false
  | .tup xs => nls xs
  | .dk _ ds => nls ds
  | _ => true
def nls : List D → Bool
  | [] => true
  | d :: ds => nl d && nls ds
end
theorem keyIs_reads {h : Heap} {P : Program} {w : World} (k : Key) (v : Value) (e : (mixKind P w).is k v = true) : Reads h v (keyD k) [] := by
  rcases keyIs_shape (k := k) (v := v) e with ⟨i, t, rfl, rfl⟩ | ⟨x, t, rfl, rfl⟩
  · exact Reads.int i t
  · exact Reads.str x t
theorem kv_reads {h : Heap} : ∀ (kws : List (Key × V)) (vs : List (Key × Value)) (ds : List PyData) (as : List Addr), KV kws vs → ReadsAll h (vs.map (·.2)) ds as →
    PyProof.V.PairsRead h keyD vs (((kws.map (·.1)).map keyD).zip ds) as
  | [], _, ds, as, r, q => by
    cases r
    cases q
    exact .nil
  | p :: ps, _, ds, as, r, q => by
    cases r with
    | @cons _ p' _ ps' r1 r2 =>
      cases q with
      | cons q1 q2 =>
        obtain ⟨k, v⟩ := p'
        obtain ⟨e1, _⟩ := r1
        have e1 : p.1 = k := e1
        subst e1
        exact .cons q1 (kv_reads ps ps' _ _ r2 q2)
theorem kv_vals : ∀ {kws : List (Key × V)} {vs : List (Key × Value)}, KV kws vs → Vals (kws.map (·.2)) (vs.map (·.2))
  | [], _, r => by cases r; exact .nil
  | p :: ps, _, r => by
    cases r with
    | cons r1 r2 => exact .cons r1.2 (kv_vals r2)
section
variable {X : Cx} {pins : List (Addr × Obj)} {σ : L2.St} {H : Hp} {s : Shared} {S : Addr → Prop}
mutual
theorem Rep.reads (I : Inv X pins σ H s) : ∀ (d : D) (v : V) (u : Value), rok d = true → Rep X.K S H d v → RelV v u → ∃ as, Reads s.heap u (rp d) as ∧ (nl d = true → sysModules ∉ as)
  | .non, v, u, _, h, r => by have h : v = .non := h; subst h; cases r; exact ⟨_, Reads.none, fun _ => by simp⟩
  | .bl b, v, u, _, h, r => by have h : v = .bl b := h; subst h; cases r; exact ⟨_, Reads.bool b, fun _ => by simp⟩
  | .int i, v, u, _, h, r => by have h : v = .int i := h; subst h; obtain ⟨t, rfl⟩ := r; exact ⟨_, Reads.int i t, fun _ => by simp⟩
  | .str x, v, u, _, h, r => by have h : v = .str x := h; subst h; obtain ⟨t, rfl⟩ := r; exact ⟨_, Reads.str x t, fun _ => by simp⟩
  | .tup xs, v, u, k, h, r => by
    obtain ⟨a, vs, rfl, t, q⟩ := h
    cases r
    obtain ⟨its, rv, ⟨o, ho, hc, n, hd⟩, _⟩ := I.tuple t
    obtain ⟨as, hr, hn⟩ := Reps.reads I xs vs its k q rv
    exact ⟨_, Reads.tuple ho hc hd hr, hn⟩
  | .lst xs, v, u, k, h, r => by
    obtain ⟨a, vs, rfl, _, t, q⟩ := h
    cases r
    obtain ⟨its, rv, ⟨o, n, ho, hc, _, hd⟩, _⟩ := I.list (.inl (.inl t))
    obtain ⟨as, hr, hn⟩ := Reps.reads I xs vs its k q rv
    exact ⟨_, Reads.list ho hc hd hr, fun z => by cases z⟩
  | .dk ks ds, v, u, k, h, r => by
    obtain ⟨a, kws, rfl, _, t, e, q⟩ := h
    cases r
    have k : (_ && roks ds) = true := k
    rw [Bool.and_eq_true] at k
    obtain ⟨_, hs, vs, kv, dd⟩ := dk_of I.hok t
    obtain ⟨as, hr, hn⟩ := Reps.reads I ds _ _ k.2 q (kv_vals kv)
    have pr := kv_reads kws vs _ _ kv hr
    rw [e] at pr
    refine ⟨_, PyProof.V.reads_dictOf (fun k key z => keyIs_reads k key z) dd pr, fun z m => ?_⟩
    rcases List.mem_cons.mp m with m | m
    · exact absurd m.symm (beq_eq_false_iff_ne.mp hs)
    · exact hn z m
  | .cell _, _, _, k, _, _ => by cases k
  | .scr _, _, _, k, _, _ => by cases k
  | .ty _, _, _, k, _, _ => by cases k
  | .ins _ _ _, _, _, k, _, _ => by cases k
theorem Reps.reads (I : Inv X pins σ H s) : ∀ (ds : List D) (vs : List V) (us : List Value), roks ds = true → Reps X.K S H ds vs → Vals vs us → ∃ as, ReadsAll s.heap us (rps ds) as ∧ (nls ds = true → sysModules ∉ as)
  | [], vs, us, _, h, r => by have h : vs = [] := h; subst h; cases r; exact ⟨_, ReadsAll.nil, fun _ => by simp⟩
  | d :: ds, vs, us, k, h, r => by
    obtain ⟨v, ws, rfl, a, b⟩ := h
    have k : (rok d && roks ds) = true := k
    rw [Bool.and_eq_true] at k
    cases r with
    | cons r1 r2 =>
      obtain ⟨as, q1, n1⟩ := Rep.reads I d v _ k.1 a r1
      obtain ⟨bs, q2, n2⟩ := Reps.reads I ds ws _ k.2 b r2
      refine ⟨_, ReadsAll.cons q1 q2, fun z m => ?_⟩
      have z : (nl d && nls ds) = true := z
      rw [Bool.and_eq_true] at z
      rcases List.mem_append.mp m with m | m
      · exact n1 z.1 m
      · exact n2 z.2 m
end
end
end SQ
/-! repr of trees: the rule -/
namespace SQ
open PySem PySem.Spec PyProof.Rows L2
theorem int_short {i : Int} (h : i.natAbs < 10 ^ 45) : (PyData.shown (.int i)).length ≤ 60 := by
  have q : (toString i).length ≤ 46 := int_text_length_le10 (k := 45) (by decide) h
  have z : (PyData.shown (.int i)).length = (toString i).length := PySem.ofString_length _
  omega
theorem int_showable {i : Int} (h : i.natAbs < 10 ^ 45) : i.natAbs.log2 < 1920 := by
  by_cases e : i.natAbs = 0
  · rw [e]; decide
  · have : i.natAbs < 2 ^ 1920 := Nat.lt_of_lt_of_le h (by decide +kernel)
    exact (Nat.log2_lt e).mpr this
theorem kv_show : ∀ (ks : List Key) (ds : List PyData), (ks.all fun k => match k with | .inl i => decide (i.natAbs < 10 ^ 45) | .inr x => x.cps.toList.all fun c => decide (c < 16 ^ 8)) = true → PyData.showableAll ds = true → PyData.leavesShortAll 60 ds = true →
    PyData.showableKv ((ks.map keyD).zip ds) = true ∧ PyData.leavesShortKv 60 ((ks.map keyD).zip ds) = true
  | [], _, _, _, _ => ⟨rfl, rfl⟩
  | _ :: _, [], _, _, _ => ⟨rfl, rfl⟩
  | k :: ks, d :: ds, h, h1, h2 => by
    have h1 : (d.showable && PyData.showableAll ds) = true := h1
    have h2 : (d.leavesShort 60 && PyData.leavesShortAll 60 ds) = true := h2
    rw [List.all_cons] at h
    rw [Bool.and_eq_true] at h h1 h2
    obtain ⟨a, b⟩ := kv_show ks ds h.2 h1.2 h2.2
    have hk : (keyD k).showable = true ∧ (keyD k).leavesShort 60 = true := by
      cases k with
      | inl i =>
        have hi : i.natAbs < 10 ^ 45 := of_decide_eq_true h.1
        exact ⟨decide_eq_true (int_showable hi), decide_eq_true (int_short hi)⟩
      | inr x => exact ⟨rfl, h.1⟩
    refine ⟨?_, ?_⟩
    · show ((keyD k).showable && d.showable && PyData.showableKv ((ks.map keyD).zip ds)) = true
      rw [hk.1, h1.1, a]; rfl
    · show ((keyD k).leavesShort 60 && d.leavesShort 60 && PyData.leavesShortKv 60 ((ks.map keyD).zip ds)) = true
      rw [hk.2, h2.1, b]; rfl
mutual
theorem rok_show : ∀ d : D, rok d = true → (rp d).showable = true ∧ (rp d).leavesShort 60 = true
  | .non, _ => ⟨rfl, rfl⟩
  | .bl _, _ => ⟨rfl, rfl⟩
  | .int i, h => by
    have hi : i.natAbs < 10 ^ 45 := of_decide_eq_true h
    exact ⟨decide_eq_true (int_showable hi), decide_eq_true (int_short hi)⟩
  | .str x, h => ⟨rfl, h⟩
  | .tup xs, h => roks_show xs h
  | .lst xs, h => roks_show xs h
  | .dk ks ds, h => by
    have h : (_ && roks ds) = true := h
    rw [Bool.and_eq_true] at h
    obtain ⟨a, b⟩ := roks_show ds h.2
    exact kv_show ks _ h.1 a b
theorem roks_show : ∀ ds : List D, roks ds = true → PyData.showableAll (rps ds) = true ∧ PyData.leavesShortAll 60 (rps ds) = true
  | [], _ => ⟨rfl, rfl⟩
  | d :: ds, h => by
    have h : (rok d && roks ds) = true := h
    rw [Bool.and_eq_true] at h
    obtain ⟨a, b⟩ := rok_show d h.1
    obtain ⟨a', b'⟩ := roks_show ds h.2
    refine ⟨?_, ?_⟩
    · show ((rp d).showable && PyData.showableAll (rps ds)) = true
      rw [a, a']; rfl
    · show ((rp d).leavesShort 60 && PyData.leavesShortAll 60 (rps ds)) = true
      rw [b, b']; rfl
end
theorem shown_small {d : D} (h : rok d = true) (hw : (rp d).weight ≤ 200000) : (rp d).shown.length ≤ sizeLine := by
  have := PyData.shown_le 60 (by decide) (rp d) (rok_show d h).2
  have e : sizeLine = 16777216 := by decide
  omega
/-- a list whose items can be shown -/
theorem shows_lst {P : Program} {w : World} {hp : Heap} {a : Addr} {ob : Obj} {its : Array Value} {m : Nat} {ys : List PyData} {bs : List Addr} (g1 : hp.get? a = some ob) (g2 : ob.cls = .type "list") (g3 : ob.data = .seq its m) (g4 : ReadsAll hp its.toList ys bs)
    (sh : PyData.showableAll ys = true) (no : PyData.hasDictAll ys = true → sysModules ∉ bs) (sz : (PyData.list ys).shown.length ≤ sizeLine) : ShowsBy P w hp a (.list ys) "list" "list.__repr__" := by
  have sz2 : (listText (PyData.shownAll ys)).length ≤ sizeLine := by
    simpa only [PyData.shown] using sz
  obtain ⟨cs, deep, each⟩ := ReprAllK.of_readsAll (prog := P) (w := w) g4 sh no fun t ht => Nat.le_trans (listText_mem_le ht) sz2
  have nin : a ∉ cs := not_mem_of_deeper (.list g1 g2 g3 g4) (Nat.lt_succ_self _) deep
  refine ⟨F.slot_list_repr.toG, F.slot_list_str, F.slot_list_format, fun s kp => ⟨ob, kp _ _ g1, g2⟩, ?_⟩
  intro A E s Q gd un kp fin
  have un2 : A.units + (PyData.depthAll ys + 1) < cLine := un
  have fin2 : ∀ h' u tk, (∀ b o, s.heap.get? b = some o → h'.get? b = some o) → Q (.str (listText (PyData.shownAll ys)) u) { s with heap := h', toks := tk } := by
    simpa only [PyData.shown] using fin
  obtain ⟨l⟩ := its
  cases l with
  | nil =>
    have g4 : ReadsAll hp [] ys bs := g4
    cases g4
    have fin3 := fin2
    simp only [PyData.shownAll, listText_nil] at fin3
    exact call_list_repr_empty ⟨ob, kp _ _ g1, g2⟩ (kp _ _ g1) g3 (fin3 s.heap _ _ fun _ _ e => e)
  | cons y l =>
    refine call_list_reprK (d := PyData.depthAll ys) g1 g2 g3 nin ?_ (fun i z e => ?_) gd (fun b _ => Clear.nil b) ?_ kp fin2 sz2
    · simpa using each.length_eq
    · exact each.item i z (by simpa using e)
    · exact un2
/-- repr([..]) -/
def rRepr (K : PySem.W.Frag) : List V → Hp → VK → Prop := fun xs H Q => ∃ (S : Addr → Prop) (v : V) (ys : List D), xs = [v] ∧ Rep K S H (.lst ys) v ∧ roks ys = true ∧ (nls ys = true ∨ PyData.hasDictAll (rps ys) = false) ∧
  (PyData.list (rps ys)).weight ≤ 200000 ∧ PyData.depthAll (rps ys) ≤ 60 ∧ Q (.str (rp (.lst ys)).shown) H
theorem cr_repr {X : Cx} (hu : X.A.guards = some []) {k : Nat} (hr : Room k X.A) : CallR X (.builtin "repr") (rRepr X.K) := by
  intro pins s σ H xs us Q I r h
  obtain ⟨S, v, ys, rfl, rd, ok, nd, hw, hd, q⟩ := h
  obtain ⟨u, rfl, r1⟩ := vals1 r
  obtain ⟨a, vs, rfl, _, t, qs⟩ := rd
  have r1 : u = .ref a := r1
  subst r1
  obtain ⟨its, rv, ⟨o, n, ho, hc, _, hs⟩, _⟩ := I.list (.inl (.inl t))
  obtain ⟨as, g4, hn⟩ := Reps.reads I ys vs its ok qs rv
  have sb : ShowsBy X.prog X.w s.heap a (.list (rps ys)) "list" "list.__repr__" := shows_lst ho hc hs g4 (roks_show ys ok).1 (fun z => by
    rcases nd with nd | nd
    · exact hn nd
    · rw [nd] at z; cases z) (shown_small (d := .lst ys) ok hw)
  have hun := hr.un
  refine call_repr_slot (by omega) (sb.typeIs s fun _ _ e => e) sb.slotRepr (sb.call X.A.in1 _ s _ hu ?_ (fun _ _ e => e) fun h' tk tk' kp => ?_)
  · show X.A.units + 1 + (PyData.depthAll (rps ys) + 1) < cLine
    omega
  · exact ⟨_, _, rfl, .str _, H, I.kept kp, ⟨_, rfl⟩, q⟩
section
variable {K : PySem.W.Frag} {C : D → Prop} {ys : List D}
theorem wpB_repr (ok : roks ys = true) (nd : nls ys = true ∨ PyData.hasDictAll (rps ys) = false) (hw : (PyData.list (rps ys)).weight ≤ 200000) (hd : PyData.depthAll (rps ys) ≤ 60) (c : C (.str (rp (.lst ys)).shown)) : wpB K (rRepr K) [.lst ys] C := fun S H vs lv r Q q => by
  obtain ⟨v, ws, rfl, a, b⟩ := r
  have b : ws = [] := b
  subst b
  exact ⟨S, v, ys, rfl, a, ok, nd, hw, hd, q _ (.str _) H (Ext.refl H) rfl c⟩
theorem wpR_neS {x y : Str} (c : C (.bl (!(x == y)))) : wpR K rNe (.str x) (.str y) C := fun S H v w l rx ry Q q => by
  have e1 : v = .str x := rx
  have e2 : w = .str y := ry
  subst e1 e2
  refine ⟨rfl, ?_⟩
  rw [dec_str]
  exact q _ (.bl _) H (Ext.refl H) rfl c
theorem wpR_eqS {x y : Str} (c : C (.bl (x == y))) : wpR K rEq (.str x) (.str y) C := fun S H v w l rx ry Q q => by
  have e1 : v = .str x := rx
  have e2 : w = .str y := ry
  subst e1 e2
  refine ⟨rfl, ?_⟩
  rw [dec_str]
  exact q _ (.bl _) H (Ext.refl H) rfl c
end
end SQ
/-! a lambda handed over, by the def that makes it -/
namespace SQ
open PySem PySem.Spec PyProof.Rows L2
def lamQ (x : Str) : Str := x ++ ".<locals>." ++ "<lambda>"
/-- the def that takes the lambda stands -/
structure Giv (K : PySem.W.Frag) (mg : Str → Option Value) (x : Str) (st : Stmt) (a : Str) : Prop where
  ex : ∃ (g : Addr) (fd : FuncData), Fun K x x st g fd ∧ mg x = some (.ref g) ∧ Binds K fd [a] []
section
variable {X : Cx} {T : List (Addr × Str)} {outs : Value → Option Addr → Hp → VK → Prop} {x a : Str} {c P : Addr} {j : Nat} {st : Stmt} {Ng : List Str} {params : Arguments} {body : Expr} {scope : Scope} {t : XK → TE} {p lpos pos : Pos}
theorem pe_lam (k : Nat) (q : Str) (sc0 : Scope) (hq : X.env.qual = q ++ ".<locals>.") (hsc : X.env.scope = sc0) (G : Giv X.K X.mg x st a) (Sg : FnScope Ng [a] (defScope st)) (hNg : Ng[0]? = some a) (hva : Vis (defScope st) a) (hG : ∀ (g : Addr) (cdg : Value), LamX.GivesTo X Ng x (defScope st) g cdg (defBody st) a (lamQ q) (tOut outs))
    (TB : LamX.TabB X.base X.mg c P) (hcode : X.env.code = .ref c) (hmT : (P, lamQ q) ∈ T) (hu : ∀ p ∈ T, p.1 = P → p.2 = lamQ q) (hr : Room j X.A) (hk : k + 2 ≤ j) (hg : Gl X x) (L : LamX.LamS sc0 scope) (hdef : defaultsOf params X.env = ([], []))
    (hbind : ∀ (q : Str) (cl : List (Str × Addr)) (pm cv ctv : Value), bindArgs (PySem.W.kla_fn "<lambda>" q params body scope cl pm cv ctv) ⟨[], []⟩ = pure [])
    (hbody : ∀ (A : Around) (outer : List PySem.Env) (s : Shared) (H : Hp) (E : XK) (f c' : Addr), Room k (A.deeper (LamX.lamEnv X scope s.heap.objs.size f c')) → PE (LamX.lamCx X A outer s H E scope f c') body (t E))
    (hdb : (x == ("__debug__" : Str)) = false := by decide) (hd : (a == ("__debug__" : Str)) = false := by decide) (hcd : (a == ("__classdict__" : Str)) = false := by decide) :
    PE X (.Call (.Name x p) [.Lambda params body scope lpos] [] pos) (LamX.tLam T (tOut outs) t) := by
  subst hsc
  have eq : X.env.qual ++ "<lambda>" = lamQ q := by rw [hq]; rfl
  rw [← eq] at hmT
  simp only [← eq] at hG hu
  obtain ⟨g, fd, Df, hm, hb⟩ := G.ex
  obtain ⟨oc, od, kV, doc, pm, an, cdv, ct, osl, rfl, lk, hcg⟩ := Df.ex
  exact LamX.pe_lamcall hg hm Df.kp lk hcg hb Sg hNg hva (hG g cdv) TB hcode hmT hu (hr.mono hk) L hdef hbind hbody hdb hd hcd
end
def rIsNotB : R2 := fun x y H Q => ∃ a b, x = .bl a ∧ y = .bl b ∧ Q (.bl (!decide (a = b))) H
theorem op_notB {X : Cx} : OpR X (compareOp .IsNot) rIsNotB := op_isnot_bl
def rIsB' : R2 := fun x y H Q => ∃ a b, x = .bl a ∧ y = .bl b ∧ Q (.bl (decide (a = b))) H
theorem op_isB {X : Cx} : OpR X (compareOp .Is) rIsB' := op_is_bl
section
variable {K : PySem.W.Frag} {C : D → Prop} {a b : Bool}
theorem wpR_notB (c : C (.bl (!(a == b)))) : wpR K rIsNotB (.bl a) (.bl b) C := fun S H v w l rx ry Q q => by
  have e1 : v = .bl a := rx
  have e2 : w = .bl b := ry
  subst e1 e2
  refine ⟨a, b, rfl, rfl, q _ (.bl _) H (Ext.refl H) rfl ?_⟩
  cases a <;> cases b <;> exact c
theorem wpR_isB (c : C (.bl (a == b))) : wpR K rIsB' (.bl a) (.bl b) C := fun S H v w l rx ry Q q => by
  have e1 : v = .bl a := rx
  have e2 : w = .bl b := ry
  subst e1 e2
  refine ⟨a, b, rfl, rfl, q _ (.bl _) H (Ext.refl H) rfl ?_⟩
  cases a <;> cases b <;> exact c
end
theorem cr_reprK {X : Cx} {K : PySem.W.Frag} (hu : X.A.guards = some []) {k : Nat} (hr : Room k X.A) (h : X.K = K := by rfl) : CallR X (.builtin "repr") (rRepr K) := by subst h; exact cr_repr hu hr
end SQ
/-! trees of ints can be shown -/
namespace SQ
open PySem PySem.Spec PyProof.Rows L2
@[simp] theorem rok_bl {b : Bool} : rok (.bl b) = true := rfl
@[simp] theorem rok_non : rok .non = true := rfl
@[simp] theorem rok_tup {xs : List D} : rok (.tup xs) = roks xs := rfl
@[simp] theorem rok_lst {xs : List D} : rok (.lst xs) = roks xs := rfl
@[simp] theorem rok_int {i : Int} : rok (.int i) = decide (i.natAbs < 10 ^ 45) := rfl
@[simp] theorem roks_nil : roks [] = true := rfl
@[simp] theorem roks_cons {d : D} {ds : List D} : roks (d :: ds) = (rok d && roks ds) := rfl
@[simp] theorem nl_bl {b : Bool} : nl (.bl b) = true := rfl
@[simp] theorem nl_non : nl .non = true := rfl
@[simp] theorem nl_str {b : Str} : nl (.str b) = true := rfl
@[simp] theorem nl_int {b : Int} : nl (.int b) = true := rfl
@[simp] theorem nl_tup {xs : List D} : nl (.tup xs) = nls xs := rfl
@[simp] theorem nls_nil : nls [] = true := rfl
@[simp] theorem nls_cons {d : D} {ds : List D} : nls (d :: ds) = (nl d && nls ds) := rfl
@[simp] theorem rps_nil : rps [] = [] := rfl
@[simp] theorem rps_cons {d : D} {ds : List D} : rps (d :: ds) = rp d :: rps ds := rfl
@[simp] theorem rp_bl {b : Bool} : rp (.bl b) = .bool b := rfl
@[simp] theorem rp_non : rp .non = .none := rfl
@[simp] theorem rp_int {b : Int} : rp (.int b) = .int b := rfl
@[simp] theorem rp_str {b : Str} : rp (.str b) = .str b := rfl
@[simp] theorem rp_tup {xs : List D} : rp (.tup xs) = .tuple (rps xs) := rfl
@[simp] theorem rp_lst {xs : List D} : rp (.lst xs) = .list (rps xs) := rfl
theorem roks_ints {ns : List Int} (h : ∀ n ∈ ns, n.natAbs < 10 ^ 45) : roks (ns.map .int) = true := by
  induction ns with
  | nil => rfl
  | cons n r ih =>
    have a := ih fun m hm => h m (List.mem_cons_of_mem _ hm)
    have b := h n List.mem_cons_self
    show (rok (.int n) && roks (r.map .int)) = true
    rw [a, Bool.and_true]
    exact decide_eq_true b
theorem nls_ints : ∀ ns : List Int, nls (ns.map .int) = true
  | [] => rfl
  | n :: r => by
    show (nl (.int n) && nls (r.map .int)) = true
    rw [nls_ints r]; rfl
theorem weight_int {i : Int} (h : i.natAbs < 10 ^ 45) : (PyData.int i).weight ≤ 151 := by
  show (if i == 0 then 0 else i.natAbs.log2 + 1) ≤ 151
  split
  · omega
  · rename_i e
    have e : i.natAbs ≠ 0 := by simpa using e
    have : i.natAbs < 2 ^ 150 := Nat.lt_of_lt_of_le h (by decide +kernel)
    have := (Nat.log2_lt e).mpr this
    omega
theorem weight_ints {ns : List Int} (h : ∀ n ∈ ns, n.natAbs < 10 ^ 45) : PyData.weightAll (rps (ns.map .int)) ≤ 152 * ns.length := by
  induction ns with
  | nil => exact Nat.zero_le _
  | cons n r ih =>
    have a := ih fun m hm => h m (List.mem_cons_of_mem _ hm)
    have b := weight_int (h n List.mem_cons_self)
    show (PyData.int n).weight + 1 + PyData.weightAll (rps (r.map .int)) ≤ 152 * (r.length + 1)
    omega
theorem depth_ints : ∀ ns : List Int, PyData.depthAll (rps (ns.map .int)) = 0
  | [] => rfl
  | n :: r => by
    show max (PyData.int n).depth (PyData.depthAll (rps (r.map .int))) = 0
    rw [depth_ints r]; rfl
theorem heads_bound {M : Int} : ∀ (ns : List Int) (t : Int), 0 ≤ t → (∀ n ∈ ns, 0 ≤ n ∧ n ≤ M) → ∀ x ∈ heads t ns, 0 ≤ x ∧ x ≤ t + ns.length * M
  | [], _, _, _, x, hx => by simp [heads] at hx
  | n :: r, t, ht, h, x, hx => by
    have hn := h n List.mem_cons_self
    have hM : 0 ≤ M := by omega
    have hr : (0 : Int) ≤ r.length * M := Int.mul_nonneg (by omega) hM
    have e : ((n :: r).length : Int) * M = r.length * M + M := by
      rw [List.length_cons]; push_cast; rw [Int.add_mul, Int.one_mul]
    rcases List.mem_cons.mp hx with rfl | hx
    · omega
    · have := heads_bound r (t + n) (by omega) (fun m hm => h m (List.mem_cons_of_mem _ hm)) x hx
      omega
theorem sum_bound {M : Int} : ∀ (ns : List Int), (∀ n ∈ ns, 0 ≤ n ∧ n ≤ M) → 0 ≤ ns.sum ∧ ns.sum ≤ ns.length * M
  | [], _ => by simp
  | n :: r, h => by
    have hn := h n List.mem_cons_self
    have := sum_bound r fun m hm => h m (List.mem_cons_of_mem _ hm)
    have e : ((n :: r).length : Int) * M = r.length * M + M := by
      rw [List.length_cons]; push_cast; rw [Int.add_mul, Int.one_mul]
    rw [List.sum_cons]
    omega
theorem pyk_lst {n : Nat} {xs : List D} : pyk (n + 1) (.lst xs) = pyks n xs := rfl
theorem pyk_tup {n : Nat} {xs : List D} : pyk (n + 1) (.tup xs) = pyks n xs := rfl
theorem pyks_cons {n : Nat} {d : D} {xs : List D} : pyks n (d :: xs) = (pyk n d && pyks n xs) := by
  cases n <;> rfl
theorem pyks_nil {n : Nat} : pyks n [] = true := by
  cases n <;> rfl
theorem pyk_int {n : Nat} {i : Int} : pyk n (.int i) = true := by
  cases n <;> rfl
theorem pyk_bl {n : Nat} {i : Bool} : pyk n (.bl i) = true := by
  cases n <;> rfl
end SQ
/-! the end: the law is called where nothing is being shown, with tables of code objects -/
namespace SQ
open PySem PySem.Spec PyProof.Rows L2
/-- the script's list as it lies -/
abbrev lobj (us : List Value) : Obj := { cls := .type "list", data := .seq us.toArray }
abbrev tob : Obj := { cls := .none, data := .fields #[] }
/-- what is tracked at the start: the tables, the script if it is not one of the text's own lists -/
def hp0 (K : PySem.W.Frag) (ts : List Addr) (a : Addr) (us : List Value) (ns : List Int) : Hp := fun b =>
  if b ∈ ts then some (.tbl #[]) else if b = a ∧ (K.lookup a).isNone = true then some (.frz (lobj us) (.lst (ns.map V.int))) else none
section
variable {K : PySem.W.Frag} {ts : List Addr} {a b : Addr} {us : List Value} {ns : List Int}
theorem hp0_tab (h : b ∈ ts) : hp0 K ts a us ns b = some (.tbl #[]) := if_pos h
theorem hp0_cases (h : hp0 K ts a us ns b ≠ none) : b ∈ ts ∨ (b ∉ ts ∧ b = a ∧ K.lookup a = none ∧ hp0 K ts a us ns b = some (.frz (lobj us) (.lst (ns.map V.int)))) := by
  by_cases h1 : b ∈ ts
  · exact .inl h1
  · refine .inr ⟨h1, ?_⟩
    unfold hp0 at h ⊢
    rw [if_neg h1] at h ⊢
    by_cases h2 : b = a ∧ (K.lookup a).isNone = true
    · rw [if_pos h2]
      exact ⟨h2.1, by simpa using h2.2, rfl⟩
    · rw [if_neg h2] at h
      exact absurd rfl h
end
theorem call_end {P : Program} {w : World} {K : PySem.W.Frag} {mg mb : Str → Option Value} {k : Nat} {fa a : Addr} {cs : List (Addr × Addr)} {fd : FuncData} {x : Str} {sp : Sp} {s : Shared} {us : List Value} {ns : List Int}
    (kin : K.In s.heap) (gm : s.heap.Ns mainGlobals mg) (gb : s.heap.Ns builtinsNs mb) (boot : ∀ x : Str, x ≠ "__name__" → mb x = bootBuiltins x) (lim : s.heap.NoLimit) (gens : s.gens = #[])
    (tab : ∀ p ∈ cs, s.heap.get? p.2 = some tob) (ntab : ∀ p ∈ cs, K.lookup p.2 = none) (cod : ∀ p ∈ cs, PySem.W.codeHdIn K p.1 p.2 = true)
    (bmn : ∃ (bm : Addr) (ob : Obj), mg "__builtins__" = some (.ref bm) ∧ bm ≠ builtinsNs ∧ s.heap.get? bm = some ob ∧ ob.cls = .type "module" ∧ ob.dict = some builtinsNs ∧ ob.data = .plain)
    (scr : s.heap.get? a = some (lobj us)) (hin : IntsAre us ns) (len : ns.length ≤ sizeLine) (room : Room k callerA)
    (F : ∀ base : Heap, K.In base → base.Ns mainGlobals mg → (∀ p ∈ cs, LamX.TabB base mg p.1 p.2) → FnG P w K mg base k fa fd [x] sp) (bind : ∀ (s : Shared) (u : Value), BindsTo s fd ⟨[u], []⟩ [(x, u)])
    (pre : ∀ H : Hp, (∀ p ∈ cs, H p.2 = some (.tbl #[])) → SqL K H a (ns.map V.int) → sp [.ref a] H (fun v _ => v = .bl true) E0) :
    codeAny (model P w) callerA (.call (.ref fa) ⟨[.ref a], []⟩) (fun r s' => r = .ok (.ret (.bool true)) ∧ OldK s.heap s'.heap ∧ s'.os = s.os ∧ AllBare s'.gens) s := by
  have vals := vals_ints hin
  have tabs : ∀ b ∈ cs.map (·.2), s.heap.get? b = some tob ∧ K.lookup b = none := by
    intro b hb
    obtain ⟨p, hp, rfl⟩ := List.mem_map.mp hb
    exact ⟨tab p hp, ntab p hp⟩
  have off : a ∉ cs.map (·.2) := by
    intro hb
    have e := (tabs a hb).1
    rw [scr] at e
    have e := congrArg Obj.cls (Option.some.inj e)
    cases e
  generalize hH : hp0 K (cs.map (·.2)) a us ns = H
  have Htab : ∀ b ∈ cs.map (·.2), H b = some (.tbl #[]) := fun b hb => by rw [← hH]; exact hp0_tab hb
  have Hcase : ∀ b, H b ≠ none → b ∈ cs.map (·.2) ∨ (b ∉ cs.map (·.2) ∧ b = a ∧ K.lookup a = none ∧ H b = some (.frz (lobj us) (.lst (ns.map V.int)))) := fun b hb => by
    subst hH
    exact hp0_cases hb
  -- what stands there and is neither a table nor the script is not tracked
  have out : ∀ {b : Addr} {o : Obj}, s.heap.get? b = some o → o ≠ tob → o ≠ lobj us → H b = none := by
    intro b o e n1 n2
    cases q : H b with
    | none => rfl
    | some u =>
      rcases Hcase b (by rw [q]; simp) with z | ⟨_, rfl, _, _⟩
      · rw [(tabs b z).1] at e
        exact absurd (Option.some.inj e).symm n1
      · rw [scr] at e
        exact absurd (Option.some.inj e).symm n2
  have isdict : ∀ {b : Addr} {m : Str → Option Value}, s.heap.Ns b m → (hidT s.heap H).Ns b m := by
    rintro b m ⟨o, es, ep, e, d, rest⟩
    refine ⟨o, es, ep, hidT_get e (out e ?_ ?_), d, rest⟩ <;> (intro z; rw [z] at d; cases d)
  have kbase : K.In (hidT s.heap H) := by
    intro b o e
    refine hidT_get (kin b o e) ?_
    cases q : H b with
    | none => rfl
    | some u =>
      rcases Hcase b (by rw [q]; simp) with z | ⟨_, rfl, z, _⟩
      · rw [(tabs b z).2] at e; cases e
      · rw [z] at e; cases e
  have held : HOk P w H s.heap := by
    intro b u e
    rcases Hcase b (by rw [e]; simp) with z | ⟨_, rfl, _, z⟩
    · rw [Htab b z] at e
      cases e
      exact (tabs b z).1
    · rw [z] at e
      cases e
      refine ⟨scr, ?_, us, _, vals, scr⟩
      rw [List.length_map]; exact len
  have list : SqL K H a (ns.map V.int) := by
    cases q : K.lookup a with
    | none =>
      refine .inl (.inr ⟨lobj us, ?_⟩)
      rw [← hH]
      unfold hp0
      rw [if_neg off, if_pos ⟨rfl, by rw [q]; rfl⟩]
    | some o =>
      have e := kin a o q
      rw [scr] at e
      cases e
      exact .inr ⟨_, us.toArray, _, q, rfl, rfl, rfl, by simpa [vals.length.symm] using len, by simpa using vals⟩
  have tb : ∀ p ∈ cs, LamX.TabB (hidT s.heap H) mg p.1 p.2 := by
    intro p hp
    refine ⟨PySem.W.codeHd_of_K kbase (cod p hp), ?_, ?_⟩
    · obtain ⟨bm, ob, b1, b2, b3, b4, b5, b6⟩ := bmn
      refine ⟨bm, ob, b1, b2, ?_, ?_, hidT_get b3 (out b3 ?_ ?_), b4, b5, b6⟩
      · rintro rfl
        obtain ⟨o, es, ep, e, d, _⟩ := gm
        rw [b3] at e; cases e
        rw [b6] at d; cases d
      · intro z
        have e := tab p hp
        rw [← z, b3] at e
        cases e
        cases b4
      · rintro rfl; cases b4
      · rintro rfl; cases b6
    · intro z
      obtain ⟨o, es, ep, e, d, _⟩ := gm
      rw [z, tab p hp] at e
      cases e
      cases d
  have env : Env0 P w K mg (hidT s.heap H) callerA [] s H := by
    refine ⟨rfl, ⟨kbase, isdict gm, ⟨mb, isdict gb, boot⟩, ?_⟩, fun b o e => of_hidT e, Nat.le_of_eq (hidT_size _ _), trivial, fun b z => (List.not_mem_nil z).elim, held, .of_eq gens⟩
    obtain ⟨mc, l1, l2⟩ := lim
    exact ⟨mc, isdict l1, l2⟩
  have run := (F _ kbase (isdict gm) tb).go callerA [] s H ⟨[.ref a], []⟩ [.ref a] [.ref a] (fun v _ => v = .bl true) E0 rfl room env (bind s (.ref a)) (.cons rfl .nil) (pre H (fun p hp => Htab _ (List.mem_map.mpr ⟨p, hp, rfl⟩)) list)
  refine codeAny_mono run ?_
  rintro (e | fl) s' r
  · exact (show False from r).elim
  cases fl with
  | ret u =>
    obtain ⟨v, H', same, bare, un, held', rv, rfl⟩ := r
    have rv : u = .bool true := rv
    subst rv
    have grown : ∀ b ∈ cs.map (·.2), ∃ more : Array Value, s'.heap.get? b = some { cls := .none, data := .fields more } := by
      intro b hb
      obtain ⟨more, z⟩ := un.tbls b #[] (Htab b hb)
      exact ⟨_, held' b _ z⟩
    have stays : ∀ b o, b ∉ cs.map (·.2) → s.heap.get? b = some o → s'.heap.get? b = some o := by
      intro b o nb e
      cases q : H b with
      | none => exact un.keep b o e q List.not_mem_nil List.not_mem_nil
      | some u =>
        rcases Hcase b (by rw [q]; simp) with z | ⟨_, rfl, _, z⟩
        · exact absurd z nb
        · have h1 := (held b _ z).1
          have h2 := (held' b _ (un.frzs b _ _ z)).1
          rw [e] at h1
          rw [h2, h1]
    refine ⟨rfl, ⟨fun b o e => ?_, fun b o e => ?_⟩, same, bare⟩
    · by_cases hb : b ∈ cs.map (·.2)
      · obtain ⟨more, hm⟩ := grown b hb
        obtain ⟨p, hp, rfl⟩ := List.mem_map.mp hb
        rw [tab p hp] at e
        cases e
        have ct := ((PySem.W.codeHd_of_K kin (cod p hp)).tab (tab p hp)).isCodeTable
        exact .inr (.inl ⟨ct, rfl, #[], more, rfl, by rw [Array.empty_append]; exact hm⟩)
      · exact .inl (stays b o hb e)
    · by_cases hb : b ∈ cs.map (·.2)
      · obtain ⟨more, hm⟩ := grown b hb
        exact ⟨_, hm⟩
      · exact ⟨o, stays b o hb e⟩
  | _ => exact (show False from r).elim
end SQ
namespace SQ
open PySem PySem.Spec PyProof.Rows L2
/-- what the head's facts must give -/
structure Ends (P : Program) (w : World) (k n : Nat) (x : Str) (mg : Str → Option Value) (fa : Addr) (h : Heap) : Prop where
  ex : ∃ (K : PySem.W.Frag) (fd : FuncData) (cs : List (Addr × Addr)) (sp : Sp), K.In h ∧ (∀ p ∈ cs, h.get? p.2 = some tob) ∧ (∀ p ∈ cs, K.lookup p.2 = none) ∧ (∀ p ∈ cs, PySem.W.codeHdIn K p.1 p.2 = true) ∧
    (∀ (s : Shared) (u : Value), BindsTo s fd ⟨[u], []⟩ [(x, u)]) ∧
    (∀ (H : Hp) (a : Addr) (ns : List Int), ns.length ≤ n → (∀ z ∈ ns, Builtin.Int.intBits z ≤ 1048576) → (∀ p ∈ cs, H p.2 = some (.tbl #[])) → SqL K H a (ns.map V.int) → sp [.ref a] H (fun v _ => v = .bl true) E0) ∧
    ∀ base : Heap, K.In base → base.Ns mainGlobals mg → (∀ p ∈ cs, LamX.TabB base mg p.1 p.2) → FnG P w K mg base k fa fd [x] sp
theorem walk_end {l : PySem.W.OpenLaw} {n k : Nat} {q : Program} {loose : List Str} {XP : (Str → Option Value) → Heap → Prop} {YP : World → Heap → Prop} {d : DefRec} {x : Str}
    (most : l.most = some n) (fits : n ≤ sizeLine) (nodef : d.params.defaults = []) (room : Room k callerA)
    (F : ∀ (w : World) (mg : Str → Option Value) (fa : Addr) (h : Heap), YP w h → h.Ns mainGlobals mg → mg d.name = some (.ref fa) → Ends l.prog w k n x mg fa h) :
    PySem.W.WalkO q loose XP YP l.row.toRowW d [] (fun f vs => PySem.call f vs) := by
  apply Att.attach_callB most nodef
  intro w s0 s1 mg mb fa o pm cd doc a us ns gr yp _ _ _ at_ lies hin hl bits gens
  obtain ⟨K, fd, cs, sp, kin, tab, ntab, cod, bind, pre, run⟩ := (F w mg fa _ yp gr.T.g at_).ex
  exact call_end kin gr.T.g gr.T.b gr.T.builtins gr.T.nolimit gens tab ntab cod gr.T.bmain lies hin (Nat.le_trans hl fits) room run bind fun H t s => pre H a ns hl bits t s
/-- the scene at the start -/
def cx0 (T : List (Addr × Str)) : Cxt := ⟨fun a => a ∈ T.map (·.1), fun H => LamX.Tabs T H, fun _ _ _ => False, fun _ => False⟩
theorem cx0_ok (T : List (Addr × Str)) : (cx0 T).Ok := by
  refine ⟨fun H w a z => ?_, fun H H' w same ext => ?_⟩
  · obtain ⟨p, hp, rfl⟩ := List.mem_map.mp z
    obtain ⟨ps, e, _, _⟩ := w p hp
    exact ⟨_, e, trivial⟩
  · intro p hp
    obtain ⟨ps, e, t, c⟩ := w p hp
    refine ⟨ps, (same _ (List.mem_map.mpr ⟨p, hp, rfl⟩)).trans e, t, fun pos cv z => ?_⟩
    obtain ⟨c', e1, e2⟩ := c pos cv z
    exact ⟨c', e1, ext c' _ e2⟩
theorem cx0_tb (T : List (Addr × Str)) : Tb (cx0 T).W T := ⟨fun H w => w, fun H H' _ _ t => t⟩
/-- the law's promise at the start -/
theorem law_pre {K : PySem.W.Frag} {F : Fn} {T : List (Addr × Str)} {H : Hp} {a : Addr} {ns : List Int} (tb : ∀ p ∈ T, H p.1 = some (.tbl #[])) (sl : SqL K H a (ns.map V.int)) (h : F (sc (cx0 T)) [.scr ns] (fun d => d = .bl true) fun _ => False) :
    spF K F [.ref a] H (fun v _ => v = .bl true) E0 := by
  refine ⟨cx0 T, [.scr ns], fun d => d = .bl true, cx0_ok T, fun p hp => LamX.TabS.nil (tb p hp), ⟨.ref a, [], rfl, ⟨a, rfl, ?_⟩, rfl⟩, h, fun v d H2 _ _ r c => ?_, fun x cls d H2 _ _ _ z => z.elim⟩
  · rcases sl with sl | sl
    · refine .inl ⟨fun z => ?_, sl⟩
      obtain ⟨p, hp, rfl⟩ := List.mem_map.mp z
      rcases sl with e | ⟨o, e⟩ <;> (rw [tb p hp] at e; cases e)
    · exact .inr (.inr sl)
  · subst c
    exact r
end SQ
/-! facts of the top, as the head tells them -/
namespace SQ
open PySem PySem.Spec PyProof.Rows L2
structure DefF (K : PySem.W.Frag) (mg : Str → Option Value) (x : Str) (st : Stmt) (ps : List Str) : Prop where
  ex : ∃ (f : Addr) (fd : FuncData), Fun K x x st f fd ∧ mg x = some (.ref f) ∧ Binds K fd ps []
structure DefC (K : PySem.W.Frag) (mg : Str → Option Value) (x : Str) (st : Stmt) (ps : List Str) (c : Addr) : Prop where
  ex : ∃ (f : Addr) (fd : FuncData), FunC K x st f fd c ∧ mg x = some (.ref f) ∧ Binds K fd ps [] ∧ ∀ us : List Value, us.length = ps.length → bindArgs fd ⟨us, []⟩ = pure (ps.zip us)
section
variable {K : PySem.W.Frag} {mg : Str → Option Value} {h : Heap} {x : Str} {st : Stmt} {ps : List Str} {f c : Addr} {oc kV doc pm cdv ct : Value} {od an : Option Addr} {osl : Array (Option Value)}
theorem defF (X : K.In h) (G : h.Ns mainGlobals mg) (a : PySem.W.nsIn K mainGlobals x = some (some (.ref f))) (l : K.lookup f = some ⟨oc, od, .func (PySem.W.fnOf x x (defArgs st) (defBody st) (defScope st) .none kV doc pm an cdv ct), osl⟩)
    (cd : PySem.W.codeIn K cdv x = true) (k : PySem.W.keepIn K (.ref f) = true)
    (b : ∀ (kV doc pm : Value) (an : Option Addr) (cdv ct : Value) (us : List Value), us.length = ps.length → bindArgs (PySem.W.fnOf x x (defArgs st) (defBody st) (defScope st) .none kV doc pm an cdv ct) ⟨us, []⟩ = pure (ps.zip us)) : DefF K mg x st ps := by
  have F : Fun K x x st f (PySem.W.fnOf x x (defArgs st) (defBody st) (defScope st) .none kV doc pm an cdv ct) := ⟨⟨oc, od, kV, doc, pm, an, cdv, ct, osl, rfl, l, cd⟩, k⟩
  exact ⟨f, _, F, PySem.W.mg_of X G a, F.binds b⟩
theorem defC (X : K.In h) (G : h.Ns mainGlobals mg) (a : PySem.W.nsIn K mainGlobals x = some (some (.ref f))) (l : K.lookup f = some ⟨oc, od, .func (PySem.W.fnOf x x (defArgs st) (defBody st) (defScope st) .none kV doc pm an (.ref c) ct), osl⟩)
    (cd : PySem.W.codeIn K (.ref c) x = true) (k : PySem.W.keepIn K (.ref f) = true)
    (b : ∀ (kV doc pm : Value) (an : Option Addr) (cdv ct : Value) (us : List Value), us.length = ps.length → bindArgs (PySem.W.fnOf x x (defArgs st) (defBody st) (defScope st) .none kV doc pm an cdv ct) ⟨us, []⟩ = pure (ps.zip us)) : DefC K mg x st ps c := by
  have F : Fun K x x st f (PySem.W.fnOf x x (defArgs st) (defBody st) (defScope st) .none kV doc pm an (.ref c) ct) := ⟨⟨oc, od, kV, doc, pm, an, .ref c, ct, osl, rfl, l, cd⟩, k⟩
  exact ⟨f, _, ⟨⟨oc, od, kV, doc, pm, an, ct, osl, rfl, l, cd⟩, k⟩, PySem.W.mg_of X G a, F.binds b, b _ _ _ _ _ _⟩
theorem own0 {C : Addr} (X : K.In h) (G : h.Ns mainGlobals mg) {B newId initId : String} {bm : List Value} (F : ExcBaseFacts B newId initId bm) (a : PySem.W.nsIn K mainGlobals x = some (some (.ref C))) (e : PySem.W.excIn K C bm newId = true) (k : PySem.W.keepIn K (.ref C) = true)
    (h1 : PySem.W.subIn K (.ref C) (.type "BaseException") = some true) (h2 : PySem.W.typeIn K (.ref C) = some (.type "type")) : Own0 K mg x C := ⟨⟨B, newId, initId, bm, F, e⟩, PySem.W.mg_of X G a, k, h1, h2⟩
theorem ownX {C fI : Addr} {fl : Str} (X : K.In h) (G : h.Ns mainGlobals mg) {B newId initId : String} {tl : List Value} (F : ExcBaseFacts B newId initId tl) (SF : StoreFacts B tl "object.__setattr__" "object") (nm : Ow.Nm fl)
    {qn : Str} {p1 p2 q1 q2 q3 q4 : Pos}
    (a : PySem.W.nsIn K mainGlobals x = some (some (.ref C))) (iC : PySem.W.findIn K (.ref C) "__init__" = some (some (.ref fI))) (l : K.lookup fI = some ⟨oc, od, .func (PySem.W.fnOf "__init__" qn (Ow.iA fl p1 p2) (Ow.iB fl q1 q2 q3 q4) (Ow.iS fl) .none .none doc pm an cdv ct), osl⟩) (cd : PySem.W.codeIn K cdv qn = true)
    (ini : PySem.W.excInitIn K C tl newId = true) (ovr : PySem.W.excOver K C tl = true) (tak : PySem.W.takerIn K C fl = some none) (sa : PySem.W.findIn K (.ref C) "__setattr__" = some (some (.builtin "object.__setattr__")))
    (ga : PySem.W.findIn K (.ref C) "__getattribute__" = some (some (.builtin "BaseException.__getattribute__"))) (gg : PySem.W.findIn K (.ref C) "__getattr__" = some none) (noN : PySem.W.findIn K (.ref C) fl = some none)
    (tC : PySem.W.typeIn K (.ref fI) = some (.type "function")) (kC : PySem.W.keepIn K (.ref C) = true) (exC : PySem.W.subIn K (.ref C) (.type "BaseException") = some true) (tyC : PySem.W.typeIn K (.ref C) = some (.type "type")) (hdC : PySem.W.hasDictIn K C = true) : OwnX K mg x fl C :=
  ⟨⟨fI, B, newId, initId, tl, ⟨PySem.W.mg_of X G a, ini, ovr, tak, sa, ga, gg, noN, iC, tC, kC, exC, tyC, hdC, ⟨oc, od, doc, pm, an, cdv, ct, osl, qn, p1, p2, q1, q2, q3, q4, l, cd⟩⟩, F, SF⟩, nm⟩
end
end SQ
/-! enumerate of a tuple -/
namespace SQ
open PySem PySem.Spec PyProof.Rows L2
open Sem (wp)
abbrev enObj (it : Addr) (k : Int) : Obj := { cls := .type "enumerate", data := .fields #[.none, .bool false, .ref it, rawInt k, .none, .none] }
theorem meets_enum1 {v : Value} {ob : Obj} {Z : Heap → Prop} (B : Begins v ob Z) : Meets (Builtin.«enumerate.__new__» ⟨[.type "enumerate", v], []⟩)
    (fun _ R s => Z s.heap ∧ R (.ok (.ret (.ref (s.heap.push ob).objs.size))) { s with heap := (s.heap.push ob).push (enObj s.heap.objs.size 0) }) := by
  refine .of_wp fun prog w A R s z => ?_
  obtain ⟨hp, gs, dr, tk, os⟩ := s
  obtain ⟨z1, z2⟩ := z
  have sub := sub_enumerate
  have go : ∀ {A' : Around} {E : Value → Shared → Prop} {Q : Value → Shared → Prop}, Q (.ref hp.objs.size) ⟨hp.push ob, gs, dr, tk, os⟩ →
      wpAny (model prog w) A' (pyIter v) Q E ⟨hp, gs, dr, tk, os⟩ := fun q => B.iter prog w _ _ ⟨hp, gs, dr, tk, os⟩ _ z1 q
  wp_walk using go
  refine wpAny_stack_any fun st => wpAny_pure ?_
  split
  · rename_i c _ _ _ _ _
    cases (c == Value.type "enumerate") <;> (wp_walk using go; exact ⟨_, rfl, z2⟩)
  · wp_walk using go
    exact ⟨_, rfl, z2⟩
section
variable {prog : Program} {w : World} {A : Around} {E : Value → Shared → Prop} {s : Shared}
theorem enum1 {v : Value} {ob : Obj} {Z : Heap → Prop} {Q : Value → Shared → Prop} (B : Begins v ob Z) (z : Z s.heap)
    (k : ∀ h', IsEnum h' (s.heap.objs.size + 1) s.heap.objs.size 0 .none → h'.get? s.heap.objs.size = some ob → (∀ b o, s.heap.get? b = some o → h'.get? b = some o) → Q (.ref (s.heap.objs.size + 1)) { s with heap := h' }) :
    wpAny (model prog w) A (call (.type "enumerate") [v]) Q E s := by
  refine callType_new F.called_enumerate (by decide) (F.typeCall_enumerate_1 _) (F.newCall_enumerate_1 _) (fun obj => F.args_object_init_2 obj _) F.entry_enumerate_new (meets_enum1 B) ⟨z, ?_⟩
  have sz : (s.heap.push ob).objs.size = s.heap.objs.size + 1 := Heap.size_push ..
  have e1 : ((s.heap.push ob).push (enObj s.heap.objs.size 0)).get? (s.heap.push ob).objs.size = some (enObj s.heap.objs.size 0) := Heap.get?_push_size _ rfl
  rw [sz] at e1
  show _ ∧ _
  rw [sz]
  refine ⟨⟨_, e1, rfl⟩, k _ e1 ?_ fun b o x => Heap.get?_push_of_some _ (Heap.get?_push_of_some _ x)⟩
  exact Heap.get?_push_of_some _ (Heap.get?_push_size _ B.free)
end
/-- the tuple at a, each item in a new pair with its place -/
def IteT (K : PySem.W.Frag) (a : Addr) : It :=
  ⟨fun i H => ∃ (xs : List V) (x : V), SqT K H a xs ∧ xs[i]? = some x,
   fun i H v H' => ∃ T x, v = .ref T ∧ H T = none ∧ H' = upd H T (.tup [.int (i : Nat), x]) ∧ ∀ xs, SqT K H a xs → xs[i]? = some x,
   fun i H => ∃ xs : List V, SqT K H a xs ∧ xs.length = i⟩
theorem turn_enumT {P : Program} {w : World} {K : PySem.W.Frag} {elts : List Expr} {kk : Nat} {tpos : Pos} (a e it : Addr) :
    Turn P w K (.Tuple elts kk tpos) (IteT K a) [e, it] e (fun i h => (∃ old, IsEnum h e it ((i : Nat) : Int) old) ∧ h.IsTupleIter it a i ∧ e ≠ it ∧ e ≠ a ∧ a ≠ it) where
  mem := List.mem_cons_self
  obj := by
    rintro i h ⟨⟨old, he⟩, ⟨o, ho, _, hd⟩, _⟩ b hb
    rcases List.mem_cons.mp hb with rfl | hb
    · exact ⟨_, he, fun v q => by cases q⟩
    · obtain rfl := List.mem_singleton.mp hb
      exact ⟨o, ho, fun v q => by rw [hd] at q; cases q⟩
  keep := by
    rintro i h h' ⟨⟨old, he⟩, hi, r⟩ k
    exact ⟨⟨old, k e List.mem_cons_self _ he⟩, hi.at fun o q => k it (List.mem_cons_of_mem _ List.mem_cons_self) o q, r⟩
  item := by
    intro X hP hw hK hc i pins s σ H E I hf st hg
    subst hP hw hK
    obtain ⟨⟨old, he⟩, hit, hne, hea, hai⟩ := st
    obtain ⟨xs, x, hq, hx⟩ := hg
    obtain ⟨its, rv, p, hz⟩ := I.tuple hq
    have p : s.heap.IsTuple a its.toArray := p
    obtain ⟨u, hu, ru⟩ := rv.get hx
    have lt1 : e < s.heap.objs.size := Heap.lt_size he
    have lt2 : it < s.heap.objs.size := by
      obtain ⟨_, q, _⟩ := hit
      exact Heap.lt_size q
    have D : Draws X.prog X.w X.A.in1 it [it, a] its.toArray.size (fun i v => its.toArray[i]? = some v) (fun i h => h.IsTupleIter it a i ∧ h.IsTuple a its.toArray) := Draws.tuple (show X.A.in1.handled = none from I.ok.hd hc) it a hai its.toArray
    have hi : i < its.toArray.size := by
      have := (List.getElem?_eq_some_iff.mp hu).1
      simpa using this
    refine wpAny_pyNext_enum_itemD D he ⟨hit, p⟩ hi hne (by simp [hne, hea]) fun y h' tk hy out st' tup size keep => ?_
    have hy : y = u := by
      have hu' : its.toArray[i]? = some u := by simpa using hu
      rw [hu'] at hy
      exact (Option.some.inj hy).symm
    subst hy
    refine ⟨_, rfl, wpAny_letOwnedTupleGo_enum (s := { s with heap := h', toks := tk + 1 }) out fun h'' back same => ?_⟩
    have tup2 : h''.get? s.heap.objs.size = some { cls := .type "tuple", data := .seq #[.int i tk, y] } := (same.2 _ (Nat.ne_of_gt lt1)).trans tup
    have new : ObjOk X.prog X.w (upd H s.heap.objs.size (.tup [.int (i : Nat), x])) h'' s.heap.objs.size (.tup [.int (i : Nat), x]) := by
      refine ⟨?_, [.int i tk, y], .cons ⟨_, rfl⟩ (.cons ru .nil), ⟨_, tup2, rfl, _, rfl⟩⟩
      show 2 ≤ sizeLine
      decide
    have I1 : Inv X pins σ (upd H s.heap.objs.size (.tup [.int (i : Nat), x])) { s with heap := h'', toks := tk + 1 } := by
      refine I.turnedNew (ch := [e, it]) (fun b ob hb q => ?_) hf (Nat.le_refl _) new
      have n1 : b ≠ e := fun z => hb (by simp [z])
      have n2 : b ≠ it := fun z => hb (by simp [z])
      exact (same.2 b n1).trans (keep b ob n1 n2 q)
    refine ⟨.ref s.heap.objs.size, _, I1, rfl, ⟨_, x, rfl, I.hok.fresh (Nat.le_refl _), rfl, fun ys hy => ?_⟩, ⟨⟨y, ?_⟩, ?_, hne, hea, hai⟩, fun b hb => ?_⟩
    · rw [I.tuple_inj hy hq]; exact hx
    · have z : ((i + 1 : Nat) : Int) = (i : Int) + 1 := rfl
      rw [z]; exact back
    · exact st'.1.at fun o q => (same.2 it (Ne.symm hne)).trans q
    · have : b < s.heap.objs.size := by
        rcases List.mem_cons.mp hb with rfl | hb
        · exact lt1
        · obtain rfl := List.mem_singleton.mp hb
          exact lt2
      rw [upd_ne (Nat.ne_of_lt this)]
      exact (hf b hb).1
  done := by
    intro X hP hw hK hc i pins s σ H E I hf st hg
    subst hP hw hK
    obtain ⟨⟨old, he⟩, hit, hne, hea, hai⟩ := st
    obtain ⟨xs, hq, hx⟩ := hg
    obtain ⟨its, rv, p, hz⟩ := I.tuple hq
    have p : s.heap.IsTuple a its.toArray := p
    have hn : i = its.toArray.size := by
      have := rv.length
      simp; omega
    have D : Draws X.prog X.w X.A.in1 it [it, a] its.toArray.size (fun i v => its.toArray[i]? = some v) (fun i h => h.IsTupleIter it a i ∧ h.IsTuple a its.toArray) := Draws.tuple (show X.A.in1.handled = none from I.ok.hd hc) it a hai its.toArray
    obtain ⟨f0, f1, f2, f3, f4, f5⟩ := hf it (List.mem_cons_of_mem _ List.mem_cons_self)
    refine wpAny_pyNext_enum_endD D he ⟨hn ▸ hit, p⟩ fun h' but => ?_
    exact ⟨rfl, I.turned (t' := s.toks) (fun b o hb q => but b o hb q) f0 f1 f3 f4 f5⟩
  self := by
    rintro A i s Q E ⟨⟨old, he⟩, _⟩ h
    exact wpAny_pyIter_enum he h
def iEnumT (K : PySem.W.Frag) (ta : TA) : TI := fun σ H R => ta σ H fun vs H1 => ∃ a xs, vs = [.ref a] ∧ SqT K H1 a xs ∧ R (IteT K a) H1
theorem pi_enumT {X : Cx} {e : Expr} {ta : TA} {p pos tpos : Pos} {elts : List Expr} {kk : Nat} (hg : Gl X "enumerate") (hm : X.mg "enumerate" = none) (ha : PA X [e] ta) (hs : starEach [e] X.env = [(false, eval e X.env)] := by rfl) :
    PI X (.Tuple elts kk tpos) (.Call (.Name "enumerate" p) [e] [] pos) (iEnumT X.K ta) := by
  constructor
  intro pins s σ H R I h
  refine Call_ (ld_blt I hg hm boot_enumerate (PyProof.Rows.callWith_type1 (thn (ha.run pos pins s σ H _ I h) ?_) hs rfl))
  rintro us s1 ⟨vs, H1, I1, r1, a, xs, rfl, hq, q⟩
  obtain ⟨u, rfl, r⟩ := vals1 r1
  have r : u = .ref a := r
  subst r
  obtain ⟨its, rv, p', hz⟩ := I1.tuple hq
  have p' : s1.heap.IsTuple a its.toArray := p'
  have la : a < s1.heap.objs.size := by
    obtain ⟨_, q, _⟩ := id p'
    exact Heap.lt_size q
  refine enum1 (begins_tuple a its.toArray) p' fun h' he hit hk => wpAny_pyIter_enum he ?_
  refine ⟨s1.heap.objs.size + 1, [s1.heap.objs.size + 1, s1.heap.objs.size], _, _, H1, rfl, I1.kept (t' := s1.toks) hk, turn_enumT a (s1.heap.objs.size + 1) s1.heap.objs.size, ?_, fun b hb => ?_, q⟩
  · exact ⟨⟨.none, he⟩, ⟨_, hit, rfl, rfl⟩, Nat.succ_ne_self _, Nat.ne_of_gt (Nat.lt_succ_of_lt la), Nat.ne_of_lt la⟩
  · have hle : s1.heap.objs.size ≤ b := by
      rcases List.mem_cons.mp hb with rfl | hb
      · omega
      · obtain rfl := List.mem_singleton.mp hb
        omega
    exact I1.fpOk hle (I1.hok.fresh hle)
end SQ
/-! enumerate of a tuple, over trees; divmod; a list's greatest -/
namespace SQ
open PySem PySem.Spec PyProof.Rows L2
section
variable {K : PySem.W.Frag} {Γ : Cxt} {ss : List Sl} {xs : List D}
theorem walks_enumT {a : Addr} : Walks K Γ (IteT K a) (enumD 0 xs) [(.val (.tup xs), some (.ref a))] := fun H0 H ps I m => by
  obtain ⟨a', vs, e, h, r⟩ := I.val (m _ List.mem_cons_self)
  cases e
  refine ⟨fun i d hd => ?_, ⟨vs, h, by rw [enumD_length, ← r.length]⟩⟩
  obtain ⟨x, hx, rfl⟩ := enumD_get _ hd
  obtain ⟨v, hv, rv⟩ := r.get hx
  refine ⟨⟨vs, v, h, hv⟩, fun z H' y => ?_⟩
  obtain ⟨T, v1, rfl, hT, rfl, y1⟩ := y
  obtain rfl : v = v1 := Option.some.inj (hv.symm.trans (y1 vs h))
  rw [Nat.zero_add]
  exact I.newTup hT (.cons rfl (.cons rv .nil))
theorem wpI_enumT {ta : TA} {C : List D → Prop} (h : wpA K Γ ta ss fun ds => ∃ xs, ds = [.tup xs] ∧ C (enumD 0 xs)) : wpI K Γ (iEnumT K ta) ss C := fun H0 σ H τ hl I R k =>
  h H0 σ H τ hl I _ fun vs ds H1 hd J c => by
    obtain ⟨xs, rfl, c⟩ := c
    match vs, hd with
    | [v], _ =>
      obtain ⟨a, us, rfl, t, r⟩ := J.val (d := .tup xs) List.mem_cons_self
      exact ⟨a, us, rfl, t, k _ H1 _ [(.val (.tup xs), some (.ref a))] (J.perm (List.perm_middle (l₁ := ss.zip σ) (a := (Sl.val (D.tup xs), some (V.ref a)))).symm) walks_enumT c⟩
end
theorem pi_enumTK {X : Cx} {K : PySem.W.Frag} {e : Expr} {ta : TA} {p pos tpos : Pos} {elts : List Expr} {kk : Nat} (hg : Gl X "enumerate") (hm : X.mg "enumerate" = none) (ha : PA X [e] ta) (h : X.K = K := by rfl) (hs : starEach [e] X.env = [(false, eval e X.env)] := by rfl) :
    PI X (.Tuple elts kk tpos) (.Call (.Name "enumerate" p) [e] [] pos) (iEnumT K ta) := by subst h; exact pi_enumT hg hm ha hs
theorem pi_enumLK {X : Cx} {K : PySem.W.Frag} {e : Expr} {ta : TA} {p pos tpos : Pos} {elts : List Expr} {kk : Nat} (hg : Gl X "enumerate") (hm : X.mg "enumerate" = none) (ha : PA X [e] ta) (h : X.K = K := by rfl) (hs : starEach [e] X.env = [(false, eval e X.env)] := by rfl) :
    PI X (.Tuple elts kk tpos) (.Call (.Name "enumerate" p) [e] [] pos) (iEnum K ta) := by subst h; exact pi_enum hg hm ha hs
end SQ
/-! a def's own list is read; while; pop; a list's greatest; divmod -/
namespace SQ
open PySem PySem.Spec PyProof.Rows L2
section
variable {K : PySem.W.Frag} {Γ : Cxt} {ss : List Sl} {xs : List D} {C : D → Prop} {te : TE} {e : En} {i : Nat}
/-- xs[e], xs the def's own list -/
theorem wpE_ixOwn (h : ss[i]? = some (.own xs)) (k : wpE K Γ te ss fun y => ∃ j d, y = .int j ∧ atI xs j = some d ∧ C d) : wpE K Γ (tOp (rIx K) (tVar i) te) ss C := fun H0 σ H τ hl I Q q => by
  obtain ⟨a, ha, _⟩ := Env.ownAt (qs := []) hl h I
  refine ⟨.ref a, ha, k H0 σ H τ hl I _ fun y dy H2 J c => ?_⟩
  obtain ⟨j, d, rfl, hd, c⟩ := c
  have ry : y = .int j := J.val List.mem_cons_self
  subst ry
  obtain ⟨vs, hv, rv⟩ := J.drop.own (a := a) (xs := xs) (List.mem_append_left _ (zip_get h ha))
  have hl2 := rv.length
  obtain ⟨n, h1, h2⟩ := Option.bind_eq_some_iff.mp (show (ixN xs.length j).bind (fun m => xs[m]?) = some d from hd)
  obtain ⟨v, hz, rd⟩ := rv.get h2
  have hav : atI vs j = some v := by
    show (ixN vs.length j).bind (fun m => vs[m]?) = some v
    rw [← hl2, h1]; exact hz
  exact .inl ⟨a, vs, j, v, rfl, rfl, .inl (.inl hv), hav, q v d H2 (J.drop.push rd) c⟩
/-- len(xs), xs the def's own list -/
theorem wpE_lenOwn (h : ss[i]? = some (.own xs)) (c : C (.int xs.length)) : wpE K Γ (tCB (bLen K) (tCons (tVar i) tNil)) ss C := fun H0 σ H τ hl I Q q => by
  obtain ⟨a, ha, _⟩ := Env.ownAt (qs := []) hl h I
  obtain ⟨vs, hv, rv⟩ := I.own (a := a) (xs := xs) (List.mem_append_left _ (zip_get h ha))
  refine ⟨.ref a, ha, .ref a, vs.length, rfl, ?_, ?_⟩
  · exact .inl ⟨vs, .inl (.inl hv), rfl⟩
  · rw [← rv.length]
    exact q _ (.int xs.length) H (I.push (d := .int xs.length) rfl) c
/-- xs.pop(), what it hands back is dropped -/
theorem wpS_popOwn (h : ss[i]? = some (.own xs)) (hx : xs ≠ []) (k : e.nx (ss.set i (.own xs.dropLast))) : wpS K Γ (tDrop (tBM0 K "list" rPop (tVar i))) ss e := fun H0 σ H τ D hl I kk => by
  obtain ⟨a, ha, _⟩ := Env.ownAt (qs := []) hl h I
  obtain ⟨vs, hv, rv⟩ := I.own (a := a) (xs := xs) (List.mem_append_left _ (zip_get h ha))
  have hl2 := rv.length
  have hp : 0 < vs.length := by rw [← hl2]; exact List.length_pos_iff.mpr hx
  refine ⟨.ref a, ha, .inl ⟨rfl, vs, .inl (.inl hv)⟩, a, vs, vs[vs.length - 1], rfl, rfl, hv, List.getElem?_eq_getElem _, ?_⟩
  refine kk.nx _ σ _ (by simp [hl]) (Env.ownSet hl h ha I ?_) k
  rw [List.dropLast_eq_take, List.dropLast_eq_take, hl2]
  exact rv.take _
theorem wpS_while {c : TT} {tb : TS} (W : Nat → List Sl → Prop) (m0 : Nat) (h0 : W m0 ss)
    (turn : ∀ m s1, W m s1 → wpT K Γ c s1 fun b => if b = true then wpS K Γ tb s1 { nx := fun s2 => ∃ m', m' < m ∧ W m' s2, ct := fun s2 => ∃ m', m' < m ∧ W m' s2, bk := e.nx, rt := e.rt } else e.nx s1) : wpS K Γ (tWhile c tb) ss e := fun H0 σ H τ D hl I k => by
  refine ⟨fun m σ' H' => ∃ s1 : List Sl, σ'.length = s1.length ∧ Env K Γ H0 H' (s1.zip σ' ++ τ) ∧ W m s1, ⟨m0, ss, hl, I, h0⟩, ?_⟩
  rintro m σ' H' ⟨s1, hl1, I1, w1⟩
  refine turn m s1 w1 H0 σ' H' τ hl1 I1 _ fun b H2 I2 hb => ?_
  cases b with
  | false => exact k.nx s1 σ' H2 hl1 I2 hb
  | true =>
    refine ⟨fun σ'' H'' => ∃ m', m' < m ∧ ∃ s2 : List Sl, σ''.length = s2.length ∧ Env K Γ H0 H'' (s2.zip σ'' ++ τ) ∧ W m' s2, fun _ _ z => z, ?_⟩
    have hb : wpS K Γ tb s1 { nx := fun s2 => ∃ m', m' < m ∧ W m' s2, ct := fun s2 => ∃ m', m' < m ∧ W m' s2, bk := e.nx, rt := e.rt } := hb
    refine hb H0 σ' H2 τ _ hl1 I2 ⟨fun s2 σ2 H3 hl2 I3 ⟨m', lt, w2⟩ => ⟨m', lt, s2, hl2, I3, w2⟩, k.rt, k.nx, fun s2 σ2 H3 hl2 I3 ⟨m', lt, w2⟩ => ⟨m', lt, s2, hl2, I3, w2⟩⟩
theorem wpB_maxL {ns : List Int} (hn : 0 < ns.length) (k : ∀ m, m ∈ ns → (∀ y, y ∈ ns → y ≤ m) → C (.int m)) : wpB K (bMax K) [.lst (ns.map D.int)] C := fun S H vs l r Q q => by
  obtain ⟨v, ws, rfl, ⟨a, us, rfl, _, t, r⟩, z⟩ := r
  have z : ws = [] := z
  subst z
  have e : us = ns.map V.int := Reps.ints.mp r
  subst e
  exact .inr ⟨a, ns, rfl, .inl (.inl t), hn, fun m h1 h2 => q _ (.int m) H (Ext.refl H) rfl (k m h1 h2)⟩
def bDivmod : List V → Hp → VK → Prop := fun xs H Q => ∃ i j, xs = [.int i, .int j] ∧ CDivP i j ∧ ∀ p, H p = none → Q (.ref p) (upd H p (.tup [.int (i / j), .int (i % j)]))
theorem cdivp_of {i j : Int} (h : 0 < j) (h2 : j.natAbs.log2 < 9000) : CDivP i j := ⟨h, PyProof.noPylong_of_log2 h2⟩
theorem wpB_divmod {i j : Int} (h : CDivP i j) (c : C (.tup [.int (i / j), .int (i % j)])) : wpB K bDivmod [.int i, .int j] C := fun S H vs l r Q q => by
  obtain ⟨v, ws, rfl, r1, w, us, rfl, r2, z⟩ := r
  have z : us = [] := z
  have r1 : v = .int i := r1
  have r2 : w = .int j := r2
  subst z r1 r2
  refine ⟨i, j, rfl, h, fun p hp => ?_⟩
  exact q _ (.tup [.int (i / j), .int (i % j)]) _ (Ext.new hp) ⟨p, _, rfl, SqT.of upd_same, .cons (d := .int _) rfl (.cons (d := .int _) rfl rfl)⟩ c
end
end SQ
/-! a tuple of one item or more, once or never -/
namespace SQ
open PySem PySem.Spec PyProof.Rows L2
open AutoSeq1 (wpAny_loadPart')
abbrev tobj (items : Array Value) (n : Nat) (dd : Option Addr) (sl : Array (Option Value)) : Obj := { cls := .type "tuple", dict := dd, data := .seq items n, slots := sl }
theorem tmul_1 (l : Addr) (items : Array Value) (n : Nat) (dd : Option Addr) (sl : Array (Option Value)) (u : Tok) :
    Meets (Builtin.«tuple.__mul__» ⟨[.ref l, .int 1 u], []⟩) (fun _ R s => s.heap.get? l = some (tobj items n dd sl) ∧ R (.ok (.ret (.ref l))) s) := by
  refine .of_wp fun prog w A R s h => ?_
  obtain ⟨hp, g, d, tk, os⟩ := s
  obtain ⟨hl, h⟩ := h
  have f1 := AutoSeq1.idx_int
  have c0 : (decide ((1 : Int) < -(2 ^ 63)) || decide ((1 : Int) ≥ 2 ^ 63)) = false := by decide
  have c1 : (items.isEmpty || (1 : Int) == 1) = true := by simp
  wp_walk using wpAny_loadPart' hl
  repeat (first
    | (refine wpAny_ite_false (decide_eq_false (by rw [c0]; exact Bool.false_ne_true)) ?_; wp_walk using wpAny_loadPart' hl)
    | (refine wpAny_ite_true (decide_eq_true c1) ?_; wp_walk using wpAny_loadPart' hl))
  exact ⟨_, rfl, h⟩
theorem tmul_0 (l : Addr) (items : Array Value) (n : Nat) (dd : Option Addr) (sl : Array (Option Value)) (u : Tok) (hi : items.isEmpty = false) :
    Meets (Builtin.«tuple.__mul__» ⟨[.ref l, .int 0 u], []⟩) (fun _ R s => s.heap.get? l = some (tobj items n dd sl) ∧ R (.ok (.ret (.ref s.heap.objs.size))) { s with heap := s.heap.push { cls := .type "tuple", data := .seq #[] } }) := by
  refine .of_wp fun prog w A R s h => ?_
  obtain ⟨hp, g, d, tk, os⟩ := s
  obtain ⟨hl, h⟩ := h
  have f1 := AutoSeq1.idx_int
  have c0 : (decide ((0 : Int) < -(2 ^ 63)) || decide ((0 : Int) ≥ 2 ^ 63)) = false := by decide
  have c1 : (items.isEmpty || (0 : Int) == 1) = false := by rw [hi]; rfl
  have c2 : (decide ((0 : Int) ≤ 0) || items.isEmpty) = true := by simp
  wp_walk using wpAny_loadPart' hl
  repeat (first
    | (refine wpAny_ite_false (decide_eq_false (by rw [c0]; exact Bool.false_ne_true)) ?_; wp_walk using wpAny_loadPart' hl)
    | (refine wpAny_ite_false (decide_eq_false (by rw [c1]; exact Bool.false_ne_true)) ?_; wp_walk using wpAny_loadPart' hl)
    | (refine wpAny_ite_true (decide_eq_true c2) ?_; wp_walk using wpAny_loadPart' hl))
  exact ⟨_, rfl, h⟩
def rRep01 (K : PySem.W.Frag) : R2 := fun x y H Q => ∃ (l : Addr) (xs : List V), x = .ref l ∧ SqT K H l xs ∧ xs ≠ [] ∧ ((y = .int 1 ∧ Q (.ref l) H) ∨ (y = .int 0 ∧ ∀ p, H p = none → Q (.ref p) (upd H p (.tup []))))
theorem op_rep01 {X : Cx} : OpR X (binaryOp .Mult) (rRep01 X.K) := by
  intro pins s σ H x y v u Q I rx ry h
  obtain ⟨l, xs, rfl, hT, hne, h⟩ := h
  have rx : v = .ref l := rx
  subst rx
  obtain ⟨its, r, ⟨⟨cls, dd, data, sl⟩, ho, hc, n, hd⟩, hs⟩ := I.tuple hT
  simp only at hc hd
  subst hc hd
  have hi : its.toArray.isEmpty = false := by
    cases its with
    | nil =>
      have := r.length
      exact absurd (List.eq_nil_of_length_eq_zero this) hne
    | cons a b => rfl
  rcases h with ⟨rfl, q⟩ | ⟨rfl, q⟩
  · obtain ⟨t, rfl⟩ := ry
    refine wpAny_binaryOp_repeat_ref (T := "tuple") (U := "int") (by decide) ⟨_, ho, rfl⟩ (fun s' => typeIs_int s' 1 t) noFill_tuple_mul F.fills_int_mul F.slot_int_rmul repeat_tuple F.slot_int_index.lookup ?_
    refine call_meets F.slot_int_rmul (typeIs_int s 1 t) F.entry_int_rmul (F.args_int_rmul_2 _ _) (int_rmul_tuple 1 t l its.toArray n dd sl) ⟨ho, rfl, ⟨_, ho, rfl⟩, ?_⟩
    exact call_meets F.slot_tuple_mul ⟨_, ho, rfl⟩ F.entry_tuple_mul (F.args_tuple_mul_2 _ _) (tmul_1 l its.toArray n dd sl t) ⟨ho, .ref l, H, I, rfl, q⟩
  · obtain ⟨t, rfl⟩ := ry
    refine wpAny_binaryOp_repeat_ref (T := "tuple") (U := "int") (by decide) ⟨_, ho, rfl⟩ (fun s' => typeIs_int s' 0 t) noFill_tuple_mul F.fills_int_mul F.slot_int_rmul repeat_tuple F.slot_int_index.lookup ?_
    refine call_meets F.slot_int_rmul (typeIs_int s 0 t) F.entry_int_rmul (F.args_int_rmul_2 _ _) (int_rmul_tuple 0 t l its.toArray n dd sl) ⟨ho, rfl, ⟨_, ho, rfl⟩, ?_⟩
    refine call_meets F.slot_tuple_mul ⟨_, ho, rfl⟩ F.entry_tuple_mul (F.args_tuple_mul_2 _ _) (tmul_0 l its.toArray n dd sl t hi) ⟨ho, ?_⟩
    refine ⟨.ref s.heap.objs.size, _, I.laid (t' := s.toks) (o := .tup []) (fun b ob q => Heap.get?_push_of_some _ q) (Nat.le_refl _) ?_, rfl, q _ (I.hok.fresh (Nat.le_refl _))⟩
    exact ⟨Nat.zero_le _, [], .nil, IsTup.new _ _⟩
/-- a tuple, so many times -/
def rTMul (K : PySem.W.Frag) : R2 := fun x y H Q => rRepT K x y H Q ∨ rRep01 K x y H Q
theorem op_tmul {X : Cx} : OpR X (binaryOp .Mult) (rTMul X.K) := op_repT.or op_rep01
theorem op_tmulK {X : Cx} {K : PySem.W.Frag} (h : X.K = K := by rfl) : OpR X (binaryOp .Mult) (rTMul K) := by subst h; exact op_tmul
theorem wpR_tmul {K : PySem.W.Frag} {xs : List D} {j : Int} {C : D → Prop} (hx : xs ≠ []) (h : 0 ≤ j ∧ j ≤ 1000) (hz : xs.length ≤ 1000) (c : C (.tup (List.replicate j.toNat xs).flatten)) : wpR K (rTMul K) (.tup xs) (.int j) C := fun S H v w l rx ry Q q => by
  obtain ⟨a, vs, rfl, ta, ra⟩ := rx
  have ry : w = .int j := ry
  have hv : vs ≠ [] := fun e => hx (List.eq_nil_of_length_eq_zero (by rw [ra.length, e]; rfl))
  by_cases h0 : j = 0
  · subst h0
    refine .inr ⟨a, vs, rfl, ta, hv, .inr ⟨ry, fun p hp => ?_⟩⟩
    exact q _ (.tup []) _ (Ext.new hp) ⟨p, [], rfl, SqT.of upd_same, rfl⟩ c
  by_cases h1 : j = 1
  · subst h1
    refine .inr ⟨a, vs, rfl, ta, hv, .inl ⟨ry, ?_⟩⟩
    have e : (List.replicate (Int.toNat 1) xs).flatten = xs := by simp
    rw [e] at c
    exact q _ (.tup xs) H (Ext.refl H) ⟨a, vs, rfl, ta, ra⟩ c
  refine .inl ⟨a, j, vs, rfl, ry, ta, hv, by omega, h.2, by rw [← ra.length]; exact hz, fun p hp => ?_⟩
  exact q _ (.tup (List.replicate j.toNat xs).flatten) _ (Ext.new hp) ⟨p, _, rfl, SqT.of upd_same, (ra.flat _).ext (Ext.new hp)⟩ c
end SQ
/-! comprehensions over pairs of ints, over ints with their places -/
namespace SQ
open PySem PySem.Spec PyProof.Rows L2
theorem zipI : ∀ a b : List Int, zipD (a.map D.int) (b.map D.int) = (a.zip b).map fun p => D.tup [.int p.1, .int p.2]
  | [], _ => rfl
  | _ :: _, [] => rfl
  | x :: a, y :: b => by
    show D.tup [.int x, .int y] :: zipD (a.map D.int) (b.map D.int) = _
    rw [zipI a b]; rfl
theorem zip_map2 {β : Type} (f : Int → Int → β) : ∀ a b : List Int, (a.zip b).map (fun p => f p.1 p.2) = List.zipWith f a b
  | [], _ => rfl
  | _ :: _, [] => rfl
  | x :: a, y :: b => by
    show f x y :: (a.zip b).map _ = f x y :: List.zipWith f a b
    rw [zip_map2 f a b]
def two (f : Int → Int → D) : D → D
  | .tup [.int x, .int y] => f x y
  | _ => .non
theorem enumI : ∀ (s : List Int) (k : Nat), enumD k (s.map D.int) = (List.range s.length).map fun i => D.tup [.int ((k + i : Nat)), .int (s.getD i 0)]
  | [], _ => rfl
  | x :: s, k => by
    show D.tup [.int k, .int x] :: enumD (k + 1) (s.map D.int) = _
    rw [enumI s (k + 1), List.length_cons, List.range_succ_eq_map, List.map_cons, List.map_map]
    congr 1
    refine List.map_congr_left fun i _ => ?_
    simp only [Function.comp, List.getD_cons_succ]
    congr 3; omega
section
variable {K : PySem.W.Frag} {Γ : Cxt} {ss : List Sl} {te : TE} {ta : TA} {CO : List D → Prop} {i j : Nat}
theorem wpO_zipI (f : Int → Int → D) (hi : i < (wipeS ss [i, j]).length) (hj : j < (wipeS ss [i, j]).length)
    (h : wpA K Γ ta ss fun ds => ∃ a b : List Int, (ds = [.tup (a.map .int), .tup (b.map .int)] ∨ ds = [.lst (a.map .int), .lst (b.map .int)]) ∧ a.length ≤ 100000 ∧ (∀ x y, (x, y) ∈ a.zip b → wpE K Γ te (((wipeS ss [i, j]).set i (.val (.int x))).set j (.val (.int y))) fun r => r = f x y) ∧ CO (List.zipWith f a b)) :
    wpO K Γ (tLc (RZ.iZipA K ta) (gTup K 2 (gCons (gName i) (gCons (gName j) gNil))) tYes te [i, j]) ss CO := by
  refine wpO_lcF (p := fun _ => true) (f := two f) (wpI_zip ?_)
  intro H0 σ H τ hl I Q q
  refine h H0 σ H τ hl I Q fun vs ds H1 hd I1 c => q vs ds H1 hd I1 ?_
  obtain ⟨a, b, e, hz, hb, c⟩ := c
  have key : (zipD (a.map D.int) (b.map D.int)).length ≤ 100000 ∧ (∀ d ∈ zipD (a.map D.int) (b.map D.int), wpG K Γ [i, j] (gTup K 2 (gCons (gName i) (gCons (gName j) gNil))) d (wipeS ss [i, j]) fun ss2 => wpT K Γ tYes ss2 fun x => x = true ∧ (x = true → wpE K Γ te ss2 fun y => y = two f d)) ∧
      CO (((zipD (a.map D.int) (b.map D.int)).filter fun _ => true).map (two f)) := by
    rw [zipI]
    refine ⟨?_, fun d hd => ?_, ?_⟩
    · rw [List.length_map, List.length_zip]; omega
    · obtain ⟨⟨x, y⟩, hp, rfl⟩ := List.mem_map.mp hd
      exact wpG_pair hi hj (by simp) (by simp) rfl (wpT_yes ⟨rfl, fun _ => hb x y hp⟩)
    · rw [List.filter_eq_self.mpr (by simp), List.map_map]
      have e : (two f ∘ fun p : Int × Int => D.tup [.int p.1, .int p.2]) = fun p => f p.1 p.2 := rfl
      rw [e, zip_map2]
      exact c
  rcases e with e | e
  · exact .inr ⟨_, _, e, key⟩
  · exact .inl ⟨_, _, e, key⟩
theorem wpO_enumI (f : Nat → Int → D) (hi : i < (wipeS ss [i, j]).length) (hj : j < (wipeS ss [i, j]).length)
    (h : wpA K Γ ta ss fun ds => ∃ s : List Int, ds = [.tup (s.map .int)] ∧ s.length ≤ 100000 ∧ (∀ (n : Nat) x, n < s.length → x = s.getD n 0 → wpE K Γ te (((wipeS ss [i, j]).set i (.val (.int n))).set j (.val (.int x))) fun r => r = f n x) ∧ CO ((List.range s.length).map fun n => f n (s.getD n 0))) :
    wpO K Γ (tLc (iEnumT K ta) (gTup K 2 (gCons (gName i) (gCons (gName j) gNil))) tYes te [i, j]) ss CO := by
  refine wpO_lcF (p := fun _ => true) (f := two fun n x => f n.toNat x) (wpI_enumT ?_)
  intro H0 σ H τ hl I Q q
  refine h H0 σ H τ hl I Q fun vs ds H1 hd I1 c => q vs ds H1 hd I1 ?_
  obtain ⟨s, rfl, hz, hb, c⟩ := c
  refine ⟨_, rfl, ?_⟩
  rw [enumI]
  refine ⟨?_, fun d hd => ?_, ?_⟩
  · rw [List.length_map, List.length_range]; exact hz
  · obtain ⟨n, hn, rfl⟩ := List.mem_map.mp hd
    have hn := List.mem_range.mp hn
    rw [Nat.zero_add]
    refine wpG_pair hi hj (by simp) (by simp) rfl (wpT_yes ⟨rfl, fun _ => ?_⟩)
    exact hb n _ hn rfl
  · rw [List.filter_eq_self.mpr (by simp), List.map_map]
    have e : ((two fun n x => f n.toNat x) ∘ fun n : Nat => D.tup [.int ((0 + n : Nat)), .int (s.getD n 0)]) = fun n => f n (s.getD n 0) := by
      funext n
      show f ((0 + n : Nat) : Int).toNat _ = _
      rw [Nat.zero_add]; rfl
    rw [e]
    exact c
end
end SQ
/-! a tuple turned round -/
namespace SQ
open PySem PySem.Spec PyProof.Rows L2
section
variable {prog : Program} {w : World} {A : Around} {E : Value → Shared → Prop} {s : Shared}
theorem sliceApplied_rev {sl : Addr} {vl vu vk : Value} {n : Nat} {Q : Int × Int × Nat → Shared → Prop} (hs : s.heap.IsSliceOf sl vl vu vk) (pl : IsPart vl none) (pu : IsPart vu none) (pk : IsPart vk (some (-1)))
    (h : Q ((n : Int) - 1, -1, n) s) : wpAny (model prog w) A (Builtin.Slice.sliceApplied (.ref sl) (pure (n : Int))) Q E s := by
  obtain ⟨os, hos, hcs, hds⟩ := id hs
  unfold Builtin.Slice.sliceApplied Builtin.Slice.sliceFields
  refine wpAny_bind (wpAny_bind (wpAny_field hos hds (x := vl) rfl (wpAny_bind (wpAny_field hos hds (x := vu) rfl (wpAny_bind (wpAny_field hos hds (x := vk) rfl (wpAny_pure ?_)))))))
  refine wpAny_bind (HT.slicePart_ pk ?_)
  show wpAny _ _ (if ((-1 : Int) == 0) = true then _ else _) _ _ s
  rw [if_neg (by decide)]
  refine wpAny_bind (HT.slicePart_ pl (wpAny_bind (HT.slicePart_ pu (wpAny_bind (wpAny_pure ?_)))))
  have e1 : Builtin.Slice.sliceAdjust none none (-1) (n : Int) = ((n : Int) - 1, -1) := by
    unfold Builtin.Slice.sliceAdjust
    simp
  have e2 : Builtin.Slice.slicePlaces ((n : Int) - 1) (-1) (-1) = n := by
    unfold Builtin.Slice.slicePlaces
    rw [if_neg (by decide)]
    split
    · rw [show (- -1 : Int) = 1 by decide, Int.ediv_one]; omega
    · omega
  show wpAny _ _ (match Builtin.Slice.sliceAdjust none none (-1) (n : Int) with | (lo, hi) => pure (lo, (-1 : Int), Builtin.Slice.slicePlaces lo hi (-1))) _ _ s
  rw [e1]
  show wpAny _ _ (pure ((n : Int) - 1, (-1 : Int), Builtin.Slice.slicePlaces ((n : Int) - 1) (-1) (-1))) _ _ s
  rw [e2]
  exact wpAny_pure h
theorem filterMap_same {α β : Type} {f g : α → Option β} : ∀ {l : List α}, (∀ k ∈ l, f k = g k) → l.filterMap f = l.filterMap g
  | [], _ => rfl
  | a :: r, h => by
    rw [List.filterMap_cons, List.filterMap_cons, h a List.mem_cons_self, filterMap_same fun k hk => h k (List.mem_cons_of_mem _ hk)]
theorem pick_rev (xs : Array Value) : ((List.range xs.size).filterMap fun (k : Nat) => xs[(((xs.size : Nat) : Int) - 1 + (k : Int) * (-1)).toNat]?).toArray = xs.toList.reverse.toArray := by
  have := PySem.W.krv_pick xs
  unfold slicePick at this
  rw [PySem.W.krv_bounds] at this
  have this : ((sliceRange ((xs.size : Int) - 1) (-1) (-1)).filterMap (xs[·]?)).toArray = _ := this
  rw [PySem.W.krv_sliceRange, List.filterMap_map] at this
  rw [← this]
  congr 1
  exact filterMap_same fun k hk => by
    have := List.mem_range.mp hk
    show xs[_]? = xs[xs.size - 1 - k]?
    congr 1; omega
theorem getItem_tuple_rev {t sl : Addr} {items : Array Value} {vl vu vk : Value} {Q : Value → Shared → Prop} (ht : IsTup s.heap t items) (hs : s.heap.IsSliceOf sl vl vu vk) (pl : IsPart vl none) (pu : IsPart vu none) (pk : IsPart vk (some (-1)))
    (h : Q (.ref s.heap.objs.size) { s with heap := s.heap.push { cls := .type "tuple", data := .seq items.toList.reverse.toArray } }) (hsz : items.size ≤ sizeLine) : wpAny (model prog w) A (getItem (.ref t) (.ref sl)) Q E s := by
  have htake : sizeOk (.seq items.toList.reverse.toArray) := by
    show items.toList.reverse.toArray.size ≤ sizeLine
    rw [List.size_toArray, List.length_reverse, Array.length_toList]
    exact hsz
  obtain ⟨os, hos, hcs, hds⟩ := id hs
  have hTs : s.TypeIs (.ref sl) "slice" := ⟨os, hos, hcs⟩
  unfold getItem
  try with_reducible refine wpAny_holding ?_
  first | refine wpAny_bind (wpAny_pure ?_) | skip
  refine wpAny_bind (wpAny_sequenceKey ht.typeIs (by decide) ?_)
  refine wpAny_bind (wpAny_callSpecial?_slot (name := Str.ofString "__getitem__") ht.typeIs PyProof.Rows.slot_tuple_getitem
    (wpAny_call_entry PyProof.Rows.slot_tuple_getitem ht.typeIs entry_tuple_getitem ?_ (args_tuple_getitem _ _)))
  show wpAny _ _ (Builtin.Tuple.tupleItemsOf (.ref t) >>= _) _ _ s
  refine wpAny_bind (tupleItemsOf_ ht ?_)
  refine wpAny_bind (wpAny_typeOf hTs ?_)
  rw [if_pos (by decide)]
  refine wpAny_bind (sliceApplied_rev hs pl pu pk ?_)
  have hno : ¬ ((((items.size : Nat) : Int) - 1 == 0 && (-1 : Int) == 1 && items.size == items.size) = true) := by
    intro q
    rw [Bool.and_eq_true, Bool.and_eq_true] at q
    exact absurd q.1.2 (by decide)
  show wpAny _ _ (if (((items.size : Nat) : Int) - 1 == 0 && (-1 : Int) == 1 && items.size == items.size) = true then _ else _) _ _ s
  rw [if_neg hno, pick_rev]
  first
    | exact wpAny_bind (m := Builtin.Tuple.tupleExact _) (wpAny_newObj_type (wpAny_pure ⟨_, rfl, wpAny_pure h⟩) htake)
    | exact wpAny_bind (m := Builtin.Tuple.tupleExact _) (wpAny_newObj_type (wpAny_bind (wpAny_pure (wpAny_pure ⟨_, rfl, wpAny_pure h⟩))) htake)
    | exact wpAny_bind (wpAny_bind (m := Builtin.Tuple.tupleExact _) (wpAny_newObj_type (wpAny_pure (wpAny_pure ⟨_, rfl, wpAny_pure h⟩)) htake))
    | exact wpAny_bind (wpAny_bind (m := Builtin.Tuple.tupleExact _) (wpAny_newObj_type (wpAny_pure ⟨_, rfl, wpAny_pure h⟩) htake))
end
def tRevT (K : PySem.W.Frag) (te : TE) : TE := fun σ H Q => te σ H fun x H1 => ∃ a xs, x = .ref a ∧ SqT K H1 a xs ∧ ∀ p, H1 p = none → Q (.ref p) (upd H1 p (.tup xs.reverse))
theorem pe_revT {X : Cx} {e : Expr} {te : TE} {k : Nat} {p1 p2 p3 pos : Pos} (he : PE X e te) : PE X (.Subscript e (.Slice none none (some (.UnaryOp .USub (.Constant (.int 1) k p1) p2)) p3) pos) (tRevT X.K te) := by
  refine ⟨fun pins s σ H Q I h => ?_⟩
  refine Subscript_ (thn (he.run pins s σ H _ I h) fun v s1 ⟨x, H1, I1, r1, q1⟩ => ?_)
  obtain ⟨a, xs, ex, hx, q⟩ := q1
  subst ex
  cases r1
  have hst : PO X (some (.UnaryOp .USub (.Constant (.int 1) k p1) p2)) (tPart (tUn (rU fun i => .int (-i)) (tC (.int 1)))) := po_some (pe_un un_neg pe_int)
  refine wpAny_Slice (thn (po_none.run pins s1 σ H1 (fun o H2 => o = none ∧ H2 = H1) I1 ⟨rfl, rfl⟩) fun vl s2 ⟨l, H2, I2, pl, el, e2⟩ => ?_)
  subst el e2
  refine thn (po_none.run pins s2 σ H2 (fun o H3 => o = none ∧ H3 = H2) I2 ⟨rfl, rfl⟩) fun vu s3 ⟨u, H3, I3, pu, eu, e3⟩ => ?_
  subst eu e3
  refine thn (hst.run pins s3 σ H3 (fun o H4 => o = some (-1) ∧ H4 = H3) I3 ⟨1, rfl, -1, rfl, rfl, rfl⟩) fun vs s4 ⟨o, H4, I4, ps, eo, e4⟩ => ?_
  subst eo e4
  have I5 : Inv X pins σ H4 { s4 with heap := s4.heap.push { cls := .type "slice", data := .fields #[vl, vu, vs] } } := I4.kept (t' := s4.toks) fun b ob q => Heap.get?_push_of_some _ q
  obtain ⟨its, r, ht, hz⟩ := I5.tuple hx
  have hlen := r.length
  show wpAny (model X.prog X.w) X.A (subscriptTail e (.Slice none none (some (.UnaryOp .USub (.Constant (.int 1) k p1) p2)) p3) (.ref a) (.ref s4.heap.objs.size)) (EP X pins σ Q) X.xe { s4 with heap := s4.heap.push { cls := .type "slice", data := .fields #[vl, vu, vs] } }
  refine tail_any (ops := [.ref a, .ref s4.heap.objs.size]) ht.typeIs (PyProof.Rows.slot_tuple_getitem.lookup) ?_ (by with_unfolding_all rfl)
  refine getItem_tuple_rev ht (Heap.IsSliceOf.new _ vl vu vs) pl pu ps ?_ (by rw [List.size_toArray]; omega)
  refine ⟨.ref _, _, I5.laid (t' := s4.toks) (o := .tup xs.reverse) (fun b ob q => Heap.get?_push_of_some _ q) (Nat.le_refl _) ?_, rfl, q _ (I5.hok.fresh (Nat.le_refl _))⟩
  exact ⟨by rw [List.length_reverse]; exact hz, _, r.reverse, IsTup.new _ _⟩
theorem pe_revTK {X : Cx} {K : PySem.W.Frag} {e : Expr} {te : TE} {k : Nat} {p1 p2 p3 pos : Pos} (he : PE X e te) (h : X.K = K := by rfl) : PE X (.Subscript e (.Slice none none (some (.UnaryOp .USub (.Constant (.int 1) k p1) p2)) p3) pos) (tRevT K te) := by subst h; exact pe_revT he
section
variable {K : PySem.W.Frag} {Γ : Cxt} {ss : List Sl} {te : TE} {C : D → Prop}
theorem wpE_revT (h : wpE K Γ te ss fun d => ∃ xs, d = .tup xs ∧ C (.tup xs.reverse)) : wpE K Γ (tRevT K te) ss C := fun H0 σ H τ hl I Q q =>
  h H0 σ H τ hl I _ fun v d H1 J ⟨xs, e, c⟩ => by
    subst e
    obtain ⟨a, vs, e, t, r⟩ := (J.val List.mem_cons_self).less (S' := Out Γ (ss.zip σ ++ τ)) fun a z => z
    refine ⟨a, vs, e, t, fun p hp => ?_⟩
    have ex : Ext H1 (upd H1 p (.tup vs.reverse)) := Ext.new hp
    exact q _ _ _ ((J.drop.ext ex).push (d := .tup xs.reverse) ⟨p, vs.reverse, rfl, SqT.of upd_same, (Reps.rev r).ext ex⟩) c
end
end SQ
/-! repr of lists of trees, also with dicts within lists -/
namespace SQ
open PySem PySem.Spec PyProof.Rows L2
mutual
/-- no list within a dict -/
def nk : D → Bool
  | .lst xs => nks xs
  | .tup xs => nks xs
  | .dk _ ds => nls ds
  | _ => true
def nks : List D → Bool
  | [] => true
  | d :: ds => nk d && nks ds
end
section
variable {X : Cx} {pins : List (Addr × Obj)} {σ : L2.St} {H : Hp} {s : Shared} {S : Addr → Prop} {P : Program} {w : World}
theorem bs_app {h : Heap} {m n k : Nat} {b1 b2 : List Addr} (h1 : ReadAtMost h m b1) (h2 : ReadAtMost h n b2) (q1 : m ≤ k) (q2 : n ≤ k) : ReadAtMost h k (b1 ++ b2) := (h1.mono q1).append (h2.mono q2)
mutual
theorem Rep.shows (I : Inv X pins σ H s) : ∀ (d : D) (v : V) (u : Value), rok d = true → nk d = true → Rep X.K S H d v → RelV v u → (rp d).shown.length ≤ sizeLine → ∃ bs, ReadAtMost s.heap (rp d).depth bs ∧ ReprK P w bs s.heap (rp d).depth u (rp d).shown
  | .lst xs, v, u, k, n, h, r, hz => by
    obtain ⟨as0, rd, _⟩ := Rep.reads I (.lst xs) v u k h r
    obtain ⟨a, vs, rfl, _, t, q⟩ := h
    cases r
    obtain ⟨its, rv, ⟨o, n1, ho, hc, _, hd⟩, _⟩ := I.list (.inl (.inl t))
    have hz' : (listText (PyData.shownAll (rps xs))).length ≤ sizeLine := by simpa only [rp, PyData.shown] using hz
    obtain ⟨bs, hb, hk⟩ := Reps.shows I xs vs its k n q rv fun t ht => Nat.le_trans (listText_mem_le ht) hz'
    have hna : a ∉ bs := not_mem_of_deeper rd (by simp only [rp, PyData.depth]; omega) hb
    refine ⟨a :: bs, ReadAtMost.cons rd (by simp only [rp, PyData.depth]; omega) hb, ?_⟩
    simp only [rp, PyData.depth, PyData.shown]
    cases its with
    | nil =>
      cases rv
      have e : xs = [] := by
        cases xs with
        | nil => rfl
        | cons x r =>
          obtain ⟨v, ws, e, _⟩ := q
          cases e
      subst e
      simp only [rps, PyData.shownAll, listText_nil]
      exact ReprK.listEmpty ho hc hd
    | cons x l => exact ReprK.list ho hc hd hna (by simpa using hk.length_eq) (fun i y e => hk.item i y (by simpa using e))
  | .tup xs, v, u, k, n, h, r, hz => by
    obtain ⟨as0, rd, _⟩ := Rep.reads I (.tup xs) v u k h r
    obtain ⟨a, vs, rfl, t, q⟩ := h
    cases r
    obtain ⟨its, rv, ⟨o, ho, hc, n1, hd⟩, _⟩ := I.tuple t
    have hz' : (tupleText (PyData.shownAll (rps xs))).length ≤ sizeLine := by simpa only [rp, PyData.shown] using hz
    obtain ⟨bs, hb, hk⟩ := Reps.shows I xs vs its k n q rv fun t ht => Nat.le_trans (tupleText_mem_le ht) hz'
    have hna : a ∉ bs := not_mem_of_deeper rd (by simp only [rp, PyData.depth]; omega) hb
    refine ⟨a :: bs, ReadAtMost.cons rd (by simp only [rp, PyData.depth]; omega) hb, ?_⟩
    simp only [rp, PyData.depth, PyData.shown]
    exact ReprK.tuple ho hc hd hna hk
  | .non, v, u, k, n, h, r, hz => by
    obtain ⟨as0, rd, no⟩ := Rep.reads I .non v u k h r
    exact ReprK.of_reads rd rfl (fun _ => no rfl) hz
  | .bl b, v, u, k, n, h, r, hz => by
    obtain ⟨as0, rd, no⟩ := Rep.reads I (.bl b) v u k h r
    exact ReprK.of_reads rd (rok_show _ k).1 (fun _ => no rfl) hz
  | .int i, v, u, k, n, h, r, hz => by
    obtain ⟨as0, rd, no⟩ := Rep.reads I (.int i) v u k h r
    exact ReprK.of_reads rd (rok_show _ k).1 (fun _ => no rfl) hz
  | .str x, v, u, k, n, h, r, hz => by
    obtain ⟨as0, rd, no⟩ := Rep.reads I (.str x) v u k h r
    exact ReprK.of_reads rd (rok_show _ k).1 (fun _ => no rfl) hz
  | .dk ks ds, v, u, k, n, h, r, hz => by
    obtain ⟨as0, rd, no⟩ := Rep.reads I (.dk ks ds) v u k h r
    exact ReprK.of_reads rd (rok_show _ k).1 (fun _ => no n) hz
  | .cell _, _, _, k, _, _, _, _ => by cases k
  | .scr _, _, _, k, _, _, _, _ => by cases k
  | .ty _, _, _, k, _, _, _, _ => by cases k
  | .ins _ _ _, _, _, k, _, _, _, _ => by cases k
theorem Reps.shows (I : Inv X pins σ H s) : ∀ (ds : List D) (vs : List V) (us : List Value), roks ds = true → nks ds = true → Reps X.K S H ds vs → Vals vs us → (∀ t ∈ PyData.shownAll (rps ds), t.length ≤ sizeLine) →
    ∃ bs, ReadAtMost s.heap (PyData.depthAll (rps ds)) bs ∧ ReprAllK P w bs s.heap (PyData.depthAll (rps ds)) us (PyData.shownAll (rps ds))
  | [], vs, us, _, _, h, r, _ => by have h : vs = [] := h; subst h; cases r; exact ⟨[], (fun _ h => nomatch h), by simp only [rps, PyData.shownAll]; exact .nil⟩
  | d :: ds, vs, us, k, n, h, r, hz => by
    obtain ⟨v, ws, rfl, a, b⟩ := h
    have k : (rok d && roks ds) = true := k
    rw [Bool.and_eq_true] at k
    have n : (nk d && nks ds) = true := n
    rw [Bool.and_eq_true] at n
    cases r with
    | cons r1 r2 =>
      obtain ⟨b1, hb1, k1⟩ := Rep.shows I d v _ k.1 n.1 a r1 (hz _ (by simp only [rps, PyData.shownAll]; exact List.mem_cons_self ..))
      obtain ⟨b2, hb2, k2⟩ := Reps.shows I ds ws _ k.2 n.2 b r2 fun t ht => hz t (by simp only [rps, PyData.shownAll]; exact List.mem_cons_of_mem _ ht)
      refine ⟨b1 ++ b2, bs_app hb1 hb2 (by simp only [rps, PyData.depthAll]; exact Nat.le_max_left _ _) (by simp only [rps, PyData.depthAll]; exact Nat.le_max_right _ _), ?_⟩
      simp only [rps, PyData.depthAll, PyData.shownAll]
      exact .cons ((k1.more fun b hb => List.mem_append_left _ hb).level_le (Nat.le_max_left _ _)) (k2.more_le (fun b hb => List.mem_append_right _ hb) (Nat.le_max_right _ _))
end
/-- a list whose items can be shown -/
theorem shows_lst2 {hp : Heap} {a : Addr} {ob : Obj} {its : Array Value} {m : Nat} {ys : List PyData} {as cs : List Addr} (g1 : hp.get? a = some ob) (g2 : ob.cls = .type "list") (g3 : ob.data = .seq its m) (g4 : ReadsAll hp its.toList ys as)
    (deep : ReadAtMost hp (PyData.depthAll ys) cs) (each : ReprAllK P w cs hp (PyData.depthAll ys) its.toList (PyData.shownAll ys)) (sz : (PyData.list ys).shown.length ≤ sizeLine) : ShowsBy P w hp a (.list ys) "list" "list.__repr__" := by
  have sz2 : (listText (PyData.shownAll ys)).length ≤ sizeLine := by
    simpa only [PyData.shown] using sz
  have nin : a ∉ cs := not_mem_of_deeper (.list g1 g2 g3 g4) (Nat.lt_succ_self _) deep
  refine ⟨F.slot_list_repr.toG, F.slot_list_str, F.slot_list_format, fun s kp => ⟨ob, kp _ _ g1, g2⟩, ?_⟩
  intro A E s Q gd un kp fin
  have un2 : A.units + (PyData.depthAll ys + 1) < cLine := un
  have fin2 : ∀ h' u tk, (∀ b o, s.heap.get? b = some o → h'.get? b = some o) → Q (.str (listText (PyData.shownAll ys)) u) { s with heap := h', toks := tk } := by
    simpa only [PyData.shown] using fin
  obtain ⟨l⟩ := its
  cases l with
  | nil =>
    have g4 : ReadsAll hp [] ys as := g4
    cases g4
    have fin3 := fin2
    simp only [PyData.shownAll, listText_nil] at fin3
    exact call_list_repr_empty ⟨ob, kp _ _ g1, g2⟩ (kp _ _ g1) g3 (fin3 s.heap _ _ fun _ _ e => e)
  | cons y l =>
    refine call_list_reprK (d := PyData.depthAll ys) g1 g2 g3 nin ?_ (fun i z e => ?_) gd (fun b _ => Clear.nil b) ?_ kp fin2 sz2
    · simpa using each.length_eq
    · exact each.item i z (by simpa using e)
    · exact un2
/-- repr([..]) -/
def rRepr2 (K : PySem.W.Frag) : List V → Hp → VK → Prop := fun xs H Q => ∃ (S : Addr → Prop) (v : V) (ys : List D), xs = [v] ∧ Rep K S H (.lst ys) v ∧ roks ys = true ∧ nks ys = true ∧
  (PyData.list (rps ys)).weight ≤ 200000 ∧ PyData.depthAll (rps ys) ≤ 60 ∧ Q (.str (rp (.lst ys)).shown) H
theorem cr_repr2 {X : Cx} (hu : X.A.guards = some []) {k : Nat} (hr : Room k X.A) : CallR X (.builtin "repr") (rRepr2 X.K) := by
  intro pins s σ H xs us Q I r h
  obtain ⟨S, v, ys, rfl, rd, ok, nd, hw, hd, q⟩ := h
  obtain ⟨u, rfl, r1⟩ := vals1 r
  obtain ⟨a, vs, rfl, _, t, qs⟩ := rd
  have r1 : u = .ref a := r1
  subst r1
  obtain ⟨its, rv, ⟨o, n, ho, hc, _, hs⟩, _⟩ := I.list (.inl (.inl t))
  obtain ⟨as, g4, hn⟩ := Reps.reads I ys vs its ok qs rv
  have hsz := shown_small (d := .lst ys) ok hw
  have hz' : (listText (PyData.shownAll (rps ys))).length ≤ sizeLine := by simpa only [rp, PyData.shown] using hsz
  obtain ⟨cs, dp, each⟩ := Reps.shows (P := X.prog) (w := X.w) I ys vs its ok nd qs rv fun t ht => Nat.le_trans (listText_mem_le ht) hz'
  have sb : ShowsBy X.prog X.w s.heap a (.list (rps ys)) "list" "list.__repr__" := shows_lst2 ho hc hs g4 dp each hsz
  have hun := hr.un
  refine call_repr_slot (by omega) (sb.typeIs s fun _ _ e => e) sb.slotRepr (sb.call X.A.in1 _ s _ hu ?_ (fun _ _ e => e) fun h' tk tk' kp => ?_)
  · show X.A.units + 1 + (PyData.depthAll (rps ys) + 1) < cLine
    omega
  · exact ⟨_, _, rfl, .str _, H, I.kept kp, ⟨_, rfl⟩, q⟩
theorem cr_repr2K {X : Cx} {K : PySem.W.Frag} (hu : X.A.guards = some []) {k : Nat} (hr : Room k X.A) (h : X.K = K := by rfl) : CallR X (.builtin "repr") (rRepr2 K) := by subst h; exact cr_repr2 hu hr
end
section
variable {K : PySem.W.Frag} {C : D → Prop} {ys : List D}
theorem wpB_repr2 (ok : roks ys = true) (nd : nks ys = true) (hw : (PyData.list (rps ys)).weight ≤ 200000) (hd : PyData.depthAll (rps ys) ≤ 60) (c : C (.str (rp (.lst ys)).shown)) : wpB K (rRepr2 K) [.lst ys] C := fun S H vs lv r Q q => by
  obtain ⟨v, ws, rfl, a, b⟩ := r
  have b : ws = [] := b
  subst b
  exact ⟨S, v, ys, rfl, a, ok, nd, hw, hd, q _ (.str _) H (Ext.refl H) rfl c⟩
end
end SQ
/-! a def's own list: an item is put, or made greater or less -/
namespace SQ
open PySem PySem.Spec PyProof.Rows L2
theorem get_list {X : Cx} : PGet X (rIxL X.K) := by
  intro pins s σ H x y v u Q I rx ry h
  obtain ⟨p, xs, i, z, rfl, rfl, hq, he, q⟩ := h
  cases rx
  obtain ⟨t, rfl⟩ := ry
  obtain ⟨its, r, pl, hz⟩ := I.list hq
  obtain ⟨j, h1, h2, h3, h4, h5⟩ := atI_get he
  obtain ⟨w, ew, rw'⟩ := r.get h2
  have hl := r.length
  have hn := line63
  have fin : EP X pins σ Q w s := ⟨z, H, I, rw', q⟩
  by_cases h0 : 0 ≤ i
  · have hj : i.toNat = j := by
      rw [seqIndex_of h0 h5] at h1
      exact Option.some.inj h1
    exact wpAny_getItem_list pl.isList h0 (by omega) (by rw [hj]; simpa using ew) fin
  · have hj : (i + (its.toArray.size : Int)).toNat = j := by
      rw [seqIndex_neg (by omega) h4] at h1
      rw [List.size_toArray, ← hl]
      exact Option.some.inj h1
    exact wpAny_getItem_list_neg pl.isList (by omega) (by rw [List.size_toArray] <;> omega) (by omega) (by rw [hj]; simpa using ew) fin
theorem get_listK {X : Cx} {K : PySem.W.Frag} (h : X.K = K := by rfl) : PGet X (rIxL K) := by subst h; exact get_list
section
variable {K : PySem.W.Frag} {Γ : Cxt} {ss : List Sl} {xs : List D} {te ti : TE} {e : En} {i : Nat}
theorem Reps.put {S : Addr → Prop} {H : Hp} {d : D} {v : V} (r : Rep K S H d v) : ∀ {xs : List D} {vs : List V} {m : Nat}, Reps K S H xs vs → Reps K S H (xs.set m d) (vs.set m v)
  | [], vs, m, h => by
    have h : vs = [] := h
    subst h; exact rfl
  | x :: xs, vs, 0, h => by
    obtain ⟨w, ws, rfl, a, b⟩ := h
    exact ⟨v, ws, rfl, r, b⟩
  | x :: xs, vs, m + 1, h => by
    obtain ⟨w, ws, rfl, a, b⟩ := h
    exact ⟨w, ws.set m v, rfl, a, Reps.put r b⟩
/-- xs[j] = e, xs the def's own list -/
theorem wpS_putOwn (h : ss[i]? = some (.own xs)) (k : wpE K Γ te ss fun d => wpE K Γ ti ss fun y => ∃ j m, y = .int j ∧ ixN xs.length j = some m ∧ e.nx (ss.set i (.own (xs.set m d)))) : wpS K Γ (tAsg te (gSub (tVar i) ti rSetL)) ss e := fun H0 σ H τ D hl I kk => by
  obtain ⟨a, ha, _⟩ := Env.ownAt (qs := []) hl h I
  refine k H0 σ H τ hl I _ fun v d H1 J1 c1 => ⟨.ref a, ha, ?_⟩
  refine c1 H0 σ H1 ((.val d, some v) :: τ) hl (J1.perm (List.perm_middle.symm)) _ fun y dy H2 J2 c => ?_
  obtain ⟨j, m, rfl, hm, c⟩ := c
  have ry : y = .int j := J2.val List.mem_cons_self
  subst ry
  have J3 := J2.drop.perm (List.perm_middle (l₁ := ss.zip σ) (a := (Sl.val d, some v)) (l₂ := τ))
  obtain ⟨vs, hv, rv⟩ := J3.drop.own (a := a) (xs := xs) (List.mem_append_left _ (zip_get h ha))
  have rd : Rep K (Out Γ (ss.zip σ ++ τ)) H2 d v := (J3.val List.mem_cons_self).less fun b z => z
  have hl2 := rv.length
  refine ⟨a, vs, j, m, rfl, rfl, hv, by rw [← hl2]; exact hm, ?_⟩
  exact kk.nx _ σ _ (by simp [hl]) (Env.ownSet hl h ha J3.drop (Reps.put rd rv)) c
/-- xs[j] op= e, xs the def's own list of ints -/
theorem wpS_augOwn {f : Int → Int → Int} (h : ss[i]? = some (.own xs)) (k : wpE K Γ ti ss fun y => ∃ j m n, y = .int j ∧ ixN xs.length j = some m ∧ xs[m]? = some (.int n) ∧ wpE K Γ te ss fun d => ∃ z, d = .int z ∧ e.nx (ss.set i (.own (xs.set m (.int (f n z)))))) :
    wpS K Γ (tAugS (tVar i) ti te (rIxL K) (ipI f) rSetL) ss e := fun H0 σ H τ D hl I kk => by
  obtain ⟨a, ha, _⟩ := Env.ownAt (qs := []) hl h I
  refine ⟨.ref a, ha, ?_⟩
  refine k H0 σ H τ hl I _ fun y dy H1 J1 c1 => ?_
  obtain ⟨j, m, n, rfl, hm, hn, c1⟩ := c1
  have ry : y = .int j := J1.val List.mem_cons_self
  subst ry
  obtain ⟨vs, hv, rv⟩ := J1.drop.own (a := a) (xs := xs) (List.mem_append_left _ (zip_get h ha))
  have hl2 := rv.length
  obtain ⟨v, hz, rd⟩ := rv.get hn
  have rd : v = .int n := rd
  subst rd
  have hav : atI vs j = some (.int n) := by
    show (ixN vs.length j).bind (fun m => vs[m]?) = some _
    rw [← hl2, hm]; exact hz
  refine ⟨a, vs, j, _, rfl, rfl, .inl (.inl hv), hav, ?_⟩
  refine c1 H0 σ H1 τ hl J1.drop _ fun x dx H2 J2 c => ?_
  obtain ⟨z, rfl, c⟩ := c
  have rx : x = .int z := J2.val List.mem_cons_self
  subst rx
  obtain ⟨ws, hw, rw'⟩ := J2.drop.own (a := a) (xs := xs) (List.mem_append_left _ (zip_get h ha))
  refine ⟨n, z, rfl, rfl, a, ws, j, m, rfl, rfl, hw, by rw [← rw'.length]; exact hm, ?_⟩
  exact kk.nx _ σ _ (by simp [hl]) (Env.ownSet hl h ha J2.drop (Reps.put (d := .int (f n z)) rfl rw')) c
end
end SQ
/-! sorted of a list of pairs of ints, of any length -/
namespace SQ
open PySem PySem.Spec PyProof.Rows L2
abbrev PT := Addr × (Int × Int)
def refT (t : PT) : V := .ref t.1
def rSortPT (K : PySem.W.Frag) : List V → Hp → VK → Prop := fun vs H Q => ∃ (a : Addr) (ts : List PT), vs = [V.ref a] ∧ SqL K H a (ts.map refT) ∧ (∀ t ∈ ts, SqT K H t.1 [.int t.2.1, .int t.2.2]) ∧
  ∀ (ys : List PT) (p : Addr), ys.Perm ts → ys.Pairwise (fun x y => SrtO.lexB y.2 x.2 = false) → H p = none → Q (.ref p) (upd H p (.lst (ys.map refT)))
def keyT (ts : List PT) : V → Int × Int
  | .ref a => match ts.find? (fun t => t.1 == a) with
    | some t => t.2
    | none => (0, 0)
  | _ => (0, 0)
def addrV : V → Addr
  | .ref a => a
  | _ => 0
section
variable {X : Cx}
theorem cr_sortPT : CallR X (.builtin "sorted") (rSortPT X.K) := by
  intro pins s σ H vs us Q I r h
  obtain ⟨a, ts, rfl, hs, hx, q⟩ := h
  have kt : ∀ t ∈ ts, keyT ts (refT t) = t.2 := fun t ht => by
    have hf : (ts.find? fun u => u.1 == t.1).isSome = true := List.find?_isSome.mpr ⟨t, ht, beq_self_eq_true _⟩
    obtain ⟨u, hu⟩ := Option.isSome_iff_exists.mp hf
    have hu1 : (u.1 == t.1) = true := List.find?_some (p := fun u : PT => u.1 == t.1) hu
    have hu2 : u ∈ ts := List.mem_of_find?_eq_some hu
    show (match ts.find? (fun u => u.1 == t.1) with | some t => t.2 | none => (0, 0)) = t.2
    rw [hu]
    have e1 : u.1 = t.1 := eq_of_beq hu1
    have h1 := hx u hu2
    rw [e1] at h1
    have := I.tuple_inj h1 (hx t ht)
    simp only [List.cons.injEq, V.int.injEq, and_true] at this
    exact Prod.ext this.1 this.2
  have rf : ∀ x ∈ ts.map refT, ∃ a, x = V.ref a := fun x hx => by
    obtain ⟨t, _, rfl⟩ := List.mem_map.mp hx
    exact ⟨_, rfl⟩
  obtain ⟨its, rv, hl, hz⟩ := I.list hs
  obtain ⟨u, rfl, ru⟩ := vals1 r
  obtain rfl : u = Value.ref a := ru
  obtain ⟨e1, e2⟩ := refs_back rv rf
  refine SrtO.sorted_pairsO (k := fun u => keyT ts (backV u)) hl.isList (by rw [← rv.length]; exact hz) (fun v hv => ?_) fun h' d out h1 h2 kp hd hn => ?_
  · obtain ⟨t, rfl⟩ := e2 v hv
    have hm : V.ref t ∈ ts.map refT := by rw [e1]; exact List.mem_map.mpr ⟨_, hv, rfl⟩
    obtain ⟨t', ht', e⟩ := List.mem_map.mp hm
    have e : V.ref t'.1 = V.ref t := e
    cases e
    obtain ⟨its2, r2, ⟨o, ho, hc, n, hd⟩, _⟩ := I.tuple (hx t' ht')
    obtain ⟨u1, u2, rfl, ri, rj⟩ := vals2 r2
    obtain ⟨t1, rfl⟩ := ri
    obtain ⟨t2, rfl⟩ := rj
    have kk : keyT ts (backV (Value.ref t'.1)) = t'.2 := kt t' ht'
    rw [kk]
    exact ⟨t'.1, o, t1, t2, n, rfl, ho, hc, hd⟩
  · have h3 : ∀ u ∈ out, ∃ a, u = Value.ref a := fun u hu => e2 u (h2.perm.mem_iff.mp hu)
    obtain ⟨n, hn⟩ := hn
    have pb : (out.map backV).Perm (ts.map refT) := by
      rw [e1]; exact h2.perm.map _
    let ys : List PT := (out.map backV).map fun x => (addrV x, keyT ts x)
    have ey : ys.map refT = out.map backV := by
      show ((out.map backV).map fun x => (addrV x, keyT ts x)).map refT = _
      rw [List.map_map]
      have : ∀ x ∈ out.map backV, (refT ∘ fun x => (addrV x, keyT ts x)) x = x := fun x hx => by
        obtain ⟨b, rfl⟩ := rf x (pb.mem_iff.mp hx)
        rfl
      rw [List.map_congr_left this, List.map_id']
    have py : ys.Perm ts := by
      have := pb.map fun x => (addrV x, keyT ts x)
      rw [List.map_map (f := refT)] at this
      have e : ts.map ((fun x => (addrV x, keyT ts x)) ∘ refT) = ts := by
        have : ∀ t ∈ ts, ((fun x => (addrV x, keyT ts x)) ∘ refT) t = t := fun t ht => by
          show (t.1, keyT ts (refT t)) = t
          rw [kt t ht]
        rw [List.map_congr_left this, List.map_id']
      rw [e] at this
      exact this
    have sy : ys.Pairwise (fun x y => SrtO.lexB y.2 x.2 = false) := by
      show ((out.map backV).map fun x => (addrV x, keyT ts x)).Pairwise _
      rw [List.map_map, List.pairwise_map]
      exact h1
    refine ⟨.ref d, upd H d (.lst (ys.map refT)), I.laid (t' := s.toks) kp hd ⟨?_, out, n, by rw [ey]; exact vals_back h3, hn⟩, rfl, q ys d py sy (I.hok.fresh hd)⟩
    rw [ey, pb.length_eq]
    exact hz
theorem cr_sortPTK {K : PySem.W.Frag} (h : X.K = K := by rfl) : CallR X (.builtin "sorted") (rSortPT K) := by subst h; exact cr_sortPT
end
def pairD (p : Int × Int) : D := .tup [.int p.1, .int p.2]
section
variable {K : PySem.W.Frag} {S : Addr → Prop} {H : Hp}
theorem pairs_refs : ∀ {ps : List (Int × Int)} {vs : List V}, Reps K S H (ps.map pairD) vs → ∃ ts : List PT, vs = ts.map refT ∧ ts.map (·.2) = ps ∧ ∀ t ∈ ts, SqT K H t.1 [.int t.2.1, .int t.2.2]
  | [], vs, h => by
    have h : vs = [] := h
    subst h
    exact ⟨[], rfl, rfl, fun t ht => by cases ht⟩
  | p :: ps, vs, h => by
    obtain ⟨v, ws, rfl, ⟨a, us, rfl, t, q⟩, b⟩ := h
    obtain ⟨u1, us1, rfl, e1, u2, us2, rfl, e2, e3⟩ := q
    have e1 : u1 = .int p.1 := e1
    have e2 : u2 = .int p.2 := e2
    have e3 : us2 = [] := e3
    subst e1 e2 e3
    obtain ⟨ts, rfl, h2, h3⟩ := pairs_refs b
    refine ⟨(a, p) :: ts, rfl, by rw [List.map_cons, h2], fun t' ht => ?_⟩
    rcases List.mem_cons.mp ht with rfl | ht
    · exact t
    · exact h3 t' ht
theorem refs_pairs : ∀ {ts : List PT}, (∀ t ∈ ts, SqT K H t.1 [.int t.2.1, .int t.2.2]) → Reps K S H ((ts.map (·.2)).map pairD) (ts.map refT)
  | [], _ => rfl
  | t :: ts, h => ⟨refT t, ts.map refT, rfl, ⟨t.1, [.int t.2.1, .int t.2.2], rfl, h t List.mem_cons_self, .int t.2.1, [.int t.2.2], rfl, rfl, .int t.2.2, [], rfl, rfl, rfl⟩, refs_pairs fun u hu => h u (List.mem_cons_of_mem _ hu)⟩
end
section
variable {K : PySem.W.Frag} {C : D → Prop} {CO : List D → Prop}
theorem wpBO_sortPT {ps : List (Int × Int)} (c : ∀ qs : List (Int × Int), qs.Perm ps → qs.Pairwise (fun x y => SrtO.lexB y x = false) → CO (qs.map pairD)) : wpBO K (rSortPT K) [.lst (ps.map pairD)] CO := fun S H vs l r Q q => by
  obtain ⟨v, rfl, a, ws, rfl, n, t, r⟩ := reps1 r
  obtain ⟨ts, rfl, h2, h3⟩ := pairs_refs r
  refine ⟨a, ts, rfl, .inl (.inl t), h3, fun ys p py sy hp => ?_⟩
  have pq : (ys.map (·.2)).Perm ps := by rw [← h2]; exact py.map _
  refine q p ((ys.map (·.2)).map pairD) (ys.map refT) hp (refs_pairs fun u hu => h3 u (py.mem_iff.mp hu)) (c _ pq ?_)
  rw [List.pairwise_map]; exact sy
theorem wpB_sortPT {ps : List (Int × Int)} (c : ∀ qs : List (Int × Int), qs.Perm ps → qs.Pairwise (fun x y => SrtO.lexB y x = false) → C (.lst (qs.map pairD))) : wpB K (rSortPT K) [.lst (ps.map pairD)] C := wpB_frz (wpBO_sortPT c)
end
end SQ
/-! comprehensions over pairs of ints, with a test -/
namespace SQ
open PySem PySem.Spec PyProof.Rows L2
def twoB (p : Int → Int → Bool) : D → Bool
  | .tup [.int x, .int y] => p x y
  | _ => false
section
variable {K : PySem.W.Frag} {Γ : Cxt} {ss : List Sl} {te : TE} {tt : TT} {ta : TA} {CO : List D → Prop} {i j : Nat}
theorem wpO_zipT (p : Int → Int → Bool) (f : Int → Int → D) (hi : i < (wipeS ss [i, j]).length) (hj : j < (wipeS ss [i, j]).length)
    (h : wpA K Γ ta ss fun ds => ∃ a b : List Int, (ds = [.tup (a.map .int), .tup (b.map .int)] ∨ ds = [.lst (a.map .int), .lst (b.map .int)]) ∧ a.length ≤ 100000 ∧
      (∀ x y, (x, y) ∈ a.zip b → wpT K Γ tt (((wipeS ss [i, j]).set i (.val (.int x))).set j (.val (.int y))) fun q => q = p x y ∧ (q = true → wpE K Γ te (((wipeS ss [i, j]).set i (.val (.int x))).set j (.val (.int y))) fun r => r = f x y)) ∧
      CO (((a.zip b).filter fun q => p q.1 q.2).map fun q => f q.1 q.2)) :
    wpO K Γ (tLc (RZ.iZipA K ta) (gTup K 2 (gCons (gName i) (gCons (gName j) gNil))) tt te [i, j]) ss CO := by
  refine wpO_lcF (p := twoB p) (f := two f) (wpI_zip ?_)
  intro H0 σ H τ hl I Q q
  refine h H0 σ H τ hl I Q fun vs ds H1 hd I1 c => q vs ds H1 hd I1 ?_
  obtain ⟨a, b, e, hz, hb, c⟩ := c
  have key : (zipD (a.map D.int) (b.map D.int)).length ≤ 100000 ∧ (∀ d ∈ zipD (a.map D.int) (b.map D.int), wpG K Γ [i, j] (gTup K 2 (gCons (gName i) (gCons (gName j) gNil))) d (wipeS ss [i, j]) fun ss2 => wpT K Γ tt ss2 fun x => x = twoB p d ∧ (x = true → wpE K Γ te ss2 fun y => y = two f d)) ∧
      CO (((zipD (a.map D.int) (b.map D.int)).filter (twoB p)).map (two f)) := by
    rw [zipI]
    refine ⟨?_, fun d hd => ?_, ?_⟩
    · rw [List.length_map, List.length_zip]; omega
    · obtain ⟨⟨x, y⟩, hp, rfl⟩ := List.mem_map.mp hd
      exact wpG_pair hi hj (by simp) (by simp) rfl (hb x y hp)
    · rw [List.filter_map, List.map_map]
      exact c
  rcases e with e | e
  · exact .inr ⟨_, _, e, key⟩
  · exact .inl ⟨_, _, e, key⟩
end
end SQ
/-! enumerate of a zip of two tuples -/
namespace SQ
open PySem PySem.Spec PyProof.Rows L2 RZ
open Sem (wp)
abbrev zpObj (f0 f1 : Value) (TI TO : Addr) : Obj := { cls := .type "zip", dict := none, data := .fields #[f0, f1, .bool false, .ref TI, .ref TO], slots := #[] }
abbrev prObj (x y : Value) : Obj := { cls := .type "tuple", data := .seq #[x, y] }
/-- a zip within another iterator: its pair was taken or not -/
def ZBusy (h : Heap) (z TI TO : Addr) : Prop := ∃ (T : Addr) (f : Bool), h.get? z = some (zpObj (rawInt T) (.bool f) TI TO)
section
variable {prog : Program} {w : World} {A : Around} {E : Value → Shared → Prop} {s : Shared}
theorem wpAny_loadIfAlive {a : Addr} {Q : Option Obj → Shared → Prop} (h : Q (s.heap.get? a) s) : wpAny (model prog w) A (loadIfAlive a) Q E s := by
  unfold wpAny loadIfAlive
  intros
  rw [Sem.wp_loadIfAlive]
  first | exact h | (rw [Sem.wp_pure]; exact h)
/-- the pair that was handed out: it is alive, or gone -/
theorem zip_free {z TI TO : Addr} {Q : Bool → Shared → Prop} (hz : ZBusy s.heap z TI TO)
    (hQ : ∀ h', ZBusy h' z TI TO → Heap.SameBut z s.heap h' → Q false { s with heap := h' }) (hR : Q true s) :
    wpAny (model prog w) A (Builtin.SmallTypes.ownedTupleIsFree (.ref z)) Q E s := by
  obtain ⟨T, f, hz⟩ := hz
  unfold Builtin.SmallTypes.ownedTupleIsFree
  refine wpAny_bind (wpAny_field hz rfl (x := rawInt T) rfl ?_)
  simp only [rawInt]
  refine wpAny_bind (wpAny_loadIfAlive ?_)
  cases e : s.heap.get? (T : Int).toNat with
  | none =>
    simp only [Option.isNone_none, if_true]
    exact wpAny_pure hR
  | some oT =>
    simp only [Option.isNone_some, Bool.false_eq_true, if_false]
    refine wpAny_bind (wpAny_field hz rfl (x := .bool f) rfl ?_)
    cases f with
    | true =>
      simp only [bne_self_eq_false, Bool.false_eq_true, if_false]
      exact wpAny_pure (hQ s.heap ⟨T, true, hz⟩ ⟨rfl, fun _ _ => rfl⟩)
    | false =>
      rw [if_pos (by rfl)]
      refine wpAny_bind (wpAny_setField_rec hz (by simp) fun h₁ hz₁ hs₁ => wpAny_pure ?_)
      exact hQ h₁ ⟨T, true, hz₁⟩ hs₁
theorem zipB_next_item {z TI TO i1 i2 l1 l2 : Addr} {k1 k2 : Nat} {xs ys : Array Value} {x y : Value} {Q : Value → Shared → Prop} (D : ZipApart z TI TO i1 i2 l1 l2)
    (hz : ZBusy s.heap z TI TO) (hTI : PySem.IsPair s.heap TI (.ref i1) (.ref i2)) {a b : Value} (hTO : PySem.IsPair s.heap TO a b)
    (h1 : s.heap.IsTupleIter i1 l1 k1) (h2 : s.heap.IsTupleIter i2 l2 k2) (hl1 : s.heap.IsTuple l1 xs) (hl2 : s.heap.IsTuple l2 ys) (hx : xs[k1]? = some x) (hy : ys[k2]? = some y)
    (hQ : ∀ h', ZBusy h' z TI TO → (∃ p q, PySem.IsPair h' TO p q) → h'.IsTupleIter i1 l1 (k1 + 1) → h'.IsTupleIter i2 l2 (k2 + 1) → PySem.IsPair h' s.heap.objs.size x y → h'.objs.size = s.heap.objs.size + 1 →
      (∀ c o, c ≠ z → c ≠ TO → c ≠ i1 → c ≠ i2 → s.heap.get? c = some o → h'.get? c = some o) → Q (.ref s.heap.objs.size) { s with heap := h' }) :
    wpAny (model prog w) A (Builtin.«zip.__next__» ⟨[.ref z], []⟩) (fun fin s' => ∃ v, fin = .done (.ret v) ∧ Q v s') E s := by
  obtain ⟨T0, f0, hz0⟩ := id hz
  show wpAny _ _ (field (.ref z) 2 >>= _) _ _ _
  refine wpAny_bind (wpAny_field hz0 rfl (x := .bool false) rfl ?_)
  show wpAny _ _ (field (.ref z) 3 >>= _) _ _ _
  refine wpAny_bind (wpAny_field hz0 rfl (x := .ref TI) rfl ?_)
  refine wpAny_bind (wpAny_seqItems hTI rfl ?_)
  show wpAny _ _ (Builtin.SmallTypes.ownedTupleIsFree (.ref z) >>= _) _ _ _
  refine wpAny_bind (zip_free hz (fun h₁ hb₁ hs₁ => ?_) ?gone)
  case gone =>
    simp only [if_true]
    refine wpAny_bind (wpAny_rule ?_)
    refine wpAny_bind (wpAny_field hz0 rfl (x := .ref TO) rfl ?_)
    refine wpAny_bind (wpAny_setField_rec hz0 (by simp) fun g1 zz1 t1 => ?_)
    have zz1 : g1.get? z = some (zpObj .ellipsis (.bool f0) TI TO) := zz1
    simp only [List.zipIdx_cons, List.zipIdx_nil, List.forIn_cons, List.forIn_nil]
    refine wpAny_bind (wpAny_bind (wpAny_bind (wpAny_onRaise ?_)))
    show wpAny _ _ (Builtin.SmallTypes.nextOf (.ref i1) >>= _) _ _ _
    refine wpAny_bind (nextOf_tuple_item (h1.extBut t1.extBut D.i1z) (hl1.extBut t1.extBut D.l1z) hx fun g2 j1 t2 => wpAny_pure ?_)
    have to2 : PySem.IsPair g2 TO a b := t2.extBut _ _ D.TOi1 (t1.extBut _ _ D.TOz hTO)
    refine wpAny_bind (wpAny_seqItems to2 rfl (wpAny_bind (wpAny_updateSeq_pair to2 fun g3 to3 t3 => wpAny_bind (wpAny_letGo (wpAny_pure ?_)))))
    have to3 : PySem.IsPair g3 TO x b := to3
    refine wpAny_bind (wpAny_bind (wpAny_onRaise ?_))
    show wpAny _ _ (Builtin.SmallTypes.nextOf (.ref i2) >>= _) _ _ _
    refine wpAny_bind (nextOf_tuple_item (((h2.extBut t1.extBut D.i2z).extBut t2.extBut D.i12.symm).extBut t3.extBut D.TOi2.symm)
      (((hl2.extBut t1.extBut D.l2z).extBut t2.extBut D.l2i1).extBut t3.extBut D.l2TO) hy fun g4 j2 t4 => wpAny_pure ?_)
    have to4 : PySem.IsPair g4 TO x b := t4.extBut _ _ D.TOi2 to3
    refine wpAny_bind (wpAny_seqItems to4 rfl (wpAny_bind (wpAny_updateSeq_pair to4 fun g5 to5 t5 => wpAny_bind (wpAny_letGo (wpAny_pure (wpAny_pure ?_))))))
    have to5 : PySem.IsPair g5 TO x y := to5
    refine wpAny_bind (wpAny_seqItems to5 rfl (wpAny_bind (wpAny_newTuple ?_)))
    have zs : g5.objs.size = s.heap.objs.size := by rw [t5.1, t4.1, t3.1, t2.1, t1.1]
    have zz5 : g5.get? z = some (zpObj .ellipsis (.bool f0) TI TO) := t5.extBut _ _ D.TOz.symm (t4.extBut _ _ D.i2z.symm (t3.extBut _ _ D.TOz.symm (t2.extBut _ _ D.i1z.symm zz1)))
    have kk : ∀ c o, c ≠ z → c ≠ TO → c ≠ i1 → c ≠ i2 → s.heap.get? c = some o → g5.get? c = some o := fun c o c1 c2 c3 c4 e =>
      t5.extBut _ _ c2 (t4.extBut _ _ c4 (t3.extBut _ _ c2 (t2.extBut _ _ c3 (t1.extBut _ _ c1 e))))
    have ii1 : g5.IsTupleIter i1 l1 (k1 + 1) := ((j1.extBut t3.extBut D.TOi1.symm).extBut t4.extBut D.i12).extBut t5.extBut D.TOi1.symm
    have ii2 : g5.IsTupleIter i2 l2 (k2 + 1) := j2.extBut t5.extBut D.TOi2.symm
    have zlt : z < g5.objs.size := Heap.lt_size zz5
    show wpAny _ _ (Builtin.SmallTypes.ownedTupleHandOut (.ref z) (.ref g5.objs.size) >>= _) _ _ _
    refine wpAny_bind ?_
    unfold Builtin.SmallTypes.ownedTupleHandOut
    have zz6 : (g5.push (prObj x y)).get? z = some (zpObj .ellipsis (.bool f0) TI TO) := Heap.get?_push_of_some _ zz5
    refine wpAny_bind (wpAny_setField_rec zz6 (by simp) fun g7 zz7 t7 => ?_)
    have zz7 : g7.get? z = some (zpObj (rawInt g5.objs.size) (.bool f0) TI TO) := zz7
    refine wpAny_setField_rec zz7 (by simp) fun g8 zz8 t8 => ?_
    have zz8 : g8.get? z = some (zpObj (rawInt g5.objs.size) (.bool false) TI TO) := zz8
    have up : ∀ c o, c ≠ z → g5.get? c = some o → g8.get? c = some o := fun c o c1 e => t8.extBut _ _ c1 (t7.extBut _ _ c1 (Heap.get?_push_of_some _ e))
    have pr8 : g8.get? g5.objs.size = some (prObj x y) := t8.extBut _ _ (Nat.ne_of_gt zlt) (t7.extBut _ _ (Nat.ne_of_gt zlt) (Heap.get?_push_size _ rfl))
    have sz8 : g8.objs.size = g5.objs.size + 1 := by rw [t8.1, t7.1, Heap.size_push]
    rw [zs] at pr8 sz8
    refine wpAny_pure ⟨_, rfl, ?_⟩
    show Q (.ref g5.objs.size) _
    rw [zs]
    exact hQ g8 ⟨_, false, zz8⟩ ⟨x, y, up _ _ D.TOz to5⟩ (ii1.at fun o e => up _ o D.i1z e) (ii2.at fun o e => up _ o D.i2z e) pr8 sz8 fun c o c1 c2 c3 c4 e => up c o c1 (kk c o c1 c2 c3 c4 e)
  simp only [Bool.false_eq_true, if_false]
  simp only [List.forIn_toArray, List.forIn_cons, List.forIn_nil]
  refine wpAny_bind (wpAny_bind (wpAny_bind (wpAny_holding ?_)))
  show wpAny _ _ (Builtin.SmallTypes.nextOf (.ref i1) >>= _) _ _ _
  refine wpAny_bind (nextOf_tuple_item (h1.extBut hs₁.extBut D.i1z) (hl1.extBut hs₁.extBut D.l1z) hx fun h₂ h1₂ hs₂ => wpAny_pure (wpAny_pure ?_))
  refine wpAny_bind (wpAny_bind (wpAny_holding ?_))
  show wpAny _ _ (Builtin.SmallTypes.nextOf (.ref i2) >>= _) _ _ _
  refine wpAny_bind (nextOf_tuple_item ((h2.extBut hs₁.extBut D.i2z).extBut hs₂.extBut D.i12.symm)
    ((hl2.extBut hs₁.extBut D.l2z).extBut hs₂.extBut D.l2i1) hy fun h₃ h2₃ hs₃ => wpAny_pure (wpAny_pure (wpAny_pure ?_)))
  refine wpAny_bind (wpAny_newTuple ?_ (by show 2 ≤ sizeLine; decide))
  have hsz : h₃.objs.size = s.heap.objs.size := by rw [hs₃.1, hs₂.1, hs₁.1]
  refine wpAny_pure ⟨_, rfl, ?_⟩
  show Q (.ref h₃.objs.size) _
  have hn : ∀ c o, h₃.get? c = some o → (h₃.push (prObj x y)).get? c = some o := fun c o e => Heap.get?_push_of_some _ e
  have hpair : (h₃.push (prObj x y)).get? h₃.objs.size = some (prObj x y) := Heap.get?_push_size _ rfl
  rw [hsz] at hpair ⊢
  refine hQ _ ?_ ⟨a, b, hn _ _ (hs₃.extBut _ _ D.TOi2 (hs₂.extBut _ _ D.TOi1 (hs₁.extBut _ _ D.TOz hTO)))⟩ ?_ ?_ hpair (by rw [Heap.size_push, hsz]) ?_
  · obtain ⟨T', f', a1⟩ := hb₁
    exact ⟨T', f', hn _ _ (hs₃.extBut _ _ D.i2z.symm (hs₂.extBut _ _ D.i1z.symm a1))⟩
  · exact (h1₂.extBut hs₃.extBut D.i12).at fun o q => hn _ o q
  · exact h2₃.at fun o q => hn _ o q
  · exact fun c o c1 _ c2 c3 e => hn c o (hs₃.extBut _ _ c3 (hs₂.extBut _ _ c2 (hs₁.extBut _ _ c1 e)))
theorem zipB_next_end {z TI TO i1 i2 l1 l2 : Addr} {k1 k2 : Nat} {xs ys : Array Value} {Q : Fin → Shared → Prop} (hh : A.handled = none) (D : ZipApart z TI TO i1 i2 l1 l2)
    (hz : ZBusy s.heap z TI TO) (hTI : PySem.IsPair s.heap TI (.ref i1) (.ref i2)) {a b : Value} (hTO : PySem.IsPair s.heap TO a b)
    (h1 : s.heap.IsTupleIter i1 l1 k1) (h2 : s.heap.IsTupleIter i2 l2 k2) (hl1 : s.heap.IsTuple l1 xs) (hl2 : s.heap.IsTuple l2 ys) (hend : xs[k1]? = none ∨ ys[k2]? = none)
    (hE : ∀ h' e, (∀ c o, c ≠ z → c ≠ TO → c ≠ i1 → c ≠ i2 → s.heap.get? c = some o → h'.get? c = some o) → (∃ o, h'.get? e = some o ∧ o.cls = .type "StopIteration") → E (.ref e) { s with heap := h' }) :
    wpAny (model prog w) A (Builtin.«zip.__next__» ⟨[.ref z], []⟩) Q E s := by
  obtain ⟨T0, f0, hz0⟩ := id hz
  show wpAny _ _ (field (.ref z) 2 >>= _) _ _ _
  refine wpAny_bind (wpAny_field hz0 rfl (x := .bool false) rfl ?_)
  show wpAny _ _ (field (.ref z) 3 >>= _) _ _ _
  refine wpAny_bind (wpAny_field hz0 rfl (x := .ref TI) rfl ?_)
  refine wpAny_bind (wpAny_seqItems hTI rfl ?_)
  show wpAny _ _ (Builtin.SmallTypes.ownedTupleIsFree (.ref z) >>= _) _ _ _
  refine wpAny_bind (zip_free hz (fun h₁ hb₁ hs₁ => ?_) ?gone)
  case gone =>
    simp only [if_true]
    refine wpAny_bind (wpAny_rule ?_)
    refine wpAny_bind (wpAny_field hz0 rfl (x := .ref TO) rfl ?_)
    refine wpAny_bind (wpAny_setField_rec hz0 (by simp) fun g1 zz1 t1 => ?_)
    have zz1 : g1.get? z = some (zpObj .ellipsis (.bool f0) TI TO) := zz1
    simp only [List.zipIdx_cons, List.zipIdx_nil, List.forIn_cons, List.forIn_nil]
    refine wpAny_bind (wpAny_bind (wpAny_bind (wpAny_onRaise ?_)))
    show wpAny _ _ (Builtin.SmallTypes.nextOf (.ref i1) >>= _) _ _ _
    cases hx : xs[k1]? with
    | none =>
      refine wpAny_bind (nextOf_tuple_end hh (h1.extBut t1.extBut D.i1z) (hl1.extBut t1.extBut D.l1z) hx fun g2 e t2 he => ?_)
      obtain ⟨oe, hoe, hce⟩ := he
      have zz2 : g2.get? z = some (zpObj .ellipsis (.bool f0) TI TO) := t2 _ _ D.i1z.symm zz1
      have ez : e ≠ z := fun q => by subst q; rw [zz2] at hoe; cases hoe; simp at hce
      exact wpAny_setField_rec zz2 (by simp) fun g3 _ t3 => hE g3 e (fun c o c1 _ c3 _ q => t3.extBut _ _ c1 (t2 _ _ c3 (t1.extBut _ _ c1 q))) ⟨oe, t3.extBut _ _ ez hoe, hce⟩
    | some x =>
      have hy : ys[k2]? = none := by rcases hend with h | h; rw [hx] at h; cases h; exact h
      refine wpAny_bind (nextOf_tuple_item (h1.extBut t1.extBut D.i1z) (hl1.extBut t1.extBut D.l1z) hx fun g2 j1 t2 => wpAny_pure ?_)
      have to2 : PySem.IsPair g2 TO a b := t2.extBut _ _ D.TOi1 (t1.extBut _ _ D.TOz hTO)
      refine wpAny_bind (wpAny_seqItems to2 rfl (wpAny_bind (wpAny_updateSeq_pair to2 fun g3 to3 t3 => wpAny_bind (wpAny_letGo (wpAny_pure ?_)))))
      refine wpAny_bind (wpAny_bind (wpAny_onRaise ?_))
      show wpAny _ _ (Builtin.SmallTypes.nextOf (.ref i2) >>= _) _ _ _
      refine wpAny_bind (nextOf_tuple_end hh (((h2.extBut t1.extBut D.i2z).extBut t2.extBut D.i12.symm).extBut t3.extBut D.TOi2.symm)
        (((hl2.extBut t1.extBut D.l2z).extBut t2.extBut D.l2i1).extBut t3.extBut D.l2TO) hy fun g4 e t4 he => ?_)
      obtain ⟨oe, hoe, hce⟩ := he
      have zz4 : g4.get? z = some (zpObj .ellipsis (.bool f0) TI TO) := t4 _ _ D.i2z.symm (t3.extBut _ _ D.TOz.symm (t2.extBut _ _ D.i1z.symm zz1))
      have ez : e ≠ z := fun q => by subst q; rw [zz4] at hoe; cases hoe; simp at hce
      exact wpAny_setField_rec zz4 (by simp) fun g5 _ t5 => hE g5 e (fun c o c1 c2 c3 c4 q => t5.extBut _ _ c1 (t4 _ _ c4 (t3.extBut _ _ c2 (t2.extBut _ _ c3 (t1.extBut _ _ c1 q))))) ⟨oe, t5.extBut _ _ ez hoe, hce⟩
  simp only [Bool.false_eq_true, if_false]
  simp only [List.forIn_toArray, List.forIn_cons, List.forIn_nil]
  refine wpAny_bind (wpAny_bind (wpAny_bind (wpAny_holding ?_)))
  show wpAny _ _ (Builtin.SmallTypes.nextOf (.ref i1) >>= _) _ _ _
  cases hx : xs[k1]? with
  | none =>
    refine wpAny_bind (nextOf_tuple_end hh (h1.extBut hs₁.extBut D.i1z) (hl1.extBut hs₁.extBut D.l1z) hx fun h₂ e hs₂ he => ?_)
    exact hE h₂ e (fun c o c1 _ c3 _ x => hs₂ _ _ c3 (hs₁.extBut _ _ c1 x)) he
  | some x =>
    have hy : ys[k2]? = none := by rcases hend with h | h; rw [hx] at h; cases h; exact h
    refine wpAny_bind (nextOf_tuple_item (h1.extBut hs₁.extBut D.i1z) (hl1.extBut hs₁.extBut D.l1z) hx fun h₂ h1₂ hs₂ => wpAny_pure (wpAny_pure ?_))
    refine wpAny_bind (wpAny_bind (wpAny_holding ?_))
    show wpAny _ _ (Builtin.SmallTypes.nextOf (.ref i2) >>= _) _ _ _
    refine wpAny_bind (nextOf_tuple_end hh ((h2.extBut hs₁.extBut D.i2z).extBut hs₂.extBut D.i12.symm)
      ((hl2.extBut hs₁.extBut D.l2z).extBut hs₂.extBut D.l2i1) hy fun h₄ e hs₄ he => ?_)
    exact hE h₄ e (fun c o c1 _ c3 c4 x => hs₄ _ _ c4 (hs₂.extBut _ _ c3 (hs₁.extBut _ _ c1 x))) he
/-- a zip within another iterator, at any time -/
def ZAny (h : Heap) (z TI TO : Addr) : Prop := PySem.IsZip h z TI TO .none ∨ ZBusy h z TI TO
structure ZSt (h : Heap) (z TI TO i1 i2 l1 l2 : Addr) (i : Nat) : Prop where
  z : ZAny h z TI TO
  TI : PySem.IsPair h TI (.ref i1) (.ref i2)
  TO : ∃ x y, PySem.IsPair h TO x y
  i1 : h.IsTupleIter i1 l1 i
  i2 : h.IsTupleIter i2 l2 i
theorem nextZ_item {z TI TO i1 i2 l1 l2 : Addr} {k : Nat} {xs ys : Array Value} {x y : Value} {Q : Value → Shared → Prop} (D : ZipApart z TI TO i1 i2 l1 l2) (hst : ZSt s.heap z TI TO i1 i2 l1 l2 k)
    (hl1 : s.heap.IsTuple l1 xs) (hl2 : s.heap.IsTuple l2 ys) (hx : xs[k]? = some x) (hy : ys[k]? = some y)
    (hQ : ∀ h', ZSt h' z TI TO i1 i2 l1 l2 (k + 1) → PySem.IsPair h' s.heap.objs.size x y → h'.objs.size = s.heap.objs.size + 1 →
      (∀ c o, c ≠ z → c ≠ TO → c ≠ i1 → c ≠ i2 → s.heap.get? c = some o → h'.get? c = some o) → Q (.ref s.heap.objs.size) { s with heap := h' }) :
    wpAny (model prog w) A (Builtin.SmallTypes.nextOf (.ref z)) Q E s := by
  obtain ⟨hz, hTI, ⟨a, b, hTO⟩, h1, h2⟩ := hst
  have hT : s.TypeIs (.ref z) "zip" := by
    rcases hz with hz | ⟨_, _, hz⟩
    · exact ⟨_, hz, rfl⟩
    · exact ⟨_, hz, rfl⟩
  unfold Builtin.SmallTypes.nextOf
  refine wpAny_bind (wpAny_callSpecial?_slot (name := Str.ofString "__next__") hT F.slot_zip_next
    (wpAny_call_entry F.slot_zip_next hT F.entry_zip_next ?_ (F.args_zip_next_1 _)))
  rcases hz with hz | hz
  · refine zipT_next_item D hz hTI hTO h1 h2 hl1 hl2 hx hy fun h' a1 a2 a3 a4 a5 a6 a7 => wpAny_pure (hQ h' ⟨.inr ⟨_, false, a1⟩, ?_, ⟨_, _, a2⟩, a3, a4⟩ a5 a6 a7)
    exact a7 _ _ D.TIz D.TITO D.TIi1 D.TIi2 hTI
  · refine zipB_next_item D hz hTI hTO h1 h2 hl1 hl2 hx hy fun h' a1 a2 a3 a4 a5 a6 a7 => wpAny_pure (hQ h' ⟨.inr a1, ?_, a2, a3, a4⟩ a5 a6 a7)
    exact a7 _ _ D.TIz D.TITO D.TIi1 D.TIi2 hTI
theorem nextZ_end {z TI TO i1 i2 l1 l2 : Addr} {k : Nat} {xs ys : Array Value} {Q : Value → Shared → Prop} (hh : A.handled = none) (D : ZipApart z TI TO i1 i2 l1 l2) (hst : ZSt s.heap z TI TO i1 i2 l1 l2 k)
    (hl1 : s.heap.IsTuple l1 xs) (hl2 : s.heap.IsTuple l2 ys) (hend : xs[k]? = none ∨ ys[k]? = none)
    (hE : ∀ h' e, (∀ c o, c ≠ z → c ≠ TO → c ≠ i1 → c ≠ i2 → s.heap.get? c = some o → h'.get? c = some o) → (∃ o, h'.get? e = some o ∧ o.cls = .type "StopIteration") → E (.ref e) { s with heap := h' }) :
    wpAny (model prog w) A (Builtin.SmallTypes.nextOf (.ref z)) Q E s := by
  obtain ⟨hz, hTI, ⟨a, b, hTO⟩, h1, h2⟩ := hst
  have hT : s.TypeIs (.ref z) "zip" := by
    rcases hz with hz | ⟨_, _, hz⟩
    · exact ⟨_, hz, rfl⟩
    · exact ⟨_, hz, rfl⟩
  unfold Builtin.SmallTypes.nextOf
  refine wpAny_bind (wpAny_callSpecial?_slot (name := Str.ofString "__next__") hT F.slot_zip_next
    (wpAny_call_entry F.slot_zip_next hT F.entry_zip_next ?_ (F.args_zip_next_1 _)))
  rcases hz with hz | hz
  · exact zipT_next_end hh D hz hTI hTO h1 h2 hl1 hl2 hend hE
  · exact zipB_next_end hh D hz hTI hTO h1 h2 hl1 hl2 hend hE
theorem ZSt.frame {h h' : Heap} {z TI TO i1 i2 l1 l2 e : Addr} {i : Nat} (S : ZSt h z TI TO i1 i2 l1 l2 i) (k : ∀ c o, c ≠ e → h.get? c = some o → h'.get? c = some o) (n : z ≠ e ∧ TI ≠ e ∧ TO ≠ e ∧ i1 ≠ e ∧ i2 ≠ e) : ZSt h' z TI TO i1 i2 l1 l2 i := by
  obtain ⟨n1, n2, n3, n4, n5⟩ := n
  refine ⟨?_, k _ _ n2 S.TI, ?_, S.i1.at fun o q => k _ o n4 q, S.i2.at fun o q => k _ o n5 q⟩
  · rcases S.z with hz | ⟨T, f, hz⟩
    · exact .inl (k _ _ n1 hz)
    · exact .inr ⟨T, f, k _ _ n1 hz⟩
  · obtain ⟨x, y, q⟩ := S.TO
    exact ⟨x, y, k _ _ n3 q⟩
/-- enumerate's next over a zip -/
theorem enumZ_next_item {e z TI TO i1 i2 l1 l2 : Addr} {i : Nat} {xs ys : Array Value} {x y old : Value} {Q : Value → Shared → Prop}
    (D : ZipApart z TI TO i1 i2 l1 l2) (he : IsEnum s.heap e z i old) (hst : ZSt s.heap z TI TO i1 i2 l1 l2 i) (n : z ≠ e ∧ TI ≠ e ∧ TO ≠ e ∧ i1 ≠ e ∧ i2 ≠ e)
    (hl1 : s.heap.IsTuple l1 xs) (hl2 : s.heap.IsTuple l2 ys) (hx : xs[i]? = some x) (hy : ys[i]? = some y)
    (hQ : ∀ h₁ h', (PySem.IsPair h₁ s.heap.objs.size x y ∧ (∀ c o, c ≠ z → c ≠ TO → c ≠ i1 → c ≠ i2 → s.heap.get? c = some o → h₁.get? c = some o)) →
      IsEnumOut h' e z ((i : Int) + 1) (.ref s.heap.objs.size) (s.heap.objs.size + 1) → ZSt h' z TI TO i1 i2 l1 l2 (i + 1) →
      h'.get? (s.heap.objs.size + 1) = some (prObj (.int i s.toks) (.ref s.heap.objs.size)) → h₁.objs.size = s.heap.objs.size + 1 →
      (∀ b o, b ≠ e → h₁.get? b = some o → h'.get? b = some o) → Q (.ref (s.heap.objs.size + 1)) { s with heap := h', toks := s.toks + 1 }) :
    wpAny (model prog w) A (Builtin.«enumerate.__next__» ⟨[.ref e], []⟩) (fun fin s' => ∃ v, fin = .done (.ret v) ∧ Q v s') E s := by
  obtain ⟨hp, g, d, tk, os⟩ := s
  show wpAny _ _ (field (.ref e) 2 >>= _) _ _ _
  refine wpAny_bind (wpAny_field he rfl (x := .ref z) rfl ?_)
  refine wpAny_bind (nextZ_item D hst hl1 hl2 hx hy fun h₁ st₁ pr₁ sz₁ k₁ => ?_)
  have el : e < hp.objs.size := Heap.lt_size he
  have pr₁ : PySem.IsPair h₁ hp.objs.size x y := pr₁
  have sz₁ : h₁.objs.size = hp.objs.size + 1 := sz₁
  have k₁ : ∀ c o, c ≠ z → c ≠ TO → c ≠ i1 → c ≠ i2 → hp.get? c = some o → h₁.get? c = some o := k₁
  have he₁ : IsEnum h₁ e z i old := k₁ e _ n.1.symm n.2.2.1.symm n.2.2.2.1.symm n.2.2.2.2.symm he
  show wpAny _ _ (field (.ref e) 3 >>= _) _ _ ⟨h₁, g, d, tk, os⟩
  refine wpAny_bind (wpAny_field he₁ rfl (x := rawInt i) rfl ?_)
  show wpAny _ _ (field (.ref e) 4 >>= _) _ _ ⟨h₁, g, d, tk, os⟩
  refine wpAny_bind (wpAny_field he₁ rfl (x := .none) rfl ?_)
  show wpAny _ _ (mkInt i >>= _) _ _ ⟨h₁, g, d, tk, os⟩
  refine wpAny_bind (wpAny_mkInt ?_)
  show wpAny _ _ (setField (.ref e) 3 (rawInt ((i : Int) + 1)) >>= _) _ _ ⟨h₁, g, d, tk + 1, os⟩
  refine wpAny_bind (wpAny_setField_rec he₁ (by simp) fun h₂ he₂ hs₂ => ?_)
  replace hs₂ : Heap.SameBut e h₁ h₂ := hs₂
  replace he₂ : IsEnum h₂ e z ((i : Int) + 1) old := he₂
  show wpAny _ _ (setField (.ref e) 4 .none >>= _) _ _ ⟨h₂, g, d, tk + 1, os⟩
  refine wpAny_bind (wpAny_setField_rec he₂ (by simp) fun h₃ he₃ hs₃ => ?_)
  replace hs₃ : Heap.SameBut e h₂ h₃ := hs₃
  replace he₃ : IsEnum h₃ e z ((i : Int) + 1) old := he₃
  show wpAny _ _ (newTuple [.int i tk, .ref hp.objs.size] >>= _) _ _ ⟨h₃, g, d, tk + 1, os⟩
  refine wpAny_bind (wpAny_newTuple ?_)
  have he₄ : IsEnum (h₃.push (prObj (.int i tk) (.ref hp.objs.size))) e z ((i : Int) + 1) old := Heap.get?_push_of_some _ he₃
  have hsz : h₃.objs.size = hp.objs.size + 1 := by rw [hs₃.1, hs₂.1, sz₁]
  have ht₄ : (h₃.push (prObj (.int i tk) (.ref hp.objs.size))).get? (hp.objs.size + 1) = some (prObj (.int i tk) (.ref hp.objs.size)) := by rw [← hsz]; exact Heap.get?_push_size _ rfl
  have k₄ : ∀ b o, b ≠ e → h₁.get? b = some o → (h₃.push (prObj (.int i tk) (.ref hp.objs.size))).get? b = some o := fun b o hb q => Heap.get?_push_of_some _ (hs₃.extBut b o hb (hs₂.extBut b o hb q))
  show wpAny _ _ (Builtin.SmallTypes.ownedTupleIsFree (.ref e) >>= _) _ _ ⟨h₃.push (prObj (.int i tk) (.ref hp.objs.size)), g, d, tk + 1, os⟩
  rw [hsz]
  generalize h₃.push (prObj (.int i tk) (.ref hp.objs.size)) = h₄ at he₄ ht₄ k₄
  refine wpAny_bind ?_
  · unfold Builtin.SmallTypes.ownedTupleIsFree
    refine wpAny_bind (wpAny_field he₄ rfl (x := .none) rfl (wpAny_pure ?_))
    simp only [if_true]
    refine wpAny_bind (wpAny_rule ?_)
    refine wpAny_bind (wpAny_field he₄ rfl (x := old) rfl ?_)
    refine wpAny_bind (wpAny_setField_rec he₄ (by simp) fun h₅ he₅ hs₅ => ?_)
    replace hs₅ : Heap.SameBut e h₄ h₅ := hs₅
    replace he₅ : IsEnum h₅ e z ((i : Int) + 1) (.ref hp.objs.size) := he₅
    show wpAny _ _ (Builtin.SmallTypes.ownedTupleHandOut (.ref e) (.ref (hp.objs.size + 1)) >>= _) _ _ ⟨h₅, g, d, tk + 1, os⟩
    refine wpAny_bind ?_
    · unfold Builtin.SmallTypes.ownedTupleHandOut
      refine wpAny_bind (wpAny_setField_rec he₅ (by simp) fun h₆ he₆ hs₆ => ?_)
      replace hs₆ : Heap.SameBut e h₅ h₆ := hs₆
      replace he₆ : IsEnumOut h₆ e z ((i : Int) + 1) (.ref hp.objs.size) (hp.objs.size + 1) := he₆
      refine wpAny_setField_rec he₆ (by simp) fun h₇ he₇ hs₇ => ?_
      replace hs₇ : Heap.SameBut e h₆ h₇ := hs₇
      replace he₇ : IsEnumOut h₇ e z ((i : Int) + 1) (.ref hp.objs.size) (hp.objs.size + 1) := he₇
      have k₇ : ∀ b o, b ≠ e → h₁.get? b = some o → h₇.get? b = some o := fun b o hb q => hs₇.extBut b o hb (hs₆.extBut b o hb (hs₅.extBut b o hb (k₄ b o hb q)))
      have ne : hp.objs.size + 1 ≠ e := Nat.ne_of_gt (Nat.lt_succ_of_lt el)
      exact wpAny_bind (wpAny_letGo (wpAny_pure ⟨_, rfl, hQ h₁ h₇ ⟨pr₁, k₁⟩ he₇ (st₁.frame k₇ n) (hs₇.extBut _ _ ne (hs₆.extBut _ _ ne (hs₅.extBut _ _ ne ht₄))) sz₁ k₇⟩))
theorem pyNext_enumZ_item {e z TI TO i1 i2 l1 l2 : Addr} {i : Nat} {xs ys : Array Value} {x y old : Value} {Q : Option Value → Shared → Prop}
    (D : ZipApart z TI TO i1 i2 l1 l2) (he : IsEnum s.heap e z i old) (hst : ZSt s.heap z TI TO i1 i2 l1 l2 i) (n : z ≠ e ∧ TI ≠ e ∧ TO ≠ e ∧ i1 ≠ e ∧ i2 ≠ e)
    (hl1 : s.heap.IsTuple l1 xs) (hl2 : s.heap.IsTuple l2 ys) (hx : xs[i]? = some x) (hy : ys[i]? = some y)
    (hQ : ∀ h₁ h', (PySem.IsPair h₁ s.heap.objs.size x y ∧ (∀ c o, c ≠ z → c ≠ TO → c ≠ i1 → c ≠ i2 → s.heap.get? c = some o → h₁.get? c = some o)) →
      IsEnumOut h' e z ((i : Int) + 1) (.ref s.heap.objs.size) (s.heap.objs.size + 1) → ZSt h' z TI TO i1 i2 l1 l2 (i + 1) →
      h'.get? (s.heap.objs.size + 1) = some (prObj (.int i s.toks) (.ref s.heap.objs.size)) → h₁.objs.size = s.heap.objs.size + 1 →
      (∀ b o, b ≠ e → h₁.get? b = some o → h'.get? b = some o) → Q (some (.ref (s.heap.objs.size + 1))) { s with heap := h', toks := s.toks + 1 }) :
    wpAny (model prog w) A (pyNext (.ref e)) Q E s := by
  have hT : s.TypeIs (.ref e) "enumerate" := ⟨_, he, rfl⟩
  unfold pyNext
  exact wpAny_bind (wpAny_attempt (wpAny_callSpecial?_slot (name := Str.ofString "__next__") hT F.slot_enumerate_next
    (wpAny_call_entry F.slot_enumerate_next hT F.entry_enumerate_next
      (enumZ_next_item D he hst n hl1 hl2 hx hy fun h₁ h' a b c d k q => wpAny_pure (hQ h₁ h' a b c d k q)) (F.args_enumerate_next_1 _))))
theorem pyNext_enumZ_end {e z TI TO i1 i2 l1 l2 : Addr} {i : Nat} {xs ys : Array Value} {old : Value} {Q : Option Value → Shared → Prop} (hh : A.handled = none)
    (D : ZipApart z TI TO i1 i2 l1 l2) (he : IsEnum s.heap e z i old) (hst : ZSt s.heap z TI TO i1 i2 l1 l2 i)
    (hl1 : s.heap.IsTuple l1 xs) (hl2 : s.heap.IsTuple l2 ys) (hend : xs[i]? = none ∨ ys[i]? = none)
    (hQ : ∀ h', (∀ c o, c ≠ z → c ≠ TO → c ≠ i1 → c ≠ i2 → s.heap.get? c = some o → h'.get? c = some o) → Q none { s with heap := h' }) : wpAny (model prog w) A (pyNext (.ref e)) Q E s := by
  have hT : s.TypeIs (.ref e) "enumerate" := ⟨_, he, rfl⟩
  unfold pyNext
  refine wpAny_bind (wpAny_attempt (wpAny_callSpecial?_slot (name := Str.ofString "__next__") hT F.slot_enumerate_next
    (wpAny_call_entry F.slot_enumerate_next hT F.entry_enumerate_next ?_ (F.args_enumerate_next_1 _))))
  show wpAny _ _ (field (.ref e) 2 >>= _) _ _ _
  refine wpAny_bind (wpAny_field he rfl (x := .ref z) rfl ?_)
  refine wpAny_bind (nextZ_end hh D hst hl1 hl2 hend fun h' x he' hx' => ?_)
  obtain ⟨o, ho, hc⟩ := hx'
  refine wpAny_bind (wpAny_isInstance (T := "StopIteration") (b := true) ⟨o, ho, hc⟩ isSubtype_stop ?_)
  exact wpAny_pure (hQ _ he')
end
/-- the tuples at a and b, the items in new pairs, these in new pairs with their places -/
def IteZ (K : PySem.W.Frag) (a b : Addr) : It :=
  ⟨fun i H => ∃ (xs ys : List V) (x y : V), SqT K H a xs ∧ SqT K H b ys ∧ xs[i]? = some x ∧ ys[i]? = some y,
    fun i H v H' => ∃ T T' x y, v = .ref T' ∧ H T = none ∧ H T' = none ∧ T ≠ T' ∧ H' = upd (upd H T (.tup [x, y])) T' (.tup [.int (i : Nat), .ref T]) ∧ (∀ xs, SqT K H a xs → xs[i]? = some x) ∧ ∀ ys, SqT K H b ys → ys[i]? = some y,
    fun i H => ∃ xs ys : List V, SqT K H a xs ∧ SqT K H b ys ∧ (xs.length ≤ i ∨ ys.length ≤ i)⟩
theorem turn_enumZ {P : Program} {w : World} {K : PySem.W.Frag} {elts : List Expr} {kk : Nat} {tpos : Pos} {a b e z TI TO i1 i2 : Addr} (D : ZipApart z TI TO i1 i2 a b) (n : z ≠ e ∧ TI ≠ e ∧ TO ≠ e ∧ i1 ≠ e ∧ i2 ≠ e) :
    Turn P w K (.Tuple elts kk tpos) (IteZ K a b) [e, z, TI, TO, i1, i2] e (fun i h => (∃ old, IsEnum h e z ((i : Nat) : Int) old) ∧ ZSt h z TI TO i1 i2 a b i) where
  mem := by simp
  obj := by
    rintro i h ⟨⟨old, he⟩, hz, hTI, ⟨x, y, hTO⟩, ⟨o1, e1, _, d1⟩, ⟨o2, e2, _, d2⟩⟩ c hc
    have e' : c = e ∨ c = z ∨ c = TI ∨ c = TO ∨ c = i1 ∨ c = i2 := by simpa using hc
    rcases e' with q | q | q | q | q | q
    · rw [q]; exact ⟨_, he, fun v q => nomatch q⟩
    · rw [q]
      rcases hz with hz | ⟨_, _, hz⟩
      · exact ⟨_, hz, fun v q => nomatch q⟩
      · exact ⟨_, hz, fun v q => nomatch q⟩
    · rw [q]; exact ⟨_, hTI, fun v q => nomatch q⟩
    · rw [q]; exact ⟨_, hTO, fun v q => nomatch q⟩
    · rw [q]; exact ⟨o1, e1, fun v q => by rw [d1] at q; cases q⟩
    · rw [q]; exact ⟨o2, e2, fun v q => by rw [d2] at q; cases q⟩
  keep := by
    rintro i h h' ⟨⟨old, he⟩, S⟩ k
    obtain ⟨x, y, q⟩ := S.TO
    refine ⟨⟨old, k e (by simp) _ he⟩, ?_, k TI (by simp) _ S.TI, ⟨x, y, k TO (by simp) _ q⟩, S.i1.at fun o q => k i1 (by simp) o q, S.i2.at fun o q => k i2 (by simp) o q⟩
    rcases S.z with hz | ⟨T, f, hz⟩
    · exact .inl (k z (by simp) _ hz)
    · exact .inr ⟨T, f, k z (by simp) _ hz⟩
  item := by
    intro X hP hw hK hc i pins s σ H E I hf st hg
    subst hP hw hK
    obtain ⟨⟨old, he⟩, S⟩ := st
    obtain ⟨xs, ys, x, y, hqx, hqy, hx, hy⟩ := hg
    obtain ⟨its, rv, p, _⟩ := I.tuple hqx
    obtain ⟨its2, rv2, p2, _⟩ := I.tuple hqy
    obtain ⟨u, hu, ru⟩ := rv.get hx
    obtain ⟨u2, hu2, ru2⟩ := rv2.get hy
    have lt : ∀ c ∈ [e, z, TI, TO, i1, i2], c < s.heap.objs.size := by
      obtain ⟨hz, hTI, ⟨x, y, hTO⟩, ⟨o1, e1, _, d1⟩, ⟨o2, e2, _, d2⟩⟩ := id S
      intro c hc
      have e' : c = e ∨ c = z ∨ c = TI ∨ c = TO ∨ c = i1 ∨ c = i2 := by simpa using hc
      rcases e' with q | q | q | q | q | q
      · rw [q]; exact Heap.lt_size he
      · rw [q]
        rcases hz with hz | ⟨_, _, hz⟩
        · exact Heap.lt_size hz
        · exact Heap.lt_size hz
      · rw [q]; exact Heap.lt_size hTI
      · rw [q]; exact Heap.lt_size hTO
      · rw [q]; exact Heap.lt_size e1
      · rw [q]; exact Heap.lt_size e2
    refine pyNext_enumZ_item D he S n p p2 (x := u) (y := u2) (by simpa using hu) (by simpa using hu2) fun h₁ h' ⟨pr, k1⟩ out st' tup sz k2 => ?_
    refine ⟨_, rfl, wpAny_letOwnedTupleGo_enum (s := { s with heap := h', toks := s.toks + 1 }) out fun h'' back same => ?_⟩
    have same : Heap.SameBut e h' h'' := same
    have ne1 : s.heap.objs.size ≠ e := Nat.ne_of_gt (lt e (by simp))
    have ne2 : s.heap.objs.size + 1 ≠ e := Nat.ne_of_gt (Nat.lt_succ_of_lt (lt e (by simp)))
    have new1 : ObjOk X.prog X.w (upd H s.heap.objs.size (.tup [x, y])) h₁ s.heap.objs.size (.tup [x, y]) :=
      ⟨by show 2 ≤ sizeLine; decide, [u, u2], .cons ru (.cons ru2 .nil), ⟨_, pr, rfl, _, rfl⟩⟩
    have hfz : ∀ c ∈ [z, TO, i1, i2], FpOk X pins H c := fun c hc => hf c (by simp only [List.mem_cons, List.not_mem_nil, or_false] at hc ⊢; rcases hc with q | q | q | q <;> simp [q])
    have I1 : Inv X pins σ (upd H s.heap.objs.size (.tup [x, y])) { s with heap := h₁ } :=
      I.turnedNew (t' := s.toks) (ch := [z, TO, i1, i2]) (fun c o hb q => k1 c o (fun q' => hb (by simp [q'])) (fun q' => hb (by simp [q'])) (fun q' => hb (by simp [q'])) (fun q' => hb (by simp [q'])) q) hfz (Nat.le_refl _) new1
    have k3 : ∀ c o, c ≠ e → h₁.get? c = some o → h''.get? c = some o := fun c o hb q => (same.2 c hb).trans (k2 c o hb q)
    have tup2 : h''.get? (s.heap.objs.size + 1) = some (prObj (.int i s.toks) (.ref s.heap.objs.size)) := (same.2 _ ne2).trans tup
    have hfe : ∀ c ∈ [e], FpOk X pins (upd H s.heap.objs.size (.tup [x, y])) c := fun c hc => by
      obtain rfl := List.mem_singleton.mp hc
      have := hf c (by simp)
      exact ⟨by rw [upd_ne ne1.symm]; exact this.1, this.2⟩
    have new2 : ObjOk X.prog X.w (upd (upd H s.heap.objs.size (.tup [x, y])) (s.heap.objs.size + 1) (.tup [.int (i : Nat), .ref s.heap.objs.size])) h'' (s.heap.objs.size + 1) (.tup [.int (i : Nat), .ref s.heap.objs.size]) :=
      ⟨by show 2 ≤ sizeLine; decide, [.int i s.toks, .ref s.heap.objs.size], .cons ⟨_, rfl⟩ (.cons rfl .nil), ⟨_, tup2, rfl, _, rfl⟩⟩
    have I2 : Inv X pins σ (upd (upd H s.heap.objs.size (.tup [x, y])) (s.heap.objs.size + 1) (.tup [.int (i : Nat), .ref s.heap.objs.size])) { s with heap := h'', toks := s.toks + 1 } :=
      I1.turnedNew (t' := s.toks + 1) (ch := [e]) (fun c o hb q => k3 c o (fun q' => hb (by simp [q'])) q) hfe (show h₁.objs.size ≤ _ by rw [sz]; exact Nat.le_refl _) new2
    refine ⟨.ref (s.heap.objs.size + 1), _, I2, rfl, ⟨_, _, x, y, rfl, I.hok.fresh (Nat.le_refl _), I.hok.fresh (Nat.le_succ _), (Nat.succ_ne_self _).symm, rfl, fun l hl => by rw [I.tuple_inj hl hqx]; exact hx, fun l hl => by rw [I.tuple_inj hl hqy]; exact hy⟩, ⟨⟨_, back⟩, ?_⟩, fun c hcm => ?_⟩
    · exact st'.frame (fun c o hb q => (same.2 c hb).trans q) n
    · have := lt c hcm
      rw [upd_ne (Nat.ne_of_lt (Nat.lt_succ_of_lt this)), upd_ne (Nat.ne_of_lt this)]
      exact (hf c hcm).1
  done := by
    intro X hP hw hK hc i pins s σ H E I hf st hg
    subst hP hw hK
    obtain ⟨⟨old, he⟩, S⟩ := st
    obtain ⟨xs, ys, hqx, hqy, hend⟩ := hg
    obtain ⟨its, rv, p, _⟩ := I.tuple hqx
    obtain ⟨its2, rv2, p2, _⟩ := I.tuple hqy
    have l1 := rv.length
    have l2 := rv2.length
    have hh : its.toArray[i]? = none ∨ its2.toArray[i]? = none := by
      rcases hend with q | q
      · exact .inl (by simp; omega)
      · exact .inr (by simp; omega)
    exact pyNext_enumZ_end (I.ok.hd hc) D he S p p2 hh fun h' hk => ⟨rfl, I.turnedL (t' := s.toks) (ch := [e, z, TI, TO, i1, i2]) (fun c o hb q =>
      hk c o (fun q' => hb (by simp [q'])) (fun q' => hb (by simp [q'])) (fun q' => hb (by simp [q'])) (fun q' => hb (by simp [q'])) q) hf⟩
  self := by
    rintro A i s Q E ⟨⟨old, he⟩, _⟩ h
    exact wpAny_pyIter_enum he h
/-- enumerate of what is its own iterator -/
theorem meets_enumS {v : Value} {Z : Heap → Prop} (B : ∀ (prog : Program) (w : World) (A : Around) (E : Value → Shared → Prop) (s : Shared) (Q : Value → Shared → Prop), Z s.heap → Q v s → wpAny (model prog w) A (pyIter v) Q E s) (a : Addr) (hv : v = .ref a) : Meets (Builtin.«enumerate.__new__» ⟨[.type "enumerate", v], []⟩)
    (fun _ R s => Z s.heap ∧ R (.ok (.ret (.ref s.heap.objs.size))) { s with heap := s.heap.push (enObj a 0) }) := by
  subst hv
  refine .of_wp fun prog w A R s zz => ?_
  obtain ⟨hp, gs, dr, tk, os⟩ := s
  obtain ⟨z1, z2⟩ := zz
  have sub := sub_enumerate
  have go : ∀ {A' : Around} {E : Value → Shared → Prop} {Q : Value → Shared → Prop}, Q (.ref a) ⟨hp, gs, dr, tk, os⟩ →
      wpAny (model prog w) A' (pyIter (.ref a)) Q E ⟨hp, gs, dr, tk, os⟩ := fun q => B prog w _ _ ⟨hp, gs, dr, tk, os⟩ _ z1 q
  wp_walk using go
  refine wpAny_stack_any fun st => wpAny_pure ?_
  split
  · rename_i c _ _ _ _ _
    cases (c == Value.type "enumerate") <;> (wp_walk using go; exact ⟨_, rfl, z2⟩)
  · wp_walk using go
    exact ⟨_, rfl, z2⟩
theorem enumS {prog : Program} {w : World} {A : Around} {E : Value → Shared → Prop} {s : Shared} {a : Addr} {Z : Heap → Prop} {Q : Value → Shared → Prop}
    (B : ∀ (prog : Program) (w : World) (A : Around) (E : Value → Shared → Prop) (s : Shared) (Q : Value → Shared → Prop), Z s.heap → Q (.ref a) s → wpAny (model prog w) A (pyIter (.ref a)) Q E s) (z : Z s.heap)
    (k : ∀ h', IsEnum h' s.heap.objs.size a 0 .none → (∀ b o, s.heap.get? b = some o → h'.get? b = some o) → Q (.ref s.heap.objs.size) { s with heap := h' }) :
    wpAny (model prog w) A (call (.type "enumerate") [.ref a]) Q E s := by
  refine callType_new F.called_enumerate (by decide) (F.typeCall_enumerate_1 _) (F.newCall_enumerate_1 _) (fun obj => F.args_object_init_2 obj _) F.entry_enumerate_new (meets_enumS B a rfl) ⟨z, ?_⟩
  have e1 : (s.heap.push (enObj a 0)).get? s.heap.objs.size = some (enObj a 0) := Heap.get?_push_size _ rfl
  exact ⟨⟨_, e1, rfl⟩, k _ e1 fun b o x => Heap.get?_push_of_some _ x⟩
def iEnumZ (K : PySem.W.Frag) (ta : TA) : TI := fun σ H R => ta σ H fun vs H1 => ∃ a b xs ys, vs = [.ref a, .ref b] ∧ SqT K H1 a xs ∧ SqT K H1 b ys ∧ R (IteZ K a b) H1
theorem pi_enumZ {X : Cx} {e e2 : Expr} {ta : TA} {p pos tpos p2 pos2 : Pos} {elts : List Expr} {kk : Nat} (hg : Gl X "enumerate") (hm : X.mg "enumerate" = none) (hgz : Gl X "zip") (hmz : X.mg "zip" = none) (ha : PA X [e, e2] ta)
    (hs : starEach [e, e2] X.env = (false, eval e X.env) :: starEach [e2] X.env := by rfl) (hpl : (backTo pos2 (starEach [e2] X.env)).any (·.1) = false := by rfl)
    (na : starEach [Expr.Call (.Name "zip" p2) [e, e2] [] pos2] X.env = (false, eval (.Call (.Name "zip" p2) [e, e2] [] pos2) X.env) :: starEach [] X.env := by rfl) :
    PI X (.Tuple elts kk tpos) (.Call (.Name "enumerate" p) [.Call (.Name "zip" p2) [e, e2] [] pos2] [] pos) (iEnumZ X.K ta) := by
  refine ⟨fun pins s σ H R I h => ?_⟩
  refine Call_ (ld_blt I hg hm boot_enumerate (PyProof.Rows.callWith_type1 (args_cons (thn (Call_ (ld_blt I hgz hmz PyProof.Rows.boot_zip (PyProof.Rows.callWith_type1 (thn (ha.run pos2 pins s σ H _ I h) fun us s1 ⟨vs, H1, I1, r1, q1⟩ => ?_) hs hpl))) fun x s1 q => args_nil q) na) na))
  obtain ⟨a, b, xs, ys, ex, hqx, hqy, q⟩ := q1
  subst ex
  obtain ⟨u1, u2, rfl, ra, rb⟩ : ∃ u1 u2, us = [u1, u2] ∧ RelV (.ref a) u1 ∧ RelV (.ref b) u2 := by
    cases r1 with
    | cons r rr => cases rr with
      | cons r' rr => cases rr; exact ⟨_, _, rfl, r, r'⟩
  have ra : u1 = .ref a := ra
  have rb : u2 = .ref b := rb
  subst ra rb
  obtain ⟨its, rv, p1, _⟩ := I1.tuple hqx
  obtain ⟨its2, rv2, p2, _⟩ := I1.tuple hqy
  obtain ⟨o1, ho1, _⟩ := id p1
  obtain ⟨o2, ho2, _⟩ := id p2
  have D : ZipApart (s1.heap.objs.size + 4) (s1.heap.objs.size + 2) (s1.heap.objs.size + 3) s1.heap.objs.size (s1.heap.objs.size + 1) a b := PySem.W.ktu_apart s1.heap.objs.size a b (Heap.lt_size ho1) (Heap.lt_size ho2)
  refine call_zipT (show s1.heap.IsTuple a its.toArray from p1) (show s1.heap.IsTuple b its2.toArray from p2) fun h' hz hTI hTO h1 h2 hsz hk => ?_
  have hsz : h'.objs.size = s1.heap.objs.size + 5 := hsz
  refine enumS (s := { s1 with heap := h' }) (Z := fun h => IsZip h (s1.heap.objs.size + 4) (s1.heap.objs.size + 2) (s1.heap.objs.size + 3) .none) (fun prog w A E s Q z q => wpAny_pyIter_zip z q) hz fun h'' he hk2 => wpAny_pyIter_enum he ?_
  have he : IsEnum h'' h'.objs.size (s1.heap.objs.size + 4) 0 .none := he
  have hk2 : ∀ b o, h'.get? b = some o → h''.get? b = some o := hk2
  have I2 : Inv X pins σ H1 { s1 with heap := h'' } := I1.kept (t' := s1.toks) fun b o q => hk2 b o (hk b o q)
  have S : ZSt h'' (s1.heap.objs.size + 4) (s1.heap.objs.size + 2) (s1.heap.objs.size + 3) s1.heap.objs.size (s1.heap.objs.size + 1) a b 0 := ⟨.inl (hk2 _ _ hz), hk2 _ _ hTI, ⟨_, _, hk2 _ _ hTO⟩, h1.at fun o q => hk2 _ o q, h2.at fun o q => hk2 _ o q⟩
  refine ⟨h'.objs.size, [h'.objs.size, s1.heap.objs.size + 4, s1.heap.objs.size + 2, s1.heap.objs.size + 3, s1.heap.objs.size, s1.heap.objs.size + 1], _, _, H1, rfl, I2, turn_enumZ D (by rw [hsz]; exact ⟨Nat.ne_of_lt (Nat.add_lt_add_left (by decide) _), Nat.ne_of_lt (Nat.add_lt_add_left (by decide) _), Nat.ne_of_lt (Nat.add_lt_add_left (by decide) _), Nat.ne_of_lt (Nat.lt_add_of_pos_right (by decide)), Nat.ne_of_lt (Nat.add_lt_add_left (by decide) _)⟩), ⟨⟨.none, he⟩, S⟩, fun c hcm => ?_, q⟩
  have hle : s1.heap.objs.size ≤ c := by
    simp only [List.mem_cons, List.not_mem_nil, or_false, hsz] at hcm
    rcases hcm with q | q | q | q | q | q
    · rw [q]; exact Nat.le_add_right _ _
    · rw [q]; exact Nat.le_add_right _ _
    · rw [q]; exact Nat.le_add_right _ _
    · rw [q]; exact Nat.le_add_right _ _
    · rw [q]; exact Nat.le_refl _
    · rw [q]; exact Nat.le_add_right _ _
  exact I1.fpOk hle (I1.hok.fresh hle)
theorem pi_enumZipK {X : Cx} {K : PySem.W.Frag} {e e2 : Expr} {ta : TA} {p pos tpos p2 pos2 : Pos} {elts : List Expr} {kk : Nat} (hg : Gl X "enumerate") (hm : X.mg "enumerate" = none) (hgz : Gl X "zip") (hmz : X.mg "zip" = none) (ha : PA X [e, e2] ta) (h : X.K = K := by rfl)
    (hs : starEach [e, e2] X.env = (false, eval e X.env) :: starEach [e2] X.env := by rfl) (hpl : (backTo pos2 (starEach [e2] X.env)).any (·.1) = false := by rfl)
    (na : starEach [Expr.Call (.Name "zip" p2) [e, e2] [] pos2] X.env = (false, eval (.Call (.Name "zip" p2) [e, e2] [] pos2) X.env) :: starEach [] X.env := by rfl) :
    PI X (.Tuple elts kk tpos) (.Call (.Name "enumerate" p) [.Call (.Name "zip" p2) [e, e2] [] pos2] [] pos) (iEnumZ K ta) := by subst h; exact pi_enumZ hg hm hgz hmz ha hs hpl na
variable {K : PySem.W.Frag} {Γ : Cxt} {ss : List Sl}
theorem walks_enumZ {a b : Addr} {xs ys : List D} : Walks K Γ (IteZ K a b) (enumD 0 (zipD xs ys)) [(.val (.tup xs), some (.ref a)), (.val (.tup ys), some (.ref b))] := fun H0 H ps I m => by
  obtain ⟨a', vs, e, hq, r⟩ := I.val (m _ List.mem_cons_self)
  obtain ⟨b', ws, e', hq', r'⟩ := I.val (m _ (List.mem_cons_of_mem _ List.mem_cons_self))
  cases e; cases e'
  refine ⟨fun i d hd => ?_, ⟨vs, ws, hq, hq', by rw [enumD_length, zipD_length, ← r.length, ← r'.length]; omega⟩⟩
  obtain ⟨pr, hp, rfl⟩ := enumD_get _ hd
  obtain ⟨x, y, hx, hy, rfl⟩ := zipD_get _ _ hp
  obtain ⟨v, hv, rv⟩ := r.get hx
  obtain ⟨w, hw, rw'⟩ := r'.get hy
  refine ⟨⟨vs, ws, v, w, hq, hq', hv, hw⟩, fun z H' y => ?_⟩
  obtain ⟨T, T', v1, w1, rfl, hT, hT', hne, rfl, y1, y2⟩ := y
  have e1 : v = v1 := Option.some.inj (hv.symm.trans (y1 vs hq))
  have e2 : w = w1 := Option.some.inj (hw.symm.trans (y2 ws hq'))
  subst e1 e2
  have J := I.newTup hT (.cons rv (.cons rw' .nil))
  have J2 := J.newTup (ds := [.int ((0 + i : Nat)), .tup [x, _]]) (ws := [.int ((i : Nat)), .ref T]) (p := T') (by rw [upd_ne hne.symm]; exact hT') (.cons (by rw [Nat.zero_add]; rfl) (.cons (J.val List.mem_cons_self) .nil))
  exact (J2.perm (List.Perm.swap _ _ _)).drop
theorem wpI_enumZ {ta : TA} {C : List D → Prop} (h : wpA K Γ ta ss fun ds => ∃ xs ys, ds = [.tup xs, .tup ys] ∧ C (enumD 0 (zipD xs ys))) : wpI K Γ (iEnumZ K ta) ss C := fun H0 σ H τ hl I R k =>
  h H0 σ H τ hl I _ fun vs ds H1 hd J c => by
    obtain ⟨xs, ys, rfl, c⟩ := c
    match vs, hd with
    | [v, w], _ =>
      obtain ⟨a, us, rfl, t, r⟩ := J.val (d := .tup xs) List.mem_cons_self
      obtain ⟨b, ws, rfl, t', r'⟩ := J.val (d := .tup ys) (List.mem_cons_of_mem _ List.mem_cons_self)
      refine ⟨a, b, us, ws, rfl, t, t', k _ H1 _ [(.val (.tup xs), some (.ref a)), (.val (.tup ys), some (.ref b))] (J.perm ?_) walks_enumZ c⟩
      rw [← List.append_assoc, ← List.append_assoc]
      exact List.perm_append_comm.append_right _
end SQ
/-! repr of any plain value -/
namespace SQ
open PySem PySem.Spec PyProof.Rows L2
/-- what can be shown -/
def shw : D → Bool
  | .non => true
  | .bl _ => true
  | .int i => decide (i.natAbs < 10 ^ 45)
  | .str x => decide ((reprText x).length ≤ 1000000)
  | .lst ys => roks ys && nks ys && decide ((PyData.list (rps ys)).weight ≤ 200000) && decide (PyData.depthAll (rps ys) ≤ 60)
  | .tup ys => roks ys && !(PyData.hasDictAll (rps ys)) && decide ((PyData.list (rps ys)).weight ≤ 200000) && decide (PyData.depthAll (rps ys) ≤ 60)
  | _ => false
def rReprA (K : PySem.W.Frag) : List V → Hp → VK → Prop := fun xs H Q => ∃ (S : Addr → Prop) (v : V) (d : D), xs = [v] ∧ Rep K S H d v ∧ shw d = true ∧ Q (.str (rp d).shown) H
theorem cr_reprA {X : Cx} (hu : X.A.guards = some []) {k : Nat} (hr : Room k X.A) : CallR X (.builtin "repr") (rReprA X.K) := by
  intro pins s σ H xs us Q I r h
  obtain ⟨S, v, d, rfl, rd, ok, q⟩ := h
  have hun := hr.un
  cases d with
  | non =>
    have rd : v = .non := rd
    subst rd
    obtain ⟨u, rfl, r1⟩ := vals1 r
    cases (show u = Value.none from r1)
    exact PySem.P.repr_of_none ⟨.str _, H, I.tok _, ⟨_, rfl⟩, q⟩
  | bl b =>
    have rd : v = .bl b := rd
    subst rd
    obtain ⟨u, rfl, r1⟩ := vals1 r
    cases (show u = Value.bool b from r1)
    refine PySem.P.repr_of_bool ⟨.str _, H, I.tok _, ⟨_, rfl⟩, ?_⟩
    have e : (rp (.bl b)).shown = (if b then "True" else "False" : Str) := by simp [rp, PyData.shown]
    rw [← e]; exact q
  | int i =>
    have rd : v = .int i := rd
    subst rd
    obtain ⟨u, rfl, t, rfl⟩ := vals1 r
    have hi : i.natAbs < 10 ^ 45 := of_decide_eq_true ok
    refine PySem.P.repr_of_int (int_showable hi) ⟨.str _, H, I.tok _, ⟨_, rfl⟩, ?_⟩
    have e : (rp (.int i)).shown = (toString i : Str) := by simp [rp, PyData.shown]
    rw [← e]; exact q
  | str x =>
    have rd : v = .str x := rd
    subst rd
    obtain ⟨u, rfl, t, rfl⟩ := vals1 r
    have hx : (reprText x).length ≤ 1000000 := of_decide_eq_true ok
    refine PySem.P.repr_of_str ⟨.str _, H, I.tok _, ⟨_, rfl⟩, ?_⟩ (Nat.le_trans hx (by decide))
    have e : (rp (.str x)).shown = reprText x := by simp [rp, PyData.shown]
    rw [← e]; exact q
  | lst ys =>
    simp only [shw, Bool.and_eq_true, decide_eq_true_eq] at ok
    obtain ⟨⟨⟨k1, k2⟩, k3⟩, k4⟩ := ok
    exact cr_repr2 hu hr pins s σ H [v] us Q I r ⟨S, v, ys, rfl, rd, k1, k2, k3, k4, q⟩
  | tup ys =>
    simp only [shw, Bool.and_eq_true, decide_eq_true_eq, Bool.not_eq_true'] at ok
    obtain ⟨⟨⟨k1, k2⟩, k3⟩, k4⟩ := ok
    obtain ⟨u, rfl, r1⟩ := vals1 r
    obtain ⟨as, g, _⟩ := Rep.reads I (.tup ys) v u k1 rd r1
    obtain ⟨a, vs, rfl, _⟩ := rd
    cases (show u = Value.ref a from r1)
    have k3' : (rp (.tup ys)).weight ≤ 200000 := by
      have e : (rp (.tup ys)).weight = (PyData.list (rps ys)).weight := by simp [rp, PyData.weight]
      rw [e]; exact k3
    have hsz := shown_small (d := .tup ys) k1 k3'
    have hd : (rp (.tup ys)).depth ≤ 61 := by
      have e : (rp (.tup ys)).depth = PyData.depthAll (rps ys) + 1 := by simp [rp, PyData.depth]
      omega
    refine PySem.repr_of_reads' g (roks_show ys k1).1 (fun z => ?_) hu (by omega) (fun _ _ e => e) (fun h' t tk kp => ⟨.str _, H, I.kept kp, ⟨_, rfl⟩, q⟩) hsz
    have e : (rp (.tup ys)).hasDict = PyData.hasDictAll (rps ys) := by simp [rp, PyData.hasDict]
    rw [e, k2] at z; cases z
  | _ => cases ok
theorem cr_reprAK {X : Cx} {K : PySem.W.Frag} (hu : X.A.guards = some []) {k : Nat} (hr : Room k X.A) (h : X.K = K := by rfl) : CallR X (.builtin "repr") (rReprA K) := by subst h; exact cr_reprA hu hr
theorem wpB_reprA {K : PySem.W.Frag} {C : D → Prop} {d : D} (ok : shw d = true) (c : C (.str (rp d).shown)) : wpB K (rReprA K) [d] C := fun S H vs lv r Q q => by
  obtain ⟨v, ws, rfl, a, b⟩ := r
  have b : ws = [] := b
  subst b
  exact ⟨S, v, d, rfl, a, ok, q _ (.str _) H (Ext.refl H) rfl c⟩
end SQ
/-! a def with one keyword-only parameter that has a default (an int) -/
namespace SQ
open PySem PySem.Spec PyProof.Rows L2
def tAppN (n m : Nat) (ta tb : TA) : TA := fun σ H Q => ta σ H fun vs H1 => tb σ H1 fun zs H2 => vs.length = n ∧ zs.length = m ∧ Q (vs ++ zs) H2
def tDefN (d : Int) (ta : TA) : TA := fun σ H Q => ta σ H fun vs H1 => Q (vs ++ [.int d]) H1
section
variable {K : PySem.W.Frag} {Γ : Cxt} {ta tb : TA} {ss : List Sl} {C : List D → Prop} {n m : Nat}
theorem pile_app : ∀ {d1 : List D} {v1 : List V} {d2 : List D} {v2 : List V}, d1.length = v1.length → pile (d1 ++ d2) (v1 ++ v2) = pile d1 v1 ++ pile d2 v2
  | [], [], _, _, _ => rfl
  | d :: d1, v :: v1, d2, v2, h => by
    simp only [List.cons_append, pile_cons, pile_app (d1 := d1) (v1 := v1) (d2 := d2) (v2 := v2) (by simpa using h)]
theorem wpA_appN (h : wpA K Γ ta ss fun xs => xs.length = n ∧ wpA K Γ tb ss fun ys => ys.length = m ∧ C (xs ++ ys)) : wpA K Γ (tAppN n m ta tb) ss C := fun H0 σ H τ hl I Q q =>
  h H0 σ H τ hl I _ fun vs ds H1 hd J1 h1 => h1.2 H0 σ H1 (pile ds vs ++ τ) hl (J1.perm (by
      rw [← List.append_assoc, ← List.append_assoc]; exact List.Perm.append_right _ List.perm_append_comm)) _ fun zs es H2 he J2 c =>
    ⟨hd.symm.trans h1.1, he.symm.trans c.1, q (vs ++ zs) (ds ++ es) H2 (by simp [hd, he]) (J2.perm (by
      rw [pile_app hd]
      have a : (pile es zs ++ (ss.zip σ ++ (pile ds vs ++ τ))).Perm (pile es zs ++ (pile ds vs ++ (ss.zip σ ++ τ))) := List.Perm.append_left _ (by
        rw [← List.append_assoc, ← List.append_assoc]; exact List.Perm.append_right _ List.perm_append_comm)
      refine a.trans ?_
      rw [← List.append_assoc]
      exact List.Perm.append_right _ List.perm_append_comm)) c.2⟩
theorem wpA_defN {d : Int} (h : wpA K Γ ta ss fun xs => C (xs ++ [.int d])) : wpA K Γ (tDefN d ta) ss C := fun H0 σ H τ hl I Q q =>
  h H0 σ H τ hl I _ fun vs ds H1 hd J1 h1 => q (vs ++ [.int d]) (ds ++ [.int d]) H1 (by simp [hd]) ((J1.push (d := .int d) (v := .int d) rfl).perm (by
    rw [pile_app hd]
    show List.Perm ((Sl.val (.int d), some (.int d)) :: (pile ds vs ++ (ss.zip σ ++ τ))) ((pile ds vs ++ [(Sl.val (.int d), some (.int d))]) ++ (ss.zip σ ++ τ))
    rw [List.append_assoc]
    exact List.perm_middle.symm)) h1
end
/-- such a def's promise -/
structure CalK (P : Program) (w : World) (K : PySem.W.Frag) (mg : Str → Option Value) (base : Heap) (k : Nat) (x : Str) (n : Nat) (kw : Str) (d : Int) (sp : Sp) : Prop where
  ex : ∃ (f : Addr) (fd : FuncData) (ps : List Str), FnOk P w K mg base (L2.CX P w) k f fd ps sp ∧ mg x = some (.ref f) ∧ PySem.W.keepIn K (.ref f) = true ∧ (∃ ds, Vals [.int d] ds ∧ Binds K fd ps ds) ∧ KBn K fd ps n [kw] (fun us ws => us ++ ws) (fun vs zs => vs ++ zs)
structure DefK (K : PySem.W.Frag) (mg : Str → Option Value) (x : Str) (st : Stmt) (ps : List Str) (n : Nat) (kw : Str) (d : Int) : Prop where
  ex : ∃ (f : Addr) (fd : FuncData), Fun K x x st f fd ∧ mg x = some (.ref f) ∧ (∃ ds, Vals [.int d] ds ∧ Binds K fd ps ds) ∧ KBn K fd ps n [kw] (fun us ws => us ++ ws) (fun vs zs => vs ++ zs)
section
variable {P : Program} {w : World} {K : PySem.W.Frag} {mg : Str → Option Value} {base h : Heap} {x kw : Str} {st : Stmt} {f : Addr} {fd : FuncData} {N ps : List Str} {k n : Nat} {d : Int} {F : Fn}
theorem cfk_of (Df : Fun K x x st f fd) (hm : mg x = some (.ref f)) (b0 : ∃ ds, Vals [.int d] ds ∧ Binds K fd ps ds) (b1 : KBn K fd ps n [kw] (fun us ws => us ++ ws) (fun vs zs => vs ++ zs)) (S : FnScope N ps (defScope st)) (len : ∀ B ds C X, F B ds C X → ds.length = ps.length)
    (body : ∀ (cdv : Value) (A : Around) (outer : List PySem.Env) (s : Shared) (H : Hp) (E : XK), Room k (A.deeper (envOfC x (defScope st) s.heap.objs.size f cdv)) →
      ∃ t, PSs (cxOf (L2.CX P w) P w K mg base N x (defScope st) f cdv A outer s H E) (defBody st) t ∧ ∀ (Γ : Cxt) (ds : List D) (C : D → Prop), Γ.E = E → F (sc Γ) ds C Γ.X → wpS K Γ t (ss0 ds N.length) (en0 C)) : CalK P w K mg base (k + 1) x n kw d (spF K F) :=
  ⟨f, fd, ps, Df.okX S (fun vs H Q E h => by
      obtain ⟨Γ, ds, C, _, _, r, h, _⟩ := h
      rw [← r.length, len _ _ _ _ h]) (fun cdv A outer s H vs Q E hr h => by
      obtain ⟨t, ht, hw⟩ := body cdv A outer s H E hr
      exact ⟨t, ht, run_def h fun Γ ds C e f => hw Γ ds C e f⟩), hm, Df.kp, b0, b1⟩
theorem defK {D : Addr} {dv oc doc pm cdv ct : Value} {od an : Option Addr} {osl : Array (Option Value)} (X : K.In h) (G : h.Ns mainGlobals mg) (a : PySem.W.nsIn K mainGlobals x = some (some (.ref f)))
    (l : K.lookup f = some ⟨oc, od, .func (PySem.W.fnOf x x (defArgs st) (defBody st) (defScope st) .none (.ref D) doc pm an cdv ct), osl⟩)
    (cd : PySem.W.codeIn K cdv x = true) (kp : PySem.W.keepIn K (.ref f) = true) (q : PySem.W.nsIn K D kw = some (some dv)) (r : RelV (.int d) dv) (hn : n + 1 = ps.length)
    (b0 : ∀ (D : Addr) (doc pm : Value) (an : Option Addr) (cdv ct : Value) (us ks : List Value), us.length = n → ks.length = 1 → KwChain D (([(kw, V.int d)].map (·.1)).zip ks) (bindArgs (PySem.W.fnOf x x (defArgs st) (defBody st) (defScope st) .none (.ref D) doc pm an cdv ct) ⟨us, []⟩) (ps.zip (us ++ ks)))
    (b1 : ∀ (D : Addr) (doc pm : Value) (an : Option Addr) (cdv ct : Value) (us ws : List Value), us.length = n → ws.length = 1 → bindArgs (PySem.W.fnOf x x (defArgs st) (defBody st) (defScope st) .none (.ref D) doc pm an cdv ct) ⟨us, [kw].zip ws⟩ = pure (ps.zip (us ++ ws))) : DefK K mg x st ps n kw d := by
  have F : Fun K x x st f (PySem.W.fnOf x x (defArgs st) (defBody st) (defScope st) .none (.ref D) doc pm an cdv ct) := ⟨⟨oc, od, .ref D, doc, pm, an, cdv, ct, osl, rfl, l, cd⟩, kp⟩
  have FD : FunD K x x (defArgs st) (defBody st) (defScope st) [] [(kw, V.int d)] f (PySem.W.fnOf x x (defArgs st) (defBody st) (defScope st) .none (.ref D) doc pm an cdv ct) := ⟨⟨oc, od, .none, .ref D, doc, pm, an, cdv, ct, osl, rfl, l, cd, .inl ⟨rfl, rfl⟩, .inr ⟨D, rfl, fun q' m => by
    rw [List.mem_singleton.mp m]; exact ⟨_, q, r⟩⟩⟩, kp⟩
  refine ⟨f, _, F, PySem.W.mg_of X G a, FD.binds0 n (by simp) hn b0, ?_⟩
  obtain ⟨mv, kb⟩ := FD.kbinds0 (ps := ps) n [kw] [] (fun us _ ws => us ++ ws) (by simp) (fun q m => by cases m) (fun r1 _ r2 => r1.append r2) (fun D doc pm an cdv ct us mv ws l1 l2 l3 => by
    cases mv with
    | nil => exact b1 D doc pm an cdv ct us ws l1 l3
    | cons _ _ => cases l2)
  exact ⟨kb.to, kb.rel⟩
end
section
variable {X : Cx} {k j n : Nat} {x kw : Str} {sp : Sp} {p pos : Pos} {e : Expr} {es : List Expr} {t tk : TA} {d : Int} {kws : List Keyword}
theorem tCallN_app {m : Nat} {E : XK} : tCallN n m sp (fun vs zs => vs ++ zs) E t tk = tCall sp [] E (tAppN n m t tk) := by
  funext σ H Q
  simp only [tCallN, tCall, tAppN, List.append_nil]
theorem tCall_def {E : XK} : tCall sp [.int d] E t = tCall sp [] E (tDefN d t) := by
  funext σ H Q
  simp only [tCall, tDefN, List.append_nil]
/-- f(e, .., kw = v) -/
theorem pe_k0 (c : CalK X.prog X.w X.K X.mg X.base k x n kw d sp) (hr : Room j X.A) (hk : k ≤ j) (hg : Gl X x) (ha : PA X (e :: es) t) (hkw : PK X kws tk)
    (hall : (backToKw pos (keywordEach kws X.env)).all (·.1.isSome) = true := by rfl) (hks : (backToKw pos (keywordEach kws X.env)).filterMap (·.1) = [kw] := by rfl)
    (hdb : (x == ("__debug__" : Str)) = false := by decide) (he : starEach (e :: es) X.env = (false, eval e X.env) :: starEach es X.env := by rfl)
    (hpl : ((backTo pos (starEach (e :: es) X.env)).any (·.1) || (backToKw pos (keywordEach kws X.env)).any (·.1.isNone)) = false := by rfl) : PE X (.Call (.Name x p) (e :: es) kws pos) (tCall sp [] E0 (tAppN n 1 t tk)) := by
  obtain ⟨f, fd, ps, F, hm, kp, _, b⟩ := c.ex
  rw [← tCallN_app]
  exact pe_callN F (hr.mono hk) hg hm kp b passL ha hkw hall hks hdb he hpl
theorem pe_kE {E : XK} {W : WX} (tk' : Takes X W) (hW : ∀ cls d σ H, E cls d H → W cls d σ H) (c : CalK X.prog X.w X.K X.mg X.base k x n kw d sp) (hr : Room j X.A) (hk : k ≤ j) (hg : Gl X x) (ha : PA X (e :: es) t) (hkw : PK X kws tk)
    (hall : (backToKw pos (keywordEach kws X.env)).all (·.1.isSome) = true := by rfl) (hks : (backToKw pos (keywordEach kws X.env)).filterMap (·.1) = [kw] := by rfl)
    (hdb : (x == ("__debug__" : Str)) = false := by decide) (he : starEach (e :: es) X.env = (false, eval e X.env) :: starEach es X.env := by rfl)
    (hpl : ((backTo pos (starEach (e :: es) X.env)).any (·.1) || (backToKw pos (keywordEach kws X.env)).any (·.1.isNone)) = false := by rfl) : PE X (.Call (.Name x p) (e :: es) kws pos) (tCall sp [] E (tAppN n 1 t tk)) := by
  obtain ⟨f, fd, ps, F, hm, kp, _, b⟩ := c.ex
  rw [← tCallN_app]
  exact pe_callN F (hr.mono hk) hg hm kp b (passes_call tk' hW) ha hkw hall hks hdb he hpl
/-- f(e, ..): the default -/
theorem pe_d0 (c : CalK X.prog X.w X.K X.mg X.base k x n kw d sp) (hr : Room j X.A) (hk : k ≤ j) (hg : Gl X x) (ha : PA X (e :: es) t)
    (hdb : (x == ("__debug__" : Str)) = false := by decide) (he : starEach (e :: es) X.env = (false, eval e X.env) :: starEach es X.env := by rfl) (hpl : (backTo pos (starEach es X.env)).any (·.1) = false := by rfl) :
    PE X (.Call (.Name x p) (e :: es) [] pos) (tCall sp [] E0 (tDefN d t)) := by
  obtain ⟨f, fd, ps, F, hm, kp, ⟨ds, r, b⟩, _⟩ := c.ex
  rw [← tCall_def]
  exact pe_call F (hr.mono hk) hg hm kp b r passL ha hdb he hpl
theorem pe_dE {E : XK} {W : WX} (tk' : Takes X W) (hW : ∀ cls d σ H, E cls d H → W cls d σ H) (c : CalK X.prog X.w X.K X.mg X.base k x n kw d sp) (hr : Room j X.A) (hk : k ≤ j) (hg : Gl X x) (ha : PA X (e :: es) t)
    (hdb : (x == ("__debug__" : Str)) = false := by decide) (he : starEach (e :: es) X.env = (false, eval e X.env) :: starEach es X.env := by rfl) (hpl : (backTo pos (starEach es X.env)).any (·.1) = false := by rfl) :
    PE X (.Call (.Name x p) (e :: es) [] pos) (tCall sp [] E (tDefN d t)) := by
  obtain ⟨f, fd, ps, F, hm, kp, ⟨ds, r, b⟩, _⟩ := c.ex
  rw [← tCall_def]
  exact pe_call F (hr.mono hk) hg hm kp b r (passes_call tk' hW) ha hdb he hpl
end
end SQ
/-! max and min of a tuple of ints, of three ints -/
namespace SQ
open PySem PySem.Spec PyProof.Rows L2
section
variable {prog : Program} {w : World} {A : Around} {E : Value → Shared → Prop} {s : Shared} {l : Addr} {its : List Value} {ns : List Int} {Q : Value → Shared → Prop}
theorem tup_kept {h' : Heap} (hk : ∀ b o, b ∉ [s.heap.objs.size] → (s.heap.push { cls := .type "tuple_iterator", data := .fields #[.ref l, .int 0 0] }).get? b = some o → h'.get? b = some o) :
    ∀ b o, s.heap.get? b = some o → h'.get? b = some o := fun b o e => by
  refine hk b o (fun hm => ?_) (Heap.get?_push_of_some _ e)
  rcases List.mem_cons.mp hm with e1 | hm
  · exact absurd (e1 ▸ Heap.lt_size e) (Nat.lt_irrefl _)
  · cases hm
theorem max_tup_raw (hh : A.handled = none) (hl : s.heap.IsTuple l its.toArray) (hi : IntsAre its ns) (hne : 0 < ns.length)
    (h : ∀ h' tk M t', (∀ b o, s.heap.get? b = some o → h'.get? b = some o) → M ∈ ns → (∀ a, a ∈ ns → a ≤ M) → Q (.int M t') { s with heap := h', toks := tk }) : wpAny (model prog w) A (call (.builtin "max") [.ref l]) Q E s := by
  obtain ⟨xs, e⟩ := hi.allInts.items
  have hn : numsOf (intItems xs).toList = ns := by rw [← e]; exact hi.numsOf
  rw [nums_intItems] at hn
  subst hn
  rw [e] at hl
  have hsz : 0 < xs.size := by simpa using hne
  have hlt : l < s.heap.objs.size := by obtain ⟨_, e, _⟩ := hl; exact Heap.lt_size e
  refine call_max_walk (wpAny_pyIter_tuple hl ?_)
  refine ⟨_, _, _, _, _, _, _, rfl, Walks.tuple (A := A.in1) hh _ l (Nat.ne_of_lt hlt) (intItems xs), ⟨⟨_, Heap.get?_push_size _ rfl, rfl, rfl⟩, hl.push _⟩, fun c hc => ?_, by simpa [intItems] using hsz, CmpOf.ints_gt (numAt xs) (fun _ _ => intItems_at), fun v h' tk hP hk => ?_⟩
  · show c < (s.heap.push _).objs.size
    rw [Heap.size_push]
    rcases List.mem_cons.mp hc with rfl | hc
    · exact Nat.lt_succ_self _
    · rcases List.mem_cons.mp hc with rfl | hc
      · exact Nat.lt_succ_of_lt hlt
      · cases hc
  · have hv : (intItems xs)[argBest (fun i j => decide (numAt xs i > numAt xs j)) (xs.size - 1)]? = some v := by simpa [intItems] using hP
    obtain ⟨t, rfl⟩ := intItems_at hv
    obtain ⟨h1, h2⟩ := argBest_gt (numAt xs) (xs.size - 1)
    refine h h' tk _ t (tup_kept hk) ?_ fun a ha => ?_
    · rw [numAt_eq]; exact PySem.getD_mem (by rw [List.length_map, Array.length_toList]; omega)
    · obtain ⟨j, hj, rfl⟩ := mem_getD ha
      rw [List.length_map, Array.length_toList] at hj
      rw [← numAt_eq]; exact h2 j (by omega)
theorem min_tup_raw (hh : A.handled = none) (hl : s.heap.IsTuple l its.toArray) (hi : IntsAre its ns) (hne : 0 < ns.length)
    (h : ∀ h' tk M t', (∀ b o, s.heap.get? b = some o → h'.get? b = some o) → M ∈ ns → (∀ a, a ∈ ns → M ≤ a) → Q (.int M t') { s with heap := h', toks := tk }) : wpAny (model prog w) A (call (.builtin "min") [.ref l]) Q E s := by
  obtain ⟨xs, e⟩ := hi.allInts.items
  have hn : numsOf (intItems xs).toList = ns := by rw [← e]; exact hi.numsOf
  rw [nums_intItems] at hn
  subst hn
  rw [e] at hl
  have hsz : 0 < xs.size := by simpa using hne
  have hlt : l < s.heap.objs.size := by obtain ⟨_, e, _⟩ := hl; exact Heap.lt_size e
  refine call_min_walk (wpAny_pyIter_tuple hl ?_)
  refine ⟨_, _, _, _, _, _, _, rfl, Walks.tuple (A := A.in1) hh _ l (Nat.ne_of_lt hlt) (intItems xs), ⟨⟨_, Heap.get?_push_size _ rfl, rfl, rfl⟩, hl.push _⟩, fun c hc => ?_, by simpa [intItems] using hsz, CmpOf.ints_lt (numAt xs) (fun _ _ => intItems_at), fun v h' tk hP hk => ?_⟩
  · show c < (s.heap.push _).objs.size
    rw [Heap.size_push]
    rcases List.mem_cons.mp hc with rfl | hc
    · exact Nat.lt_succ_self _
    · rcases List.mem_cons.mp hc with rfl | hc
      · exact Nat.lt_succ_of_lt hlt
      · cases hc
  · have hv : (intItems xs)[argBest (fun i j => decide (numAt xs i < numAt xs j)) (xs.size - 1)]? = some v := by simpa [intItems] using hP
    obtain ⟨t, rfl⟩ := intItems_at hv
    obtain ⟨h1, h2⟩ := argBest_lt (numAt xs) (xs.size - 1)
    refine h h' tk _ t (tup_kept hk) ?_ fun a ha => ?_
    · rw [numAt_eq]; exact PySem.getD_mem (by rw [List.length_map, Array.length_toList]; omega)
    · obtain ⟨j, hj, rfl⟩ := mem_getD ha
      rw [List.length_map, Array.length_toList] at hj
      rw [← numAt_eq]; exact h2 j (by omega)
end
def bMaxT (K : PySem.W.Frag) : List V → Hp → VK → Prop := fun vs H Q => ∃ (a : Addr) (ns : List Int), vs = [V.ref a] ∧ SqT K H a (ns.map V.int) ∧ 0 < ns.length ∧ ∀ m, m ∈ ns → (∀ y, y ∈ ns → y ≤ m) → Q (.int m) H
def bMinT (K : PySem.W.Frag) : List V → Hp → VK → Prop := fun vs H Q => ∃ (a : Addr) (ns : List Int), vs = [V.ref a] ∧ SqT K H a (ns.map V.int) ∧ 0 < ns.length ∧ ∀ m, m ∈ ns → (∀ y, y ∈ ns → m ≤ y) → Q (.int m) H
section
variable {X : Cx}
theorem cr_maxT (hc : X.calm = true) : CallR X (.builtin "max") (bMaxT X.K) := by
  intro pins s σ H vs us Q I r h
  obtain ⟨a, ns, rfl, hs, hne, q⟩ := h
  obtain ⟨its, rv, hl, hz⟩ := I.tuple hs
  rw [Vals.ref1 r]
  have hl' : s.heap.IsTuple a its.toArray := by
    obtain ⟨o, h1, h2, n, h3⟩ := hl
    exact ⟨o, h1, h2, n, h3⟩
  exact max_tup_raw (I.ok.hd hc) hl' rv.ints hne fun h' tk m t' hk h1 h2 => ⟨.int _, H, I.kept hk, ⟨_, rfl⟩, q m h1 h2⟩
theorem cr_minT (hc : X.calm = true) : CallR X (.builtin "min") (bMinT X.K) := by
  intro pins s σ H vs us Q I r h
  obtain ⟨a, ns, rfl, hs, hne, q⟩ := h
  obtain ⟨its, rv, hl, hz⟩ := I.tuple hs
  rw [Vals.ref1 r]
  have hl' : s.heap.IsTuple a its.toArray := by
    obtain ⟨o, h1, h2, n, h3⟩ := hl
    exact ⟨o, h1, h2, n, h3⟩
  exact min_tup_raw (I.ok.hd hc) hl' rv.ints hne fun h' tk m t' hk h1 h2 => ⟨.int _, H, I.kept hk, ⟨_, rfl⟩, q m h1 h2⟩
def bMax4 (K : PySem.W.Frag) : List V → Hp → VK → Prop := fun vs H Q => bMax K vs H Q ∨ bMaxT K vs H Q ∨ rNuC3 nuMax3 vs H Q
def bMin4 (K : PySem.W.Frag) : List V → Hp → VK → Prop := fun vs H Q => bMin K vs H Q ∨ bMinT K vs H Q ∨ rNuC3 nuMin3 vs H Q
theorem cr_max4K {K : PySem.W.Frag} (hc : X.calm = true) (h : X.K = K := by rfl) : CallR X (.builtin "max") (bMax4 K) := by subst h; exact (cr_maxA hc).or ((cr_maxT hc).or (call_max3Nu hc))
theorem cr_min4K {K : PySem.W.Frag} (hc : X.calm = true) (h : X.K = K := by rfl) : CallR X (.builtin "min") (bMin4 K) := by subst h; exact (cr_minA hc).or ((cr_minT hc).or (call_min3Nu hc))
end
section
variable {K : PySem.W.Frag} {C : D → Prop} {ns : List Int} {i j k : Int}
theorem wpB_max4 {ds : List D} (h : wpB K (bMax K) ds C) : wpB K (bMax4 K) ds C := fun S H vs l r Q q => .inl (h S H vs l r Q q)
theorem wpB_min4 {ds : List D} (h : wpB K (bMin K) ds C) : wpB K (bMin4 K) ds C := fun S H vs l r Q q => .inl (h S H vs l r Q q)
theorem wpB_max4T (hn : 0 < ns.length) (k : ∀ m, m ∈ ns → (∀ y, y ∈ ns → y ≤ m) → C (.int m)) : wpB K (bMax4 K) [.tup (ns.map D.int)] C := fun S H vs l r Q q => by
  obtain ⟨v, rfl, a, ws, rfl, t, r⟩ := reps1 r
  rw [Reps.ints.mp r] at t
  exact .inr (.inl ⟨a, ns, rfl, t, hn, fun m h1 h2 => q _ (.int m) H (Ext.refl H) rfl (k m h1 h2)⟩)
theorem wpB_min4T (hn : 0 < ns.length) (k : ∀ m, m ∈ ns → (∀ y, y ∈ ns → m ≤ y) → C (.int m)) : wpB K (bMin4 K) [.tup (ns.map D.int)] C := fun S H vs l r Q q => by
  obtain ⟨v, rfl, a, ws, rfl, t, r⟩ := reps1 r
  rw [Reps.ints.mp r] at t
  exact .inr (.inl ⟨a, ns, rfl, t, hn, fun m h1 h2 => q _ (.int m) H (Ext.refl H) rfl (k m h1 h2)⟩)
theorem wpB_max43 (c : C (.int (max (max i j) k))) : wpB K (bMax4 K) [.int i, .int j, .int k] C := fun S H vs l r Q q => by
  obtain ⟨v, vs1, rfl, r1, w, vs2, rfl, r2, z, vs3, rfl, r3, e⟩ := r
  have e : vs3 = [] := e
  have r1 : v = .int i := r1
  have r2 : w = .int j := r2
  have r3 : z = .int k := r3
  subst e r1 r2 r3
  refine .inr (.inr ⟨_, _, _, .int (max (max i j) k), rfl, ?_, q _ (.int (max (max i j) k)) H (Ext.refl H) rfl c⟩)
  have two : ∀ a b : Int, nuMax2 (.int a) (.int b) = some (.int (max a b)) := fun a b => by
    simp only [nuMax2, nuLt, nuCB, Option.map_some, Option.some.injEq, decide_eq_true_eq]
    split <;> (congr 1; omega)
  rw [nuMax3, two, Option.bind_some, two]
theorem wpB_min43 (c : C (.int (min (min i j) k))) : wpB K (bMin4 K) [.int i, .int j, .int k] C := fun S H vs l r Q q => by
  obtain ⟨v, vs1, rfl, r1, w, vs2, rfl, r2, z, vs3, rfl, r3, e⟩ := r
  have e : vs3 = [] := e
  have r1 : v = .int i := r1
  have r2 : w = .int j := r2
  have r3 : z = .int k := r3
  subst e r1 r2 r3
  refine .inr (.inr ⟨_, _, _, .int (min (min i j) k), rfl, ?_, q _ (.int (min (min i j) k)) H (Ext.refl H) rfl c⟩)
  have two : ∀ a b : Int, nuMin2 (.int a) (.int b) = some (.int (min a b)) := fun a b => by
    simp only [nuMin2, nuLt, nuCB, Option.map_some, Option.some.injEq, decide_eq_true_eq]
    split <;> (congr 1; omega)
  rw [nuMin3, two, Option.bind_some, two]
end
end SQ
/-! list(zip(a, b)) of two tuples -/
namespace SQ
open PySem PySem.Spec PyProof.Rows L2 RZ
open Sem (wp)
section
variable {prog : Program} {w : World} {A : Around} {E : Value → Shared → Prop} {s : Shared}
theorem zip_no_len : typeLookup (.type "zip") "__len__" = pure none := by rw [typeLookup_type, builtinLookup_eq_fast]; kernel_rfl
theorem zip_no_hint : typeLookup (.type "zip") "__length_hint__" = pure none := by rw [typeLookup_type, builtinLookup_eq_fast]; kernel_rfl
theorem pyNextZ_item {z TI TO i1 i2 l1 l2 : Addr} {k : Nat} {xs ys : Array Value} {x y : Value} {Q : Option Value → Shared → Prop} (D : ZipApart z TI TO i1 i2 l1 l2) (hst : ZSt s.heap z TI TO i1 i2 l1 l2 k)
    (hl1 : s.heap.IsTuple l1 xs) (hl2 : s.heap.IsTuple l2 ys) (hx : xs[k]? = some x) (hy : ys[k]? = some y)
    (hQ : ∀ h', ZSt h' z TI TO i1 i2 l1 l2 (k + 1) → PySem.IsPair h' s.heap.objs.size x y → h'.objs.size = s.heap.objs.size + 1 →
      (∀ c o, c ≠ z → c ≠ TO → c ≠ i1 → c ≠ i2 → s.heap.get? c = some o → h'.get? c = some o) → Q (some (.ref s.heap.objs.size)) { s with heap := h' }) :
    wpAny (model prog w) A (pyNext (.ref z)) Q E s := by
  obtain ⟨hz, hTI, ⟨a, b, hTO⟩, h1, h2⟩ := hst
  have hT : s.TypeIs (.ref z) "zip" := by
    rcases hz with hz | ⟨_, _, hz⟩
    · exact ⟨_, hz, rfl⟩
    · exact ⟨_, hz, rfl⟩
  unfold pyNext
  refine wpAny_bind (wpAny_attempt (wpAny_callSpecial?_slot (name := Str.ofString "__next__") hT F.slot_zip_next
    (wpAny_call_entry F.slot_zip_next hT F.entry_zip_next ?_ (F.args_zip_next_1 _))))
  rcases hz with hz | hz
  · refine zipT_next_item D hz hTI hTO h1 h2 hl1 hl2 hx hy fun h' a1 a2 a3 a4 a5 a6 a7 => wpAny_pure (hQ h' ⟨.inr ⟨_, false, a1⟩, ?_, ⟨_, _, a2⟩, a3, a4⟩ a5 a6 a7)
    exact a7 _ _ D.TIz D.TITO D.TIi1 D.TIi2 hTI
  · refine zipB_next_item D hz hTI hTO h1 h2 hl1 hl2 hx hy fun h' a1 a2 a3 a4 a5 a6 a7 => wpAny_pure (hQ h' ⟨.inr a1, ?_, a2, a3, a4⟩ a5 a6 a7)
    exact a7 _ _ D.TIz D.TITO D.TIi1 D.TIi2 hTI
theorem pyNextZ_end {z TI TO i1 i2 l1 l2 : Addr} {k : Nat} {xs ys : Array Value} {Q : Option Value → Shared → Prop} (hh : A.handled = none) (D : ZipApart z TI TO i1 i2 l1 l2) (hst : ZSt s.heap z TI TO i1 i2 l1 l2 k)
    (hl1 : s.heap.IsTuple l1 xs) (hl2 : s.heap.IsTuple l2 ys) (hend : xs[k]? = none ∨ ys[k]? = none)
    (hQ : ∀ h', (∀ c o, c ≠ z → c ≠ TO → c ≠ i1 → c ≠ i2 → s.heap.get? c = some o → h'.get? c = some o) → Q none { s with heap := h' }) : wpAny (model prog w) A (pyNext (.ref z)) Q E s := by
  obtain ⟨hz, hTI, ⟨a, b, hTO⟩, h1, h2⟩ := hst
  have hT : s.TypeIs (.ref z) "zip" := by
    rcases hz with hz | ⟨_, _, hz⟩
    · exact ⟨_, hz, rfl⟩
    · exact ⟨_, hz, rfl⟩
  unfold pyNext
  refine wpAny_bind (wpAny_attempt (wpAny_callSpecial?_slot (name := Str.ofString "__next__") hT F.slot_zip_next
    (wpAny_call_entry F.slot_zip_next hT F.entry_zip_next ?_ (F.args_zip_next_1 _))))
  rcases hz with hz | hz
  · refine zipT_next_end hh D hz hTI hTO h1 h2 hl1 hl2 hend fun h' x he hx => ?_
    obtain ⟨o, ho, hc⟩ := hx
    refine wpAny_bind (wpAny_isInstance (T := "StopIteration") (b := true) ⟨o, ho, hc⟩ isSubtype_stop ?_)
    exact wpAny_pure (hQ _ he)
  · refine zipB_next_end hh D hz hTI hTO h1 h2 hl1 hl2 hend fun h' x he hx => ?_
    obtain ⟨o, ho, hc⟩ := hx
    refine wpAny_bind (wpAny_isInstance (T := "StopIteration") (b := true) ⟨o, ho, hc⟩ isSubtype_stop ?_)
    exact wpAny_pure (hQ _ he)
end
/-- what stands there when i pairs have been put on the list at S -/
structure LzSt (X : Cx) (pins : List (Addr × Obj)) (σ : L2.St) (z TI TO i1 i2 a b S : Addr) (its its2 : List Value) (xs ys : List V) (H0 : Hp) (i : Nat) (H : Hp) (s : Shared) (Ts : List Addr) : Prop where
  inv : Inv X pins σ H s
  st : ZSt s.heap z TI TO i1 i2 a b i
  t1 : s.heap.IsTuple a its.toArray
  t2 : s.heap.IsTuple b its2.toArray
  fp : ∀ q ∈ [z, TO, i1, i2], FpOk X pins H q
  lst : H S = some (.lst (Ts.map V.ref))
  mem : ∃ c, s.heap.get? S = some { cls := .type "list", dict := none, data := .seq (Ts.map Value.ref).toArray c, slots := #[] }
  len : Ts.length = i
  each : ∀ (j : Nat) (T : Addr) (x y : V), Ts[j]? = some T → xs[j]? = some x → ys[j]? = some y → H T = some (.tup [x, y])
  old : ∀ c u, c ≠ S → H0 c = some u → H c = some u
  new : ∀ T ∈ Ts, H0 T = none
theorem vals_refs : ∀ (Ts : List Addr), Vals (Ts.map V.ref) (Ts.map Value.ref)
  | [] => .nil
  | T :: r => .cons rfl (vals_refs r)
theorem ext_loopZ {X : Cx} {pins : List (Addr × Obj)} {σ : L2.St} {A : Around} (hh : A.in1.handled = none) {z TI TO i1 i2 a b S : Addr} (D : ZipApart z TI TO i1 i2 a b) {its its2 : List Value} {xs ys : List V} {H0 : Hp} (r1 : Vals xs its) (r2 : Vals ys its2)
    (res : Value) {R : Result → Shared → Prop} (hS : S ∉ [z, TO, i1, i2] ∧ S ≠ TI ∧ S ≠ a ∧ S ≠ b) {n : Nat} (hn : n = min xs.length ys.length) (hz : n ≤ sizeLine)
    (hR : ∀ s' H' Ts', LzSt X pins σ z TI TO i1 i2 a b S its its2 xs ys H0 n H' s' Ts' → ∀ h'', Inv X pins σ H' { s' with heap := h'' } → R (.ok (.ret res)) { s' with heap := h'' }) :
    ∀ (k i : Nat) (s : Shared) (H : Hp) (Ts : List Addr), n - i = k → i ≤ n → LzSt X pins σ z TI TO i1 i2 a b S its its2 xs ys H0 i H s Ts →
      codeAny (model X.prog X.w) A (.builtin "list.extend.loop" ⟨[.ref S, .ref z, res], []⟩) R s := by
  intro k
  induction k with
  | zero =>
    intro i s H Ts hk hi L
    have hin : i = n := by omega
    subst hin
    refine codeAny_builtin F.entry_extend_loop ?_
    rw [Around.under_plainId F.plain_extend_loop _]
    show wpAny _ A.in1 (pyNext (.ref z) >>= _) _ _ s
    have l1 : its.length = xs.length := r1.length.symm
    have l2 : its2.length = ys.length := r2.length.symm
    refine wpAny_bind (pyNextZ_end hh D L.st L.t1 L.t2 ?_ fun h' kk => ?_)
    · rcases Nat.le_total xs.length ys.length with h | h
      · exact .inl (Array.getElem?_eq_none (by simp; omega))
      · exact .inr (Array.getElem?_eq_none (by simp; omega))
    · refine wpAny_pure (hR s H Ts L h' (L.inv.turnedL (t' := s.toks) (ch := [z, TO, i1, i2]) (fun c o hc e => kk c o (fun q => hc (by simp [q])) (fun q => hc (by simp [q])) (fun q => hc (by simp [q])) (fun q => hc (by simp [q])) e) L.fp))
  | succ k ih =>
    intro i s H Ts hk hi L
    have hlt : i < n := by omega
    have hx : i < xs.length := by omega
    have hy : i < ys.length := by omega
    obtain ⟨u, hu, ru⟩ := r1.get (List.getElem?_eq_getElem hx)
    obtain ⟨v, hv, rv⟩ := r2.get (List.getElem?_eq_getElem hy)
    refine codeAny_builtin F.entry_extend_loop ?_
    rw [Around.under_plainId F.plain_extend_loop _]
    show wpAny _ A.in1 (pyNext (.ref z) >>= _) _ _ s
    refine wpAny_bind (pyNextZ_item D L.st L.t1 L.t2 (by simpa using hu) (by simpa using hv) fun h' st' pr sz kk => ?_)
    have Slt : S < s.heap.objs.size := by obtain ⟨c, e⟩ := L.mem; exact Heap.lt_size e
    have hS0 : S ≠ z ∧ S ≠ TO ∧ S ≠ i1 ∧ S ≠ i2 := by
      have := hS.1
      simp at this
      exact this
    have new : ObjOk X.prog X.w (upd H s.heap.objs.size (.tup [xs[i], ys[i]])) h' s.heap.objs.size (.tup [xs[i], ys[i]]) := by
      refine ⟨?_, [u, v], .cons ru (.cons rv .nil), ⟨_, pr, rfl, _, rfl⟩⟩
      show 2 ≤ sizeLine
      decide
    have I1 : Inv X pins σ (upd H s.heap.objs.size (.tup [xs[i], ys[i]])) { s with heap := h', toks := s.toks } :=
      L.inv.turnedNew (ch := [z, TO, i1, i2]) (fun c o hc e => kk c o (fun q => hc (by simp [q])) (fun q => hc (by simp [q])) (fun q => hc (by simp [q])) (fun q => hc (by simp [q])) e) L.fp (Nat.le_refl _) new
    obtain ⟨c, hm⟩ := L.mem
    have hm' : h'.get? S = some { cls := .type "list", dict := none, data := .seq (Ts.map Value.ref).toArray c, slots := #[] } := kk S _ hS0.1 hS0.2.1 hS0.2.2.1 hS0.2.2.2 hm
    show wpAny _ A.in1 (updateSeq S (·.push (.ref s.heap.objs.size)) >>= _) _ _ _
    refine wpAny_bind ?_
    have up : ∀ c o, c ≠ S → h'.get? c = some o → (h'.update S (Obj.mapSeq (·.push (.ref s.heap.objs.size)))).get? c = some o := fun c o hc e => (Heap.get?_update_other _ _ (fun q => hc q.symm)).trans e
    have hS2 := Heap.get?_update_self (Obj.mapSeq (·.push (.ref s.heap.objs.size))) hm' rfl
    obtain ⟨c3, hS3⟩ : ∃ c3, (h'.update S (Obj.mapSeq (·.push (.ref s.heap.objs.size)))).get? S = some { cls := .type "list", dict := none, data := .seq ((Ts ++ [s.heap.objs.size]).map Value.ref).toArray c3, slots := #[] } := ⟨_, by rw [hS2]; simp [Obj.mapSeq]; rfl⟩
    have Tlt : ∀ T ∈ Ts, T ≠ s.heap.objs.size := fun T m => by
      obtain ⟨j, hj⟩ := List.mem_iff_getElem?.mp m
      have jl : j < Ts.length := (List.getElem?_eq_some_iff.mp hj).1
      rw [L.len] at jl
      have := L.each j T _ _ hj (List.getElem?_eq_getElem (show j < xs.length by omega)) (List.getElem?_eq_getElem (show j < ys.length by omega))
      exact Nat.ne_of_lt (L.inv.hok.lt this)
    refine wpAny_updateSeq hm' rfl (wpAny_pure ⟨plainId_quiet F.plain_extend_loop _, ih (i + 1) _ (upd (upd H s.heap.objs.size (.tup [xs[i], ys[i]])) S (.lst ((Ts ++ [s.heap.objs.size]).map V.ref))) (Ts ++ [s.heap.objs.size]) (by omega) hlt ?_⟩) ?_ ?_
    · refine ⟨?_, ?_, ?_, ?_, ?_, upd_same, ?_, by simp [L.len], ?_, ?_, ?_⟩
      · refine I1.write (x := S) (e := S) (t' := s.toks) ?_ (.inl rfl) (fun c o hc e => up c o hc e) ⟨_, hS2⟩ ⟨?_, (Ts ++ [s.heap.objs.size]).map Value.ref, c3, vals_refs _, hS3⟩
        · rw [upd_ne (Nat.ne_of_lt Slt), L.lst]; trivial
        · simp [L.len]; omega
      · exact st'.frame (e := S) up ⟨hS0.1.symm, hS.2.1.symm, hS0.2.1.symm, hS0.2.2.1.symm, hS0.2.2.2.symm⟩
      · obtain ⟨o, h1, h2, m, h3⟩ := L.t1
        exact ⟨o, up _ _ hS.2.2.1.symm (kk _ _ D.l1z D.l1TO D.l1i1 D.l1i2 h1), h2, m, h3⟩
      · obtain ⟨o, h1, h2, m, h3⟩ := L.t2
        exact ⟨o, up _ _ hS.2.2.2.symm (kk _ _ D.l2z D.l2TO D.l2i1 D.l2i2 h1), h2, m, h3⟩
      · intro q hq
        obtain ⟨f0, f1⟩ := L.fp q hq
        refine ⟨?_, f1⟩
        have q1 : q ≠ S := fun e => hS.1 (e ▸ hq)
        have q2 : q < s.heap.objs.size := by
          have lz : z < s.heap.objs.size := by
            rcases L.st.z with h | ⟨_, _, h⟩ <;> exact Heap.lt_size h
          have lT : TO < s.heap.objs.size := by obtain ⟨_, _, h⟩ := L.st.TO; exact Heap.lt_size h
          have l1 : i1 < s.heap.objs.size := by obtain ⟨_, h, _⟩ := L.st.i1; exact Heap.lt_size h
          have l2 : i2 < s.heap.objs.size := by obtain ⟨_, h, _⟩ := L.st.i2; exact Heap.lt_size h
          simp only [List.mem_cons, List.not_mem_nil, or_false] at hq
          rcases hq with rfl | rfl | rfl | rfl <;> assumption
        rw [upd_ne q1, upd_ne (Nat.ne_of_lt q2)]
        exact f0
      · exact ⟨c3, hS3⟩
      · intro j T x y hT hx' hy'
        have hj : j < i + 1 := by
          have := (List.getElem?_eq_some_iff.mp hT).1
          simpa [L.len] using this
        by_cases e : j = i
        · subst e
          have : T = s.heap.objs.size := by
            rw [← L.len, List.getElem?_concat_length] at hT
            exact (Option.some.inj hT).symm
          subst this
          rw [upd_ne (Nat.ne_of_gt Slt), upd_same]
          rw [List.getElem?_eq_getElem hx] at hx'
          rw [List.getElem?_eq_getElem hy] at hy'
          cases hx'; cases hy'; rfl
        · have hT' : Ts[j]? = some T := by rwa [List.getElem?_append_left (by rw [L.len]; omega)] at hT
          have h0 := L.each j T x y hT' hx' hy'
          have n1 : T ≠ S := fun e => by rw [e, L.lst] at h0; cases h0
          rw [upd_ne n1, upd_ne (Tlt T (List.mem_of_getElem? hT'))]
          exact h0
      · intro c u hc e
        have := L.old c u hc e
        rw [upd_ne hc, upd_ne (Nat.ne_of_lt (L.inv.hok.lt this))]
        exact this
      · intro T m
        rcases List.mem_append.mp m with m | m
        · exact L.new T m
        · rw [List.mem_singleton.mp m]
          cases q : H0 s.heap.objs.size with
          | none => rfl
          | some u => exact absurd (L.inv.hok.lt (L.old _ u (Nat.ne_of_gt Slt) q)) (Nat.lt_irrefl _)
    · simp [L.len]; omega
    · show _ ≤ sizeLine + 1
      simp [L.len]; omega
theorem ext_zip {X : Cx} {pins : List (Addr × Obj)} {σ : L2.St} {A : Around} (hh : A.in1.handled = none) {z TI TO i1 i2 a b S : Addr} (D : ZipApart z TI TO i1 i2 a b) {its its2 : List Value} {xs ys : List V} {H0 : Hp} (r1 : Vals xs its) (r2 : Vals ys its2)
    {E : Value → Shared → Prop} (res : Value) {R : Result → Shared → Prop} (hS : S ∉ [z, TO, i1, i2] ∧ S ≠ TI ∧ S ≠ a ∧ S ≠ b) {n : Nat} (hn : n = min xs.length ys.length) (hz : n ≤ sizeLine) {s : Shared} {H : Hp}
    (L : LzSt X pins σ z TI TO i1 i2 a b S its its2 xs ys H0 0 H s [])
    (hR : ∀ s' H' Ts', LzSt X pins σ z TI TO i1 i2 a b S its its2 xs ys H0 n H' s' Ts' → ∀ h'', Inv X pins σ H' { s' with heap := h'' } → R (.ok (.ret res)) { s' with heap := h'' }) :
    wpAny (model X.prog X.w) A.in1 (Builtin.List.listExtendWith (.ref S) (.ref z) res)
      (fun fin s' => match fin with | .done f => R (.ok f) s' | .again c' => c'.quiet = true ∧ codeAny (model X.prog X.w) A c' R s') E s := by
  have hT : s.TypeIs (.ref z) "zip" := by
    rcases L.st.z with hz | ⟨_, _, hz⟩
    · exact ⟨_, hz, rfl⟩
    · exact ⟨_, hz, rfl⟩
  have hS0 : S ≠ z ∧ S ≠ TO ∧ S ≠ i1 ∧ S ≠ i2 := by
    have := hS.1
    simp at this
    exact this
  unfold Builtin.List.listExtendWith
  refine wpAny_bind (wpAny_typeOf hT ?_)
  have h1 : Builtin.List.listSameRef (.ref S) (.ref z) = false := by simp [Builtin.List.listSameRef, hS0.1]
  have h2 : (Value.type "zip" == Value.type "list") = false := by decide
  have h3 : (Value.type "zip" == Value.type "tuple") = false := by decide
  simp only [h1, h2, h3, Bool.or_false, Bool.false_eq_true, if_false]
  refine wpAny_bind ?_
  have itr : ∀ {Q : Value → Shared → Prop} {E : Value → Shared → Prop}, Q (.ref z) s → wpAny (model X.prog X.w) A.in1 (pyIter (.ref z)) Q E s := fun q => by
    refine wpAny_pyIter_slot hT F.slot_zip_iter (wpAny_call_entry F.slot_zip_iter hT F.entry_zip_iter ?_ (F.args_zip_iter_1 _))
    show wpAny _ _ (ret (.ref z)) _ _ s
    exact wpAny_pure ⟨_, rfl, "zip", _, hT, F.slot_zip_next.lookup, q⟩
  refine itr ?_
  refine wpAny_bind (wpAny_holding ?_)
  unfold Builtin.List.listLengthHint
  refine wpAny_bind (wpAny_specialOf hT zip_no_len ?_)
  show wpAny _ A.in1 (specialOf (Value.ref z) (Str.ofString "__length_hint__") >>= _) _ _ _
  refine wpAny_bind (wpAny_specialOf hT zip_no_hint ?_)
  refine wpAny_pure ?_
  show wpAny _ A.in1 (rule "list.extend.makes-room" >>= fun _ => Builtin.List.listTouch (.ref S) >>= fun _ =>
    again (.builtin "list.extend.loop" ⟨[.ref S, .ref z, res], []⟩)) _ _ _
  refine wpAny_bind (wpAny_rule ?_)
  refine wpAny_bind ?_
  show wpAny _ A.in1 (updateSeq S (·.push .none) >>= fun _ => updateSeq S (·.pop)) _ _ _
  obtain ⟨c, hm⟩ := L.mem
  refine wpAny_bind (wpAny_updateSeq hm rfl ?_)
  have hS₂ := Heap.get?_update_self (Obj.mapSeq (·.push Value.none)) hm rfl
  refine wpAny_updateSeq (hz := by seq_fits) hS₂ rfl ?_
  have hS₃ := Heap.get?_update_self (Obj.mapSeq (·.pop)) hS₂ rfl
  have oth : ∀ b o, b ≠ S → s.heap.get? b = some o → ((s.heap.update S (Obj.mapSeq (·.push Value.none))).update S (Obj.mapSeq (·.pop))).get? b = some o :=
    fun b o hb e => (Heap.get?_update_other _ _ (Ne.symm hb)).trans ((Heap.get?_update_other _ _ (Ne.symm hb)).trans e)
  refine wpAny_pure ⟨plainId_quiet F.plain_extend_loop _, ext_loopZ hh D r1 r2 res hS hn hz hR n 0 _ H [] rfl (Nat.zero_le _) ?_⟩
  obtain ⟨c3, hS4⟩ : ∃ c3, ((s.heap.update S (Obj.mapSeq (·.push Value.none))).update S (Obj.mapSeq (·.pop))).get? S = some { cls := .type "list", dict := none, data := .seq (([] : List Addr).map Value.ref).toArray c3, slots := #[] } := ⟨_, by rw [hS₃]; simp [Obj.mapSeq]; rfl⟩
  refine ⟨?_, L.st.frame (e := S) oth ⟨hS0.1.symm, hS.2.1.symm, hS0.2.1.symm, hS0.2.2.1.symm, hS0.2.2.2.symm⟩, ?_, ?_, L.fp, L.lst, ⟨c3, hS4⟩, rfl, fun j T x y h => by simp at h, L.old, fun T m => by cases m⟩
  · have e : upd H S (.lst (([] : List Addr).map V.ref)) = H := by
      funext q
      by_cases hq : q = S
      · subst hq; rw [upd_same, L.lst]
      · rw [upd_ne hq]
    have := L.inv.write (x := S) (e := S) (o := .lst (([] : List Addr).map V.ref)) (t' := s.toks) (by rw [L.lst]; trivial) (.inl rfl) oth ⟨_, hS4⟩ ⟨Nat.zero_le _, [], c3, .nil, hS4⟩
    rw [e] at this
    exact this
  · obtain ⟨o, h1, h2, m, h3⟩ := L.t1
    exact ⟨o, oth _ _ hS.2.2.1.symm h1, h2, m, h3⟩
  · obtain ⟨o, h1, h2, m, h3⟩ := L.t2
    exact ⟨o, oth _ _ hS.2.2.2.symm h1, h2, m, h3⟩
/-- list(zip(a, b)): the pairs, the list -/
def tListZip (K : PySem.W.Frag) (ta : TA) : TE := fun σ H Q => ta σ H fun vs H1 => ∃ a b xs ys, vs = [.ref a, .ref b] ∧ SqT K H1 a xs ∧ SqT K H1 b ys ∧
  ∀ (S : Addr) (Ts : List Addr) (H2 : Hp), H1 S = none → Ts.length = min xs.length ys.length → H2 S = some (.lst (Ts.map V.ref)) → (∀ (j : Nat) (T : Addr) (x y : V), Ts[j]? = some T → xs[j]? = some x → ys[j]? = some y → H2 T = some (.tup [x, y])) →
    (∀ c u, H1 c = some u → H2 c = some u) → (∀ T ∈ Ts, H1 T = none) → Q (.ref S) H2
theorem pe_listZip {X : Cx} {e e2 : Expr} {ta : TA} {p p2 q pos : Pos} (hg : Gl X "list") (hm : X.mg "list" = none) (hg2 : Gl X "zip") (hm2 : X.mg "zip" = none) (ha : PA X [e, e2] ta) (hc : X.calm = true := by rfl)
    (hs : starEach [e, e2] X.env = (false, eval e X.env) :: starEach [e2] X.env := by rfl) (hpl : (backTo q (starEach [e2] X.env)).any (·.1) = false := by rfl)
    (na : starEach [.Call (.Name "zip" p2) [e, e2] [] q] X.env = (false, eval (.Call (.Name "zip" p2) [e, e2] [] q) X.env) :: starEach [] X.env := by rfl) :
    PE X (.Call (.Name "list" p) [.Call (.Name "zip" p2) [e, e2] [] q] [] pos) (tListZip X.K ta) := by
  refine ⟨fun pins s σ H Q I h => ?_⟩
  refine Call_ (ld_blt I hg hm PyProof.Rows.boot_list ?_)
  refine PyProof.Rows.callWith_type1 (PyProof.Rows.args_cons ?_ na) na rfl
  refine Call_ (ld_blt I hg2 hm2 PyProof.Rows.boot_zip (PyProof.Rows.callWith_type1 (thn (ha.run q pins s σ H _ I h) fun us s1 ⟨vs, H1, I1, r1, q1⟩ => ?_) hs hpl))
  obtain ⟨a, b, xs, ys, rfl, hqx, hqy, q1⟩ := q1
  cases r1 with
  | cons r rr =>
    cases rr with
    | cons r' rr =>
      cases rr
      cases r
      cases r'
      obtain ⟨its, rv, p1, hz1⟩ := I1.tuple hqx
      obtain ⟨its2, rv2, p2', hz2⟩ := I1.tuple hqy
      obtain ⟨o1, ho1, _⟩ := id p1
      obtain ⟨o2, ho2, _⟩ := id p2'
      have la := Heap.lt_size ho1
      have lb := Heap.lt_size ho2
      refine call_zipT (show s1.heap.IsTuple a its.toArray from p1) (show s1.heap.IsTuple b its2.toArray from p2') fun h' hz hTI hTO h1 h2 hsz hk => PyProof.Rows.args_nil ?_
      have zS : (h'.push { cls := .type "list", data := .seq #[] }).get? h'.objs.size = some { cls := .type "list", data := .seq #[] } := Heap.get?_push_size _ rfl
      refine callType_codes (Q₁ := fun obj s₁ => obj = .ref h'.objs.size ∧ s₁ = { { s1 with heap := h' } with heap := h'.push { cls := .type "list", data := .seq #[] } }) F.called_list (F.typeCall_list_1 _) F.entry_list_init
        (code_list_new _ ⟨rfl, rfl⟩) fun obj s₁ h₁ => ?_
      obtain ⟨rfl, rfl⟩ := h₁
      refine ⟨⟨_, zS, rfl⟩, F.args_list_init_2 _ _, ?_⟩
      have nS : s1.heap.objs.size ≤ h'.objs.size := by omega
      have D := PySem.W.ktu_apart s1.heap.objs.size a b la lb
      show wpAny _ _ (do let old ← Builtin.List.listItems (.ref h'.objs.size); Builtin.List.listUpdate (.ref h'.objs.size) (fun _ => #[]); letGo old.toList.reverse; Builtin.List.listExtendWith (.ref h'.objs.size) (.ref (s1.heap.objs.size + 4)) .none) _ _ _
      refine wpAny_bind ?_
      unfold Builtin.List.listItems
      refine wpAny_bind (wpAny_seqItems zS rfl (wpAny_pure ?_))
      show wpAny _ _ (updateSeq h'.objs.size (fun _ => #[]) >>= fun _ => letGo (#[] : Array Value).toList.reverse >>= fun _ => Builtin.List.listExtendWith (.ref h'.objs.size) (.ref (s1.heap.objs.size + 4)) .none) _ _ _
      refine wpAny_bind (wpAny_updateSeq zS rfl ?_)
      have hS₂ := Heap.get?_update_self (Obj.mapSeq (fun _ => (#[] : Array Value))) zS rfl
      obtain ⟨c3, hS4⟩ : ∃ c3, ((h'.push { cls := .type "list", data := .seq #[] }).update h'.objs.size (Obj.mapSeq fun _ => (#[] : Array Value))).get? h'.objs.size = some { cls := .type "list", dict := none, data := .seq (([] : List Addr).map Value.ref).toArray c3, slots := #[] } := ⟨_, by rw [hS₂]; simp [Obj.mapSeq]; rfl⟩
      have oth : ∀ b o, b ≠ h'.objs.size → h'.get? b = some o → ((h'.push { cls := .type "list", data := .seq #[] }).update h'.objs.size (Obj.mapSeq fun _ => (#[] : Array Value))).get? b = some o :=
        fun b o hb e => (Heap.get?_update_other _ _ (Ne.symm hb)).trans (Heap.get?_push_of_some _ e)
      have lt' : ∀ {b o}, h'.get? b = some o → b ≠ h'.objs.size := fun e => Nat.ne_of_lt (Heap.lt_size e)
      refine wpAny_bind (wpAny_letGo ?_)
      have I2 : Inv X pins σ (upd H1 h'.objs.size (.lst (([] : List Addr).map V.ref))) { s1 with heap := (h'.push { cls := .type "list", data := .seq #[] }).update h'.objs.size (Obj.mapSeq fun _ => (#[] : Array Value)) } :=
        I1.laid (t' := s1.toks) (fun c o e => oth c o (lt' (hk c o e)) (hk c o e)) nS ⟨Nat.zero_le _, [], c3, .nil, hS4⟩
      have kz : ∀ k, k < 5 → (s1.heap.objs.size + k : Nat) ≠ h'.objs.size := fun k hk => by rw [hsz]; exact Nat.ne_of_lt (Nat.add_lt_add_left hk _)
      have nH : H1 h'.objs.size = none := I1.hok.fresh nS
      obtain ⟨o1', ho1', hc1, m1, hd1⟩ := p1
      obtain ⟨o2', ho2', hc2, m2, hd2⟩ := p2'
      have L : LzSt X pins σ (s1.heap.objs.size + 4) (s1.heap.objs.size + 2) (s1.heap.objs.size + 3) s1.heap.objs.size (s1.heap.objs.size + 1) a b h'.objs.size its its2 xs ys H1 0 (upd H1 h'.objs.size (.lst (([] : List Addr).map V.ref)))
          { s1 with heap := (h'.push { cls := .type "list", data := .seq #[] }).update h'.objs.size (Obj.mapSeq fun _ => (#[] : Array Value)) } [] := by
        refine ⟨I2, ?_, ⟨o1', oth _ _ (lt' (hk _ _ ho1')) (hk _ _ ho1'), hc1, m1, hd1⟩, ⟨o2', oth _ _ (lt' (hk _ _ ho2')) (hk _ _ ho2'), hc2, m2, hd2⟩, ?_, upd_same, ⟨c3, hS4⟩, rfl, fun j T x y h => by simp at h, fun c u hc e => by rw [upd_ne hc]; exact e, fun T m => by cases m⟩
        · exact ZSt.frame (e := h'.objs.size) ⟨.inl hz, hTI, ⟨_, _, hTO⟩, h1, h2⟩ oth ⟨kz 4 (by decide), kz 2 (by decide), kz 3 (by decide), kz 0 (by decide), kz 1 (by decide)⟩
        · intro c hcm
          have e' : c = s1.heap.objs.size + 4 ∨ c = s1.heap.objs.size + 3 ∨ c = s1.heap.objs.size ∨ c = s1.heap.objs.size + 1 := by simpa using hcm
          obtain ⟨k, hk5, rfl⟩ : ∃ k, k < 5 ∧ c = (s1.heap.objs.size + k : Nat) := by
            rcases e' with rfl | rfl | rfl | rfl
            · exact ⟨4, by decide, rfl⟩
            · exact ⟨3, by decide, rfl⟩
            · exact ⟨0, by decide, rfl⟩
            · exact ⟨1, by decide, rfl⟩
          have hle : s1.heap.objs.size ≤ s1.heap.objs.size + k := Nat.le_add_right _ _
          exact I1.fpOk hle (by rw [upd_ne (kz k hk5)]; exact I1.hok.fresh hle)
      refine ext_zip (A := X.A.in1) (show X.A.in1.in1.handled = none from I.ok.hd hc) D rv rv2 .none ⟨by simp only [List.mem_cons, List.not_mem_nil, or_false, not_or]; exact ⟨(kz 4 (by decide)).symm, (kz 3 (by decide)).symm, (kz 0 (by decide)).symm, (kz 1 (by decide)).symm⟩, (kz 2 (by decide)).symm, Nat.ne_of_gt (Nat.lt_of_lt_of_le la nS), Nat.ne_of_gt (Nat.lt_of_lt_of_le lb nS)⟩ (n := min xs.length ys.length) rfl (Nat.le_trans (Nat.min_le_left _ _) hz1) L fun s' H' Ts' L' h'' I3 => ?_
      refine ⟨rfl, ?_⟩
      exact ⟨.ref h'.objs.size, H', I3, rfl, q1 _ Ts' H' nH L'.len L'.lst L'.each (fun c u e => L'.old c u (fun z => by rw [z, nH] at e; cases e) e) L'.new⟩
section
variable {K : PySem.W.Frag} {Γ : Cxt} {ss : List Sl} {ta : TA}
theorem pe_listZipK {X : Cx} {e e2 : Expr} {ta : TA} {p p2 q pos : Pos} (hg : Gl X "list") (hm : X.mg "list" = none) (hg2 : Gl X "zip") (hm2 : X.mg "zip" = none) (ha : PA X [e, e2] ta) (hK : X.K = K := by rfl) (hc : X.calm = true := by rfl)
    (hs : starEach [e, e2] X.env = (false, eval e X.env) :: starEach [e2] X.env := by rfl) (hpl : (backTo q (starEach [e2] X.env)).any (·.1) = false := by rfl)
    (na : starEach [.Call (.Name "zip" p2) [e, e2] [] q] X.env = (false, eval (.Call (.Name "zip" p2) [e, e2] [] q) X.env) :: starEach [] X.env := by rfl) :
    PE X (.Call (.Name "list" p) [.Call (.Name "zip" p2) [e, e2] [] q] [] pos) (tListZip K ta) := by
  subst hK
  exact pe_listZip hg hm hg2 hm2 ha hc hs hpl na
theorem reps_zip {S : Addr → Prop} {H : Hp} : ∀ {xs : List D} {us : List V} {ys : List D} {ws : List V} {Ts : List Addr}, Reps K S H xs us → Reps K S H ys ws → Ts.length = min us.length ws.length →
    (∀ (j : Nat) (T : Addr) (x y : V), Ts[j]? = some T → us[j]? = some x → ws[j]? = some y → H T = some (.tup [x, y])) → Reps K S H (zipD xs ys) (Ts.map V.ref)
  | [], us, ys, ws, Ts, r, r', hl, h => by
    have : us = [] := r
    subst this
    have : Ts = [] := List.length_eq_zero_iff.mp (by simpa using hl)
    subst this
    exact rfl
  | x :: xs, us, [], ws, Ts, r, r', hl, h => by
    have : ws = [] := r'
    subst this
    have : Ts = [] := List.length_eq_zero_iff.mp (by simpa using hl)
    subst this
    exact rfl
  | x :: xs, us, y :: ys, ws, Ts, r, r', hl, h => by
    obtain ⟨u, us', rfl, ru, r⟩ := r
    obtain ⟨w, ws', rfl, rw', r'⟩ := r'
    cases Ts with
    | nil => simp at hl
    | cons T Ts =>
      have h0 := h 0 T u w rfl rfl rfl
      exact ⟨.ref T, Ts.map V.ref, rfl, ⟨T, [u, w], rfl, SqT.of h0, ⟨u, _, rfl, ru, ⟨w, _, rfl, rw', rfl⟩⟩⟩, reps_zip r r' (by simpa using hl) fun j T x y a b c => h (j + 1) T x y a b c⟩
theorem wpO_listZip {C : List D → Prop} (h : wpA K Γ ta ss fun ds => ∃ xs ys, ds = [.tup xs, .tup ys] ∧ C (zipD xs ys)) : wpO K Γ (tListZip K ta) ss C := fun H0 σ H τ hl I Q q =>
  h H0 σ H τ hl I _ fun vs ds H1 hd J1 ⟨xs, ys, e, hC⟩ => by
    subst e
    have r := J1.piled hd
    have J := J1.dropL
    obtain ⟨v, vs1, rfl, rv, w, vs2, rfl, rw', e⟩ := r
    have e : vs2 = [] := e
    subst e
    obtain ⟨a, us, rfl, t, ra⟩ := rv
    obtain ⟨b, ws, rfl, t', rb⟩ := rw'
    refine ⟨a, b, us, ws, rfl, t, t', fun S Ts H2 nS len hS each old new => ?_⟩
    let H3 : Hp := fun c => if c = S then none else H2 c
    have e3 : H2 = upd H3 S (.lst (Ts.map V.ref)) := by
      funext c
      by_cases hc : c = S
      · subst hc; rw [upd_same, hS]
      · rw [upd_ne hc]; show _ = if c = S then none else H2 c
        rw [if_neg hc]
    have ex : Ext H1 H3 := fun c u hu => by
      have hc : c ≠ S := fun z => by rw [z, nS] at hu; cases hu
      show (if c = S then none else H2 c) = some u
      rw [if_neg hc]; exact old c u hu
    have n3 : H3 S = none := if_pos rfl
    rw [e3]
    refine q S (zipD xs ys) _ ((J.ext ex).pushO n3 (reps_zip (ra.ext ex) (rb.ext ex) len fun j T x y a1 a2 a3 => ?_)) hC
    have h2 := each j T x y a1 a2 a3
    have hc : T ≠ S := fun z => by rw [z, hS] at h2; cases h2
    show (if T = S then none else H2 T) = _
    rw [if_neg hc]; exact h2
end
end SQ
/-! sorted of ints, or of pairs of ints -/
namespace SQ
open PySem PySem.Spec PyProof.Rows L2
def leP (a b : Int × Int) : Bool := !SrtO.lexB b a
theorem leP_iff {a b : Int × Int} : leP a b = true ↔ a.1 < b.1 ∨ (a.1 = b.1 ∧ a.2 ≤ b.2) := by
  unfold leP
  rw [Bool.not_eq_true', SrtO.lexB_no]
  omega
def upP (ps : List (Int × Int)) : List (Int × Int) := ps.mergeSort leP
theorem upP_perm (ps : List (Int × Int)) : (upP ps).Perm ps := List.mergeSort_perm _ _
theorem upP_rises (ps : List (Int × Int)) : (upP ps).Pairwise fun a b => leP a b = true := by
  exact List.pairwise_mergeSort (le := leP) (fun a b c h1 h2 => by rw [leP_iff] at *; omega) (fun a b => by rw [Bool.or_eq_true, leP_iff, leP_iff]; omega) ps
theorem upP_of {ps qs : List (Int × Int)} (p : qs.Perm ps) (h : qs.Pairwise fun a b => leP a b = true) : qs = upP ps :=
  List.Perm.eq_of_pairwise (fun a b _ _ h1 h2 => by
    rw [leP_iff] at h1 h2
    exact Prod.ext (by omega) (by omega)) h (upP_rises ps) (p.trans (upP_perm ps).symm)
def bSrt2 (K : PySem.W.Frag) : List V → Hp → VK → Prop := fun vs H Q => bSrt K false vs H Q ∨ rSortPT K vs H Q
section
variable {K : PySem.W.Frag} {C : D → Prop}
theorem cr_srt2K {X : Cx} (h : X.K = K := by rfl) : CallR X (.builtin "sorted") (bSrt2 K) := by subst h; exact cr_srt.or cr_sortPT
theorem wpB_srt2 {ds : List D} (h : wpB K (bSrt K false) ds C) : wpB K (bSrt2 K) ds C := fun S H vs l r Q q => .inl (h S H vs l r Q q)
theorem wpB_srt2P {ps : List (Int × Int)} (c : C (.lst ((upP ps).map pairD))) : wpB K (bSrt2 K) [.lst (ps.map pairD)] C := fun S H vs l r Q q =>
  .inr (wpB_sortPT (C := C) (fun qs p h => by
    have : qs = upP ps := upP_of p (h.imp fun {a b} h => by unfold leP; rw [h]; rfl)
    rw [this]; exact c) S H vs l r Q q)
end
end SQ
/-! zip of a list and a tuple -/
namespace SQ
open PySem PySem.Spec PyProof.Rows L2 RZ
abbrev zmH1 (h : Heap) (l1 : Addr) : Heap := h.push { cls := .type "list_iterator", data := .fields #[.ref l1, .int 0 0] }
abbrev zmH2 (h : Heap) (l1 l2 : Addr) : Heap := (zmH1 h l1).push { cls := .type "tuple_iterator", data := .fields #[.ref l2, .int 0 0] }
abbrev zmH3 (h : Heap) (l1 l2 : Addr) : Heap := (zmH2 h l1 l2).push { cls := .type "tuple", data := .seq #[.ref h.objs.size, .ref (zmH1 h l1).objs.size] }
abbrev zmH4 (h : Heap) (l1 l2 : Addr) : Heap := (zmH3 h l1 l2).push { cls := .type "tuple", data := .seq #[.none, .none] }
abbrev zmH5 (h : Heap) (l1 l2 : Addr) : Heap := (zmH4 h l1 l2).push { cls := .type "zip", data := .fields #[.none, .bool false, .bool false, .ref (zmH2 h l1 l2).objs.size, .ref (zmH3 h l1 l2).objs.size] }
theorem meets_zipM_new (l1 l2 : Addr) (xs ys : Array Value) :
    Meets (Builtin.«zip.__new__» ⟨[.type "zip", .ref l1, .ref l2], []⟩) (fun _ R s => s.heap.IsList l1 xs ∧ s.heap.IsTuple l2 ys ∧
      R (.ok (.ret (.ref (zmH4 s.heap l1 l2).objs.size))) { s with heap := zmH5 s.heap l1 l2 }) :=
  .of_wp fun prog w A R s h => by
    obtain ⟨hp, g, d, tk, os⟩ := s; obtain ⟨hl1, hl2, h⟩ := h
    have hsub := sub_zip
    have hL1 : Heap.IsList (Shared.heap ⟨hp, g, d, tk, os⟩) l1 xs := hl1
    have hL2 : Heap.IsTuple (Shared.heap ⟨hp.push { cls := .type "list_iterator", data := .fields #[.ref l1, .int 0 0] }, g, d, tk, os⟩) l2 ys := Heap.IsTuple.push hl2 _
    wp_walk using wpAny_pyIter_list hL1, wpAny_pyIter_tuple hL2
    exact ⟨_, rfl, h⟩
section
variable {prog : Program} {w : World} {A : Around} {E : Value → Shared → Prop} {s : Shared}
theorem call_zipM {l1 l2 : Addr} {xs ys : Array Value} {Q : Value → Shared → Prop} (hl1 : s.heap.IsList l1 xs) (hl2 : s.heap.IsTuple l2 ys)
    (h : ∀ h', PySem.IsZip h' (s.heap.objs.size + 4) (s.heap.objs.size + 2) (s.heap.objs.size + 3) .none → PySem.IsPair h' (s.heap.objs.size + 2) (.ref s.heap.objs.size) (.ref (s.heap.objs.size + 1)) →
      PySem.IsPair h' (s.heap.objs.size + 3) .none .none → h'.IsListIter s.heap.objs.size l1 0 → h'.IsTupleIter (s.heap.objs.size + 1) l2 0 → h'.objs.size = s.heap.objs.size + 5 →
      (∀ c o, s.heap.get? c = some o → h'.get? c = some o) → Q (.ref (s.heap.objs.size + 4)) { s with heap := h' }) :
    wpAny (model prog w) A (call (.type "zip") [.ref l1, .ref l2]) Q E s := by
  refine callType_new F.called_zip (by decide) (F.typeCall_zip_2 _ _) (F.newCall_zip_2 _ _) (fun obj => F.args_object_init_3 obj _ _) F.entry_zip_new
    (meets_zipM_new l1 l2 xs ys) ⟨hl1, hl2, ?_⟩
  have z1 : (zmH1 s.heap l1).objs.size = s.heap.objs.size + 1 := Heap.size_push ..
  have z2 : (zmH2 s.heap l1 l2).objs.size = s.heap.objs.size + 2 := by rw [Heap.size_push, z1]
  have z3 : (zmH3 s.heap l1 l2).objs.size = s.heap.objs.size + 3 := by rw [Heap.size_push, z2]
  have z4 : (zmH4 s.heap l1 l2).objs.size = s.heap.objs.size + 4 := by rw [Heap.size_push, z3]
  have z5 : (zmH5 s.heap l1 l2).objs.size = s.heap.objs.size + 5 := by rw [Heap.size_push, z4]
  have g5 : (zmH5 s.heap l1 l2).get? (zmH4 s.heap l1 l2).objs.size = some _ := Heap.get?_push_size _ rfl
  have g4 : (zmH5 s.heap l1 l2).get? (zmH3 s.heap l1 l2).objs.size = some _ := Heap.get?_push_of_some _ (Heap.get?_push_size _ rfl)
  have g3 : (zmH5 s.heap l1 l2).get? (zmH2 s.heap l1 l2).objs.size = some _ := Heap.get?_push_of_some _ (Heap.get?_push_of_some _ (Heap.get?_push_size _ rfl))
  have g2 : (zmH5 s.heap l1 l2).get? (zmH1 s.heap l1).objs.size = some _ := Heap.get?_push_of_some _ (Heap.get?_push_of_some _ (Heap.get?_push_of_some _ (Heap.get?_push_size _ rfl)))
  have g1 : (zmH5 s.heap l1 l2).get? s.heap.objs.size = some _ := Heap.get?_push_of_some _ (Heap.get?_push_of_some _ (Heap.get?_push_of_some _ (Heap.get?_push_of_some _ (Heap.get?_push_size _ rfl))))
  show _ ∧ _
  rw [z2, z3, z4] at g5
  rw [z1, z2] at g3
  rw [z3] at g4
  rw [z1] at g2
  rw [z4]
  exact ⟨⟨_, g5, rfl⟩, h _ g5 g3 g4 ⟨_, g1, rfl, rfl⟩ ⟨_, g2, rfl, rfl⟩ z5 fun c o x =>
    Heap.get?_push_of_some _ (Heap.get?_push_of_some _ (Heap.get?_push_of_some _ (Heap.get?_push_of_some _ (Heap.get?_push_of_some _ x))))⟩
end
/-- the list at a, the tuple at b, the items in new pairs -/
def ItzM (K : PySem.W.Frag) (a b : Addr) : It :=
  ⟨fun i H => ∃ (xs ys : List V) (x y : V), SqL K H a xs ∧ SqT K H b ys ∧ xs[i]? = some x ∧ ys[i]? = some y,
    fun i H v H' => ∃ T x y, v = .ref T ∧ H T = none ∧ H' = upd H T (.tup [x, y]) ∧ (∀ xs, SqL K H a xs → xs[i]? = some x) ∧ ∀ ys, SqT K H b ys → ys[i]? = some y,
    fun i H => ∃ xs ys : List V, SqL K H a xs ∧ SqT K H b ys ∧ i = min xs.length ys.length⟩
theorem zip_sepM {z TI TO i1 i2 a b : Addr} (D : ZipApart z TI TO i1 i2 a b) : ZipSep2 z TI TO i1 i2 [i1, a] [i2, b] where
  TIz := D.TIz
  TOz := D.TOz
  TITO := D.TITO
  TIi1 := D.TIi1
  mem1 := by simp
  zf1 := by simp; exact ⟨D.i1z.symm, D.l1z.symm⟩
  Tf1 := by simp; exact ⟨D.TOi1, D.l1TO.symm⟩
  TIi2 := D.TIi2
  mem2 := by simp
  zf2 := by simp; exact ⟨D.i2z.symm, D.l2z.symm⟩
  Tf2 := by simp; exact ⟨D.TOi2, D.l2TO.symm⟩
  sep1_2 := by simp; exact ⟨D.i12, D.l2i1.symm⟩
  sep2_1 := by simp; exact ⟨D.i12.symm, D.l1i2.symm⟩
theorem turn_zipM {P : Program} {w : World} {K : PySem.W.Frag} {elts : List Expr} {kk : Nat} {tpos : Pos} {a b z TI TO i1 i2 : Addr} (D : ZipApart z TI TO i1 i2 a b) :
    Turn P w K (.Tuple elts kk tpos) (ItzM K a b) [z, TI, TO, i1, i2] z (fun i h => PySem.IsZip h z TI TO .none ∧ PySem.IsPair h TI (.ref i1) (.ref i2) ∧ (∃ x y, PySem.IsPair h TO x y) ∧ h.IsListIter i1 a i ∧ h.IsTupleIter i2 b i) where
  mem := by simp
  obj := fun i h st c hc => by
    obtain ⟨hz, hTI, ⟨x, y, hTO⟩, ⟨o1, e1, _, d1⟩, ⟨o2, e2, _, d2⟩⟩ := st
    have e' : c = z ∨ c = TI ∨ c = TO ∨ c = i1 ∨ c = i2 := by simpa using hc
    rcases e' with q | q | q | q | q
    · rw [q]; exact ⟨_, hz, fun v q => nomatch q⟩
    · rw [q]; exact ⟨_, hTI, fun v q => nomatch q⟩
    · rw [q]; exact ⟨_, hTO, fun v q => nomatch q⟩
    · rw [q]; exact ⟨o1, e1, fun v q => by rw [d1] at q; cases q⟩
    · rw [q]; exact ⟨o2, e2, fun v q => by rw [d2] at q; cases q⟩
  keep := fun i h h' st k => by
    obtain ⟨hz, hTI, ⟨x, y, hTO⟩, h1, h2⟩ := st
    exact ⟨k z (by simp) _ hz, k TI (by simp) _ hTI, ⟨x, y, k TO (by simp) _ hTO⟩, h1.at fun o q => k i1 (by simp) o q, h2.at fun o q => k i2 (by simp) o q⟩
  item := by
    intro X hP hw hK hc i pins s σ H E I hf st hg
    subst hP hw hK
    obtain ⟨hz, hTI, ⟨x0, y0, hTO⟩, h1, h2⟩ := st
    obtain ⟨xs, ys, x, y, hqx, hqy, hx, hy⟩ := hg
    obtain ⟨its, rv, p, _⟩ := I.list hqx
    obtain ⟨its2, rv2, p2, _⟩ := I.tuple hqy
    obtain ⟨u, hu, ru⟩ := rv.get hx
    obtain ⟨u2, hu2, ru2⟩ := rv2.get hy
    have hzl : z < s.heap.objs.size := Heap.lt_size hz
    have D1 := Draws.list (prog := X.prog) (w := X.w) (A := X.A.in1) (show X.A.in1.handled = none from I.ok.hd hc) i1 a D.l1i1 its.toArray
    have D2 := Draws.tuple (prog := X.prog) (w := X.w) (A := X.A.in1) (show X.A.in1.handled = none from I.ok.hd hc) i2 b D.l2i2 its2.toArray
    have n1 : i < its.toArray.size := by have := (List.getElem?_eq_some_iff.mp hu).1; simpa using this
    have n2 : i < its2.toArray.size := by have := (List.getElem?_eq_some_iff.mp hu2).1; simpa using this
    have p2' : s.heap.IsTuple b its2.toArray := p2
    refine wpAny_pyNext_zipD2_item (zip_sepM D) D1 D2 hz hTI hTO ⟨h1, p.isList⟩ ⟨h2, p2'⟩ n1 n2 fun w1 w2 h' tk g1 g2 z' TO' s1 s2 hT hsz hk => ?_
    have hw1 : w1 = u := by
      have hu' : its.toArray[i]? = some u := by simpa using hu
      rw [hu'] at g1; exact (Option.some.inj g1).symm
    have hw2 : w2 = u2 := by
      have hu' : its2.toArray[i]? = some u2 := by simpa using hu2
      rw [hu'] at g2; exact (Option.some.inj g2).symm
    subst hw1 hw2
    refine ⟨_, rfl, wpAny_letOwnedTupleGo_zip (s := { s with heap := h', toks := tk }) z' fun h'' z'' sb => ?_⟩
    have hT2 : h''.get? s.heap.objs.size = some { cls := .type "tuple", data := .seq #[w1, w2] } := (sb.2 _ (Nat.ne_of_gt hzl)).trans hT
    have new : ObjOk X.prog X.w (upd H s.heap.objs.size (.tup [x, y])) h'' s.heap.objs.size (.tup [x, y]) :=
      ⟨by show 2 ≤ sizeLine; decide, [w1, w2], .cons ru (.cons ru2 .nil), ⟨_, hT2, rfl, _, rfl⟩⟩
    have I1 : Inv X pins σ (upd H s.heap.objs.size (.tup [x, y])) { s with heap := h'', toks := tk } :=
      I.turnedNew (t' := tk) (ch := [z, TI, TO, i1, i2]) (fun c o hb q => (sb.2 c (fun q' => hb (by simp [q']))).trans (hk c o (fun q' => hb (by simp [q'])) (fun q' => hb (by simp [q'])) (fun q' => hb (by simp [q'])) (fun q' => hb (by simp [q'])) q)) hf (Nat.le_refl _) new
    refine ⟨.ref s.heap.objs.size, _, I1, rfl, ⟨_, x, y, rfl, I.hok.fresh (Nat.le_refl _), rfl, fun l hl => by rw [I.list_inj hl hqx]; exact hx, fun l hl => by rw [I.tuple_inj hl hqy]; exact hy⟩, ⟨z'', ?_, ⟨w1, w2, ?_⟩, ?_, ?_⟩, fun c hcm => ?_⟩
    · exact (sb.2 _ D.TIz).trans (hk _ _ D.TIz D.TITO D.TIi1 D.TIi2 hTI)
    · exact (sb.2 _ D.TOz).trans TO'
    · exact s1.1.at fun o q => (sb.2 _ D.i1z).trans q
    · exact s2.1.at fun o q => (sb.2 _ D.i2z).trans q
    · have hlt : c < s.heap.objs.size := by
        have e' : c = z ∨ c = TI ∨ c = TO ∨ c = i1 ∨ c = i2 := by simpa using hcm
        rcases e' with q | q | q | q | q
        · rw [q]; exact hzl
        · rw [q]; exact Heap.lt_size hTI
        · rw [q]; exact Heap.lt_size hTO
        · rw [q]; obtain ⟨_, e1, _⟩ := h1; exact Heap.lt_size e1
        · rw [q]; obtain ⟨_, e2, _⟩ := h2; exact Heap.lt_size e2
      rw [upd_ne (Nat.ne_of_lt hlt)]
      exact (hf c hcm).1
  done := by
    intro X hP hw hK hc i pins s σ H E I hf st hg
    subst hP hw hK
    obtain ⟨hz, hTI, ⟨x0, y0, hTO⟩, h1, h2⟩ := st
    obtain ⟨xs, ys, hqx, hqy, hend⟩ := hg
    obtain ⟨its, rv, p, _⟩ := I.list hqx
    obtain ⟨its2, rv2, p2, _⟩ := I.tuple hqy
    have D1 := Draws.list (prog := X.prog) (w := X.w) (A := X.A.in1) (show X.A.in1.handled = none from I.ok.hd hc) i1 a D.l1i1 its.toArray
    have D2 := Draws.tuple (prog := X.prog) (w := X.w) (A := X.A.in1) (show X.A.in1.handled = none from I.ok.hd hc) i2 b D.l2i2 its2.toArray
    have l1 := rv.length
    have l2 := rv2.length
    have s1 : its.toArray.size = xs.length := by simp [l1]
    have s2 : its2.toArray.size = ys.length := by simp [l2]
    have p2' : s.heap.IsTuple b its2.toArray := p2
    refine wpAny_pyNext_zipD2_end (zip_sepM D) D1 D2 hz hTI hTO ⟨h1, p.isList⟩ ⟨h2, p2'⟩ (by omega) (by omega) (by omega) fun h' tk hk => ⟨rfl, I.turnedL (t' := tk) (ch := [z, TI, TO, i1, i2]) (fun c o hb q =>
      hk c o (fun q' => hb (by simp [q'])) (fun q' => hb (by simp [q'])) (fun q' => hb (by simp [q'])) (fun q' => hb (by simp [q'])) q) hf⟩
  self := fun A i s Q E st h => wpAny_pyIter_zip st.1 h
def iZipM (K : PySem.W.Frag) (ta : TA) : TI := fun σ H R => ta σ H fun vs H1 => ∃ a b xs ys, vs = [.ref a, .ref b] ∧ ((SqL K H1 a xs ∧ SqL K H1 b ys ∧ R (Itz K a b) H1) ∨ (SqT K H1 a xs ∧ SqT K H1 b ys ∧ R (RZ.ItzT K a b) H1) ∨ (SqL K H1 a xs ∧ SqT K H1 b ys ∧ R (ItzM K a b) H1))
theorem pi_zipM {X : Cx} {e e2 : Expr} {ta : TA} {p pos tpos : Pos} {elts : List Expr} {kk : Nat} (hg : Gl X "zip") (hm : X.mg "zip" = none) (ha : PA X [e, e2] ta)
    (hs : starEach [e, e2] X.env = (false, eval e X.env) :: starEach [e2] X.env := by rfl) (hpl : (backTo pos (starEach [e2] X.env)).any (·.1) = false := by rfl) :
    PI X (.Tuple elts kk tpos) (.Call (.Name "zip" p) [e, e2] [] pos) (iZipM X.K ta) := by
  refine ⟨fun pins s σ H R I h => ?_⟩
  refine Call_ (ld_blt I hg hm PyProof.Rows.boot_zip (PyProof.Rows.callWith_type1 (thn (ha.run pos pins s σ H _ I h) fun us s1 ⟨vs, H1, I1, r1, q1⟩ => ?_) hs hpl))
  obtain ⟨a, b, xs, ys, ex, q1⟩ := q1
  subst ex
  cases r1 with
  | cons r rr =>
    cases rr with
    | cons r' rr =>
      cases rr
      cases r
      cases r'
      have fresh5 : ∀ c, c ∈ [s1.heap.objs.size + 4, s1.heap.objs.size + 2, s1.heap.objs.size + 3, s1.heap.objs.size, s1.heap.objs.size + 1] → FpOk X pins H1 c := fun c hcm => by
        have e' : c = s1.heap.objs.size + 4 ∨ c = s1.heap.objs.size + 2 ∨ c = s1.heap.objs.size + 3 ∨ c = s1.heap.objs.size ∨ c = s1.heap.objs.size + 1 := by simpa using hcm
        have hle : s1.heap.objs.size ≤ c := by
          rcases e' with z | z | z | z | z
          · rw [z]; exact Nat.le_add_right _ _
          · rw [z]; exact Nat.le_add_right _ _
          · rw [z]; exact Nat.le_add_right _ _
          · rw [z]; exact Nat.le_refl _
          · rw [z]; exact Nat.le_add_right _ _
        exact I1.fpOk hle (I1.hok.fresh hle)
      rcases q1 with ⟨hqx, hqy, q⟩ | ⟨hqx, hqy, q⟩ | ⟨hqx, hqy, q⟩
      · obtain ⟨its, rv, p1, _⟩ := I1.list hqx
        obtain ⟨its2, rv2, p2, _⟩ := I1.list hqy
        refine call_zip_2 p1.isList p2.isList fun h' hz hTI hTO h1 h2 hsz hk => wpAny_pyIter_zip hz ?_
        have I2 : Inv X pins σ H1 { s1 with heap := h' } := I1.kept (t' := s1.toks) hk
        exact ⟨s1.heap.objs.size + 4, [s1.heap.objs.size + 4, s1.heap.objs.size + 2, s1.heap.objs.size + 3, s1.heap.objs.size, s1.heap.objs.size + 1], _, _, H1, rfl, I2, turn_zip (PySem.W.ktu_apart s1.heap.objs.size a b p1.lt p2.lt), ⟨hz, hTI, ⟨_, _, hTO⟩, h1, h2⟩, fresh5, q⟩
      · obtain ⟨its, rv, p1, _⟩ := I1.tuple hqx
        obtain ⟨its2, rv2, p2, _⟩ := I1.tuple hqy
        obtain ⟨o1, ho1, _⟩ := id p1
        obtain ⟨o2, ho2, _⟩ := id p2
        refine call_zipT (show s1.heap.IsTuple a its.toArray from p1) (show s1.heap.IsTuple b its2.toArray from p2) fun h' hz hTI hTO h1 h2 hsz hk => wpAny_pyIter_zip hz ?_
        have I2 : Inv X pins σ H1 { s1 with heap := h' } := I1.kept (t' := s1.toks) hk
        exact ⟨s1.heap.objs.size + 4, [s1.heap.objs.size + 4, s1.heap.objs.size + 2, s1.heap.objs.size + 3, s1.heap.objs.size, s1.heap.objs.size + 1], _, _, H1, rfl, I2, turn_zipT (PySem.W.ktu_apart s1.heap.objs.size a b (Heap.lt_size ho1) (Heap.lt_size ho2)), ⟨hz, hTI, ⟨_, _, hTO⟩, h1, h2⟩, fresh5, q⟩
      · obtain ⟨its, rv, p1, _⟩ := I1.list hqx
        obtain ⟨its2, rv2, p2, _⟩ := I1.tuple hqy
        obtain ⟨o2, ho2, _⟩ := id p2
        refine call_zipM p1.isList (show s1.heap.IsTuple b its2.toArray from p2) fun h' hz hTI hTO h1 h2 hsz hk => wpAny_pyIter_zip hz ?_
        have I2 : Inv X pins σ H1 { s1 with heap := h' } := I1.kept (t' := s1.toks) hk
        exact ⟨s1.heap.objs.size + 4, [s1.heap.objs.size + 4, s1.heap.objs.size + 2, s1.heap.objs.size + 3, s1.heap.objs.size, s1.heap.objs.size + 1], _, _, H1, rfl, I2, turn_zipM (PySem.W.ktu_apart s1.heap.objs.size a b p1.lt (Heap.lt_size ho2)), ⟨hz, hTI, ⟨_, _, hTO⟩, h1, h2⟩, fresh5, q⟩
theorem pi_zipMK {K : PySem.W.Frag} {X : Cx} {e e2 : Expr} {ta : TA} {p pos tpos : Pos} {elts : List Expr} {kk : Nat} (hg : Gl X "zip") (hm : X.mg "zip" = none) (ha : PA X [e, e2] ta) (h : X.K = K := by rfl)
    (hs : starEach [e, e2] X.env = (false, eval e X.env) :: starEach [e2] X.env := by rfl) (hpl : (backTo pos (starEach [e2] X.env)).any (·.1) = false := by rfl) :
    PI X (.Tuple elts kk tpos) (.Call (.Name "zip" p) [e, e2] [] pos) (iZipM K ta) := by subst h; exact pi_zipM hg hm ha hs hpl
section
variable {K : PySem.W.Frag} {Γ : Cxt} {ss : List Sl}
theorem walks_zipM {a b : Addr} {xs ys : List D} : Walks K Γ (ItzM K a b) (zipD xs ys) [(.val (.lst xs), some (.ref a)), (.val (.tup ys), some (.ref b))] := fun H0 H ps I m => by
  obtain ⟨a', vs, e, n, h, r⟩ := I.val (m _ List.mem_cons_self)
  obtain ⟨b', ws, e', hq', r'⟩ := I.val (m _ (List.mem_cons_of_mem _ List.mem_cons_self))
  cases e; cases e'
  have hq : SqL K H a vs := .inl (.inl h)
  refine ⟨fun i d hd => ?_, ⟨vs, ws, hq, hq', by rw [zipD_length, ← r.length, ← r'.length]⟩⟩
  obtain ⟨x, y, hx, hy, rfl⟩ := zipD_get _ _ hd
  obtain ⟨v, hv, rv⟩ := r.get hx
  obtain ⟨w, hw, rw'⟩ := r'.get hy
  refine ⟨⟨vs, ws, v, w, hq, hq', hv, hw⟩, fun z H' y => ?_⟩
  obtain ⟨T, v1, w1, rfl, hT, rfl, y1, y2⟩ := y
  have e1 : v = v1 := Option.some.inj (hv.symm.trans (y1 vs hq))
  have e2 : w = w1 := Option.some.inj (hw.symm.trans (y2 ws hq'))
  subst e1 e2
  exact I.newTup hT (.cons rv (.cons rw' .nil))
theorem wpI_zip3 {ta : TA} {C : List D → Prop} (h : wpA K Γ ta ss fun ds => (∃ xs ys, ds = [.lst xs, .lst ys] ∧ C (zipD xs ys)) ∨ (∃ xs ys, ds = [.tup xs, .tup ys] ∧ C (zipD xs ys)) ∨ ∃ xs ys, ds = [.lst xs, .tup ys] ∧ C (zipD xs ys)) : wpI K Γ (iZipM K ta) ss C := fun H0 σ H τ hl I R k =>
  h H0 σ H τ hl I _ fun vs ds H1 hd J c => by
    rcases c with ⟨xs, ys, rfl, c⟩ | ⟨xs, ys, rfl, c⟩ | ⟨xs, ys, rfl, c⟩
    · match vs, hd with
      | [v, w], _ =>
        obtain ⟨a, us, rfl, n, t, r⟩ := J.val (d := .lst xs) List.mem_cons_self
        obtain ⟨b, ws, rfl, n', t', r'⟩ := J.val (d := .lst ys) (List.mem_cons_of_mem _ List.mem_cons_self)
        refine ⟨a, b, us, ws, rfl, .inl ⟨.inl (.inl t), .inl (.inl t'), k _ H1 _ [(.val (.lst xs), some (.ref a)), (.val (.lst ys), some (.ref b))] (J.perm ?_) walks_zip c⟩⟩
        rw [← List.append_assoc, ← List.append_assoc]
        exact List.perm_append_comm.append_right _
    · match vs, hd with
      | [v, w], _ =>
        obtain ⟨a, us, rfl, t, r⟩ := J.val (d := .tup xs) List.mem_cons_self
        obtain ⟨b, ws, rfl, t', r'⟩ := J.val (d := .tup ys) (List.mem_cons_of_mem _ List.mem_cons_self)
        refine ⟨a, b, us, ws, rfl, .inr (.inl ⟨t, t', k _ H1 _ [(.val (.tup xs), some (.ref a)), (.val (.tup ys), some (.ref b))] (J.perm ?_) walks_zipT c⟩)⟩
        rw [← List.append_assoc, ← List.append_assoc]
        exact List.perm_append_comm.append_right _
    · match vs, hd with
      | [v, w], _ =>
        obtain ⟨a, us, rfl, n, t, r⟩ := J.val (d := .lst xs) List.mem_cons_self
        obtain ⟨b, ws, rfl, t', r'⟩ := J.val (d := .tup ys) (List.mem_cons_of_mem _ List.mem_cons_self)
        refine ⟨a, b, us, ws, rfl, .inr (.inr ⟨.inl (.inl t), t', k _ H1 _ [(.val (.lst xs), some (.ref a)), (.val (.tup ys), some (.ref b))] (J.perm ?_) walks_zipM c⟩)⟩
        rw [← List.append_assoc, ← List.append_assoc]
        exact List.perm_append_comm.append_right _
end
end SQ
/-! a, b, .. = a tuple or a list of that length -/
namespace SQ
open PySem PySem.Spec PyProof.Rows L2
def gSeq (K : PySem.W.Frag) (n : Nat) (t : TGs) : TG := fun v σ H Q => gTup K n t v σ H Q ∨ gLst K n t v σ H Q
theorem pg_seqK {K : PySem.W.Frag} {X : Cx} {es : List Expr} {k : Nat} {t : TGs} {n : Nat} {pos : Pos} (hc : X.calm = true) (hp : PGs X es t)
    (hn : (assignEach es X.env).length = n := by rfl) (hst : (assignEach es X.env).findIdx? (·.1) = none := by rfl) (h : X.K = K := by rfl) : PG X (.Tuple es k pos) (gSeq K n t) := by
  subst h
  refine ⟨fun pins s σ H v u Q I r hw => ?_⟩
  rcases hw with hw | hw
  · exact (pg_tup hc hp hn hst).run pins s σ H v u Q I r hw
  · exact (pg_lst hc hp hn hst).run pins s σ H v u Q I r hw
section
variable {K : PySem.W.Frag} {Γ : Cxt} {ss : List Sl} {us : List Nat} {d : D} {C : List Sl → Prop} {n : Nat} {t : TGs}
theorem wpG_seqT (h : wpG K Γ us (gTup K n t) d ss C) : wpG K Γ us (gSeq K n t) d ss C := fun H0 σ H τ x hl I Q q => .inl (h H0 σ H τ x hl I Q q)
/-- a frozen list is read as a tuple would be -/
theorem wpG_pairL {i j : Nat} {x y : D} (hi : i < ss.length) (hj : j < ss.length) (hu : i ∈ us) (hv : j ∈ us) (hd : d = .lst [x, y]) (c : C ((ss.set i (.val x)).set j (.val y))) :
    wpG K Γ us (gSeq K 2 (gCons (gName i) (gCons (gName j) gNil))) d ss C := fun H0 σ H τ w hl I Q q => by
  subst hd
  obtain ⟨a, vs, e, nn, ht, r⟩ := I.val List.mem_cons_self
  obtain ⟨v1, ws, rfl, r1, r⟩ := r
  obtain ⟨v2, ws, rfl, r2, r⟩ := r
  have r : ws = [] := r
  subst r
  refine .inr ⟨a, [v1, v2], e, .inl (.inl ht), rfl, v1, [v2], rfl, v2, [], rfl, rfl, ?_⟩
  have I1 : Env K Γ H0 H (ss.zip σ ++ τ) := I.drop
  have I2 := Env.store hl hi (I1.push r1)
  refine q _ _ H (by simp [hl]) ?_ (by rw [wipeS_set_mem hv, wipeS_set_mem hu]) (Env.store (by simp [hl]) (by simpa using hj) (I2.push (r2.less fun b m => m.imp id fun m => ?_))) c
  · rw [wipe_set_mem hv, wipe_set_mem hu]
  · have p := ((zip_set (ss := ss) (σ := σ) (s := .val x) (o := some v1) hl hi).append_right τ)
    have m1 := (owned_perm p).mem_iff.mp m
    have m2 : b ∈ owned ((ss.eraseIdx i).zip (σ.eraseIdx i) ++ τ) := m1
    have hs : ∃ s, ss[i]? = some s := ⟨ss[i], List.getElem?_eq_getElem hi⟩
    obtain ⟨s, hs⟩ := hs
    obtain ⟨o, ho⟩ := get_of_len hl hs
    have p2 := (zip_out hs ho).append_right τ
    refine (owned_perm p2).mem_iff.mpr ?_
    rw [List.cons_append, ← List.singleton_append, owned_app]
    exact List.mem_append_right _ m2
end
end SQ
/-! range(i, j, -1) -/
namespace SQ
open PySem PySem.Spec PyProof.Rows L2
/-- lo, lo - 1, .. (n of them) -/
def rngDn (lo : Int) (n : Nat) : List D := (List.range n).map fun i : Nat => D.int (lo - i)
section
variable {K : PySem.W.Frag} {Γ : Cxt} {ss : List Sl}
theorem walks_rngC {lo : Int} {n : Nat} : Walks K Γ (Itc lo (-1) n) (rngDn lo n) [] := fun H0 H ps I m => by
  refine ⟨fun i d hd => ?_, by show n ≤ _; simp [rngDn]⟩
  have hi : i < n := by
    have := (List.getElem?_eq_some_iff.mp hd).1
    simpa [rngDn] using this
  have e : d = .int (lo + (i : Nat) * (-1)) := by
    have h : (rngDn lo n)[i]? = some (.int (lo - (i : Nat))) := by simp [rngDn, hi]
    rw [h] at hd
    rw [← Option.some.inj hd]
    congr 1
    omega
  subst e
  refine ⟨hi, fun x H' y => ?_⟩
  obtain ⟨rfl, rfl⟩ := y
  exact I.push (d := .int _) rfl
theorem wpI_rng3 {ta : TA} {C : List D → Prop} (h : wpA K Γ ta ss fun ds => ∃ i j : Int, ds = [.int i, .int j, .int (-1)] ∧ (-(2 ^ 62) ≤ i ∧ i < 2 ^ 62 ∧ -(2 ^ 62) ≤ j ∧ j < 2 ^ 62) ∧ C (rngDn i (i - j).toNat)) : wpI K Γ (iRng3 ta) ss C := fun H0 σ H τ hl I R k =>
  h H0 σ H τ hl I _ fun vs ds H1 hd J c => by
    obtain ⟨i, j, rfl, hj, c⟩ := c
    match vs, hd with
    | [v, w, z], _ =>
      have rv : v = .int i := J.val List.mem_cons_self
      have rw' : w = .int j := J.val (List.mem_cons_of_mem _ List.mem_cons_self)
      have rz : z = .int (-1) := J.val (List.mem_cons_of_mem _ (List.mem_cons_of_mem _ List.mem_cons_self))
      subst rv rw' rz
      exact ⟨i, j, -1, _, rfl, RgC.neg hj.1 hj.2.1 hj.2.2.1 hj.2.2.2, k _ H1 _ [] J.dropL walks_rngC c⟩
end
end SQ
/-! texts with their preconditions -/
namespace XQ
open PySem PySem.Spec PyProof.Rows L2 SQ
abbrev Fr := PySem.W.Frag
abbrev XP := Exc → Prop
theorem le_refl (B : Sc) : Sc.le B B := ⟨fun _ h => h, fun _ h => h⟩
structure EnLe (e e' : En) : Prop where
  nx : ∀ s, e.nx s → e'.nx s
  rt : ∀ s, e.rt s → e'.rt s
  bk : ∀ s, e.bk s → e'.bk s
  ct : ∀ s, e.ct s → e'.ct s
structure XE (G : Fr → Prop) where
  te : Fr → XK → TE
  pre : Sc → XP → List Sl → (D → Prop) → Prop
  ok : ∀ {K : Fr} {Γ : Cxt} {ss : List Sl} {C : D → Prop}, G K → pre (sc Γ) Γ.X ss C → wpE K Γ (te K Γ.E) ss C
  mono : ∀ {B B' : Sc} {X X' : XP} {ss : List Sl} {C C' : D → Prop}, Sc.le B B' → (∀ x, X x → X' x) → (∀ d, C d → C' d) → pre B X ss C → pre B' X' ss C'
structure XO (G : Fr → Prop) where
  te : Fr → XK → TE
  pre : Sc → XP → List Sl → (List D → Prop) → Prop
  ok : ∀ {K : Fr} {Γ : Cxt} {ss : List Sl} {C : List D → Prop}, G K → pre (sc Γ) Γ.X ss C → wpO K Γ (te K Γ.E) ss C
  mono : ∀ {B B' : Sc} {X X' : XP} {ss : List Sl} {C C' : List D → Prop}, Sc.le B B' → (∀ x, X x → X' x) → (∀ d, C d → C' d) → pre B X ss C → pre B' X' ss C'
structure XA (G : Fr → Prop) where
  te : Fr → XK → TA
  pre : Sc → XP → List Sl → (List D → Prop) → Prop
  ok : ∀ {K : Fr} {Γ : Cxt} {ss : List Sl} {C : List D → Prop}, G K → pre (sc Γ) Γ.X ss C → wpA K Γ (te K Γ.E) ss C
  mono : ∀ {B B' : Sc} {X X' : XP} {ss : List Sl} {C C' : List D → Prop}, Sc.le B B' → (∀ x, X x → X' x) → (∀ d, C d → C' d) → pre B X ss C → pre B' X' ss C'
structure XT (G : Fr → Prop) where
  te : Fr → XK → TT
  pre : Sc → XP → List Sl → (Bool → Prop) → Prop
  ok : ∀ {K : Fr} {Γ : Cxt} {ss : List Sl} {C : Bool → Prop}, G K → pre (sc Γ) Γ.X ss C → wpT K Γ (te K Γ.E) ss C
  mono : ∀ {B B' : Sc} {X X' : XP} {ss : List Sl} {C C' : Bool → Prop}, Sc.le B B' → (∀ x, X x → X' x) → (∀ d, C d → C' d) → pre B X ss C → pre B' X' ss C'
structure XI (G : Fr → Prop) where
  te : Fr → XK → TI
  pre : Sc → XP → List Sl → (List D → Prop) → Prop
  ok : ∀ {K : Fr} {Γ : Cxt} {ss : List Sl} {C : List D → Prop}, G K → pre (sc Γ) Γ.X ss C → wpI K Γ (te K Γ.E) ss C
  mono : ∀ {B B' : Sc} {X X' : XP} {ss : List Sl} {C C' : List D → Prop}, Sc.le B B' → (∀ x, X x → X' x) → (∀ d, C d → C' d) → pre B X ss C → pre B' X' ss C'
structure XS (G : Fr → Prop) where
  te : Fr → XK → TS
  pre : Sc → XP → List Sl → En → Prop
  ok : ∀ {K : Fr} {Γ : Cxt} {ss : List Sl} {e : En}, G K → pre (sc Γ) Γ.X ss e → wpS K Γ (te K Γ.E) ss e
  mono : ∀ {B B' : Sc} {X X' : XP} {ss : List Sl} {e e' : En}, Sc.le B B' → (∀ x, X x → X' x) → EnLe e e' → pre B X ss e → pre B' X' ss e'
/-- targets; us: the slots that are written -/
structure XG where
  us : List Nat
  te : Fr → TG
  pre : D → List Sl → (List Sl → Prop) → Prop
  ok : ∀ {K : Fr} {Γ : Cxt} {d : D} {ss : List Sl} {C : List Sl → Prop}, pre d ss C → wpG K Γ us (te K) d ss C
  mono : ∀ {d : D} {ss : List Sl} {C C' : List Sl → Prop}, (∀ s, C s → C' s) → pre d ss C → pre d ss C'
/-- operations of two values, of one, of a list of values -/
structure XR where
  r : Fr → R2
  pre : D → D → (D → Prop) → Prop
  ok : ∀ {K : Fr} {x y : D} {C : D → Prop}, pre x y C → wpR K (r K) x y C
  mono : ∀ {x y : D} {C C' : D → Prop}, (∀ d, C d → C' d) → pre x y C → pre x y C'
structure XB where
  r : Fr → List V → Hp → VK → Prop
  pre : List D → (D → Prop) → Prop
  ok : ∀ {K : Fr} {xs : List D} {C : D → Prop}, pre xs C → wpB K (r K) xs C
  mono : ∀ {xs : List D} {C C' : D → Prop}, (∀ d, C d → C' d) → pre xs C → pre xs C'
structure XBO where
  r : Fr → List V → Hp → VK → Prop
  pre : List D → (List D → Prop) → Prop
  ok : ∀ {K : Fr} {xs : List D} {C : List D → Prop}, pre xs C → wpBO K (r K) xs C
  mono : ∀ {xs : List D} {C C' : List D → Prop}, (∀ d, C d → C' d) → pre xs C → pre xs C'
/-- defs -/
structure XF where
  F : Fn
  mono : ∀ {B B' : Sc} {X X' : XP} {ds : List D} {C C' : D → Prop}, Sc.le B B' → (∀ x, X x → X' x) → (∀ d, C d → C' d) → F B ds C X → F B' ds C' X'

section
variable {K : Fr} {Γ : Cxt} {ss : List Sl}
theorem wpO_mono {te : TE} {C C' : List D → Prop} (h : wpO K Γ te ss C) (m : ∀ d, C d → C' d) : wpO K Γ te ss C' := fun H0 σ H τ hl I Q q => h H0 σ H τ hl I Q fun v d H2 J c => q v d H2 J (m d c)
theorem wpA_mono {te : TA} {C C' : List D → Prop} (h : wpA K Γ te ss C) (m : ∀ d, C d → C' d) : wpA K Γ te ss C' := fun H0 σ H τ hl I Q q => h H0 σ H τ hl I Q fun v d H2 hd J c => q v d H2 hd J (m d c)
theorem wpI_mono {te : TI} {C C' : List D → Prop} (h : wpI K Γ te ss C) (m : ∀ d, C d → C' d) : wpI K Γ te ss C' := fun H0 σ H τ hl I R q => h H0 σ H τ hl I R fun J H1 ds τ1 I1 w c => q J H1 ds τ1 I1 w (m ds c)
theorem wpG_mono {us : List Nat} {g : TG} {d : D} {C C' : List Sl → Prop} (h : wpG K Γ us g d ss C) (m : ∀ s, C s → C' s) : wpG K Γ us g d ss C' := fun H0 σ H τ x hl I Q q => h H0 σ H τ x hl I Q fun s σ' H' a b c e f => q s σ' H' a b c e (m s f)
end
variable {G : Fr → Prop}

/-! ### expressions -/
def getV (ss : List Sl) (i : Nat) (C : D → Prop) : Prop := match ss[i]? with
  | some (.val d) => C d
  | _ => False
def getO (ss : List Sl) (i : Nat) (C : List D → Prop) : Prop := match ss[i]? with
  | some (.own d) => C d
  | _ => False
theorem getV_at {ss : List Sl} {i : Nat} {C : D → Prop} (h : getV ss i C) : ∃ d, ss[i]? = some (.val d) ∧ C d := by
  unfold getV at h
  split at h
  · exact ⟨_, by assumption, h⟩
  · exact h.elim
theorem getO_at {ss : List Sl} {i : Nat} {C : List D → Prop} (h : getO ss i C) : ∃ d, ss[i]? = some (.own d) ∧ C d := by
  unfold getO at h
  split at h
  · exact ⟨_, by assumption, h⟩
  · exact h.elim
theorem getV_mono {ss : List Sl} {i : Nat} {C C' : D → Prop} (m : ∀ d, C d → C' d) (h : getV ss i C) : getV ss i C' := by
  obtain ⟨d, e, c⟩ := getV_at h
  unfold getV; rw [e]; exact m d c
theorem getO_mono {ss : List Sl} {i : Nat} {C C' : List D → Prop} (m : ∀ d, C d → C' d) (h : getO ss i C) : getO ss i C' := by
  obtain ⟨d, e, c⟩ := getO_at h
  unfold getO; rw [e]; exact m d c
@[simp] theorem getV_0 {d : D} {r : List Sl} {C : D → Prop} : getV (.val d :: r) 0 C = C d := rfl
@[simp] theorem getV_s {s : Sl} {r : List Sl} {i : Nat} {C : D → Prop} : getV (s :: r) (i + 1) C = getV r i C := rfl
@[simp] theorem getO_0 {d : List D} {r : List Sl} {C : List D → Prop} : getO (.own d :: r) 0 C = C d := rfl
@[simp] theorem getO_s {s : Sl} {r : List Sl} {i : Nat} {C : List D → Prop} : getO (s :: r) (i + 1) C = getO r i C := rfl
def var (i : Nat) : XE G where
  te _ _ := tVar i
  pre _ _ ss C := getV ss i C
  ok _ h := by obtain ⟨d, e, c⟩ := getV_at h; exact wpE_var e c
  mono _ _ c h := getV_mono c h
def int (i : Int) : XE G := ⟨fun _ _ => tC (.int i), fun _ _ _ C => C (.int i), fun _ h => wpE_int h, fun _ _ c h => c _ h⟩
def bl (b : Bool) : XE G := ⟨fun _ _ => tC (.bl b), fun _ _ _ C => C (.bl b), fun _ h => wpE_bl h, fun _ _ c h => c _ h⟩
def non : XE G := ⟨fun _ _ => tC .non, fun _ _ _ C => C .non, fun _ h => wpE_non h, fun _ _ c h => c _ h⟩
def ty (x : String) : XE G := ⟨fun _ _ => tC (.ty x), fun _ _ _ C => C (.ty x), fun _ h => wpE_ty h, fun _ _ c h => c _ h⟩
def str (x : Str) : XE G := ⟨fun _ _ => tC (.str x), fun _ _ _ C => C (.str x), fun _ h => wpE_str h, fun _ _ c h => c _ h⟩
def op (r : XR) (a b : XE G) : XE G where
  te K E := tOp (r.r K) (a.te K E) (b.te K E)
  pre B X ss C := a.pre B X ss fun x => b.pre B X ss fun y => r.pre x y C
  ok g h := wpE_op ((a.ok g h).mono fun x h => (b.ok g h).mono fun y h => r.ok h)
  mono l x c h := a.mono l x (fun d h => b.mono l x (fun d h => r.mono c h) h) h
def frz (a : XO G) : XE G where
  te := a.te
  pre B X ss C := a.pre B X ss fun xs => C (.lst xs)
  ok g h := wpE_frz (a.ok g h)
  mono l x c h := a.mono l x (fun d h => c _ h) h
def andV (a b : XE G) : XE G where
  te K E := tAndV (a.te K E) (b.te K E)
  pre B X ss C := a.pre B X ss fun d => ∃ k, d = .bl k ∧ if k = true then b.pre B X ss C else C (.bl false)
  ok g h := wpE_andV ((a.ok g h).mono fun d h => by
    obtain ⟨k, e, h⟩ := h
    refine ⟨k, e, ?_⟩
    split
    · rename_i z; rw [if_pos z] at h; exact b.ok g h
    · rename_i z; rw [if_neg z] at h; exact h)
  mono l x c h := a.mono l x (fun d h => by
    obtain ⟨k, e, h⟩ := h
    refine ⟨k, e, ?_⟩
    split
    · rename_i z; rw [if_pos z] at h; exact b.mono l x c h
    · rename_i z; rw [if_neg z] at h; exact c _ h) h
def orV (a b : XE G) : XE G where
  te K E := tOrV (a.te K E) (b.te K E)
  pre B X ss C := a.pre B X ss fun d => ∃ k, d = .bl k ∧ if k = true then C (.bl true) else b.pre B X ss C
  ok g h := wpE_orV ((a.ok g h).mono fun d h => by
    obtain ⟨k, e, h⟩ := h
    refine ⟨k, e, ?_⟩
    split
    · rename_i z; rw [if_pos z] at h; exact h
    · rename_i z; rw [if_neg z] at h; exact b.ok g h)
  mono l x c h := a.mono l x (fun d h => by
    obtain ⟨k, e, h⟩ := h
    refine ⟨k, e, ?_⟩
    split
    · rename_i z; rw [if_pos z] at h; exact c _ h
    · rename_i z; rw [if_neg z] at h; exact b.mono l x c h) h
def notV (a : XE G) : XE G where
  te K E := tNotV (a.te K E)
  pre B X ss C := a.pre B X ss fun d => ∃ k, d = .bl k ∧ C (.bl (!k))
  ok g h := wpE_notV (a.ok g h)
  mono l x c h := a.mono l x (fun d h => by obtain ⟨k, e, h⟩ := h; exact ⟨k, e, c _ h⟩) h
def ifE (t : XT G) (a b : XE G) : XE G where
  te K E := tIf (t.te K E) (a.te K E) (b.te K E)
  pre B X ss C := t.pre B X ss fun k => if k = true then a.pre B X ss C else b.pre B X ss C
  ok g h := wpE_if ((t.ok g h).mono fun k h => by
    split
    · rename_i z; rw [if_pos z] at h; exact a.ok g h
    · rename_i z; rw [if_neg z] at h; exact b.ok g h)
  mono l x c h := t.mono l x (fun k h => by
    split
    · rename_i z; rw [if_pos z] at h; exact a.mono l x c h
    · rename_i z; rw [if_neg z] at h; exact b.mono l x c h) h
def chain (r r' : XR) (a b c : XE G) : XE G where
  te K E := tChain (r.r K) (r'.r K) (a.te K E) (b.te K E) (c.te K E)
  pre B X ss C := a.pre B X ss fun x => b.pre B X ss fun y => r.pre x y fun z => ∃ k, z = .bl k ∧ if k = true then c.pre B X ss fun w => r'.pre y w C else C (.bl false)
  ok g h := wpE_chain ((a.ok g h).mono fun x h => (b.ok g h).mono fun y h => r.ok (r.mono (fun z h => by
    obtain ⟨k, e, h⟩ := h
    refine ⟨k, e, ?_⟩
    split
    · rename_i z; rw [if_pos z] at h; exact (c.ok g h).mono fun w h => r'.ok h
    · rename_i z; rw [if_neg z] at h; exact h) h))
  mono l x m h := a.mono l x (fun d h => b.mono l x (fun d h => r.mono (fun z h => by
    obtain ⟨k, e, h⟩ := h
    refine ⟨k, e, ?_⟩
    split
    · rename_i z; rw [if_pos z] at h; exact c.mono l x (fun w h => r'.mono m h) h
    · rename_i z; rw [if_neg z] at h; exact m _ h) h) h) h
def isNon : D → Bool
  | .non => true
  | _ => false
@[simp] theorem isNon_non : isNon .non = true := rfl
@[simp] theorem isNon_bl {b : Bool} : isNon (.bl b) = false := rfl
@[simp] theorem isNon_int {b : Int} : isNon (.int b) = false := rfl
@[simp] theorem isNon_str {b : Str} : isNon (.str b) = false := rfl
@[simp] theorem isNon_tup {b : List D} : isNon (.tup b) = false := rfl
@[simp] theorem isNon_lst {b : List D} : isNon (.lst b) = false := rfl
def isN (a : XE G) : XE G where
  te K E := tIsN (a.te K E)
  pre B X ss C := a.pre B X ss fun d => C (.bl (isNon d))
  ok g h := fun H0 σ H τ hl I Q q => a.ok g h H0 σ H τ hl I _ fun v d H2 J c => by
    have hv : decide (v = V.non) = isNon d := by
      have r := J.val List.mem_cons_self
      unfold isNon
      cases d with
      | non => have r : v = .non := r; simp [r]
      | bl b => have r : v = .bl b := r; simp [r]
      | int b => have r : v = .int b := r; simp [r]
      | str b => have r : v = .str b := r; simp [r]
      | ty b => have r : v = .ty b := r; simp [r]
      | cell b => have r : v = .ref b := r; simp [r]
      | tup xs => obtain ⟨p, vs, rfl, _⟩ := r; simp
      | lst xs => obtain ⟨p, vs, rfl, _⟩ := r; simp
      | dk ks ds => obtain ⟨p, vs, rfl, _⟩ := r; simp
      | scr ns => obtain ⟨p, rfl, _⟩ := r; simp
      | ins C ns ds => obtain ⟨p, dx, fs, rfl, _⟩ := r; simp
    rw [hv]
    exact q _ (.bl (isNon d)) H2 (J.drop.push (d := .bl (isNon d)) rfl) c
  mono l x c h := a.mono l x (fun d h => c _ h) h
def notN (a : XE G) : XE G where
  te K E := tNotN (a.te K E)
  pre B X ss C := a.pre B X ss fun d => C (.bl (!isNon d))
  ok g h := fun H0 σ H τ hl I Q q => a.ok g h H0 σ H τ hl I _ fun v d H2 J c => by
    have hv : (!decide (v = V.non)) = !isNon d := by
      have r := J.val List.mem_cons_self
      unfold isNon
      cases d with
      | non => have r : v = .non := r; simp [r]
      | bl b => have r : v = .bl b := r; simp [r]
      | int b => have r : v = .int b := r; simp [r]
      | str b => have r : v = .str b := r; simp [r]
      | ty b => have r : v = .ty b := r; simp [r]
      | cell b => have r : v = .ref b := r; simp [r]
      | tup xs => obtain ⟨p, vs, rfl, _⟩ := r; simp
      | lst xs => obtain ⟨p, vs, rfl, _⟩ := r; simp
      | dk ks ds => obtain ⟨p, vs, rfl, _⟩ := r; simp
      | scr ns => obtain ⟨p, rfl, _⟩ := r; simp
      | ins C ns ds => obtain ⟨p, dx, fs, rfl, _⟩ := r; simp
    rw [hv]
    exact q _ (.bl (!isNon d)) H2 (J.drop.push (d := .bl (!isNon d)) rfl) c
  mono l x c h := a.mono l x (fun d h => c _ h) h
/-! ### lists of arguments -/
def anil : XA G := ⟨fun _ _ => tNil, fun _ _ _ C => C [], fun _ h => wpA_nil h, fun _ _ c h => c _ h⟩
def acons (a : XE G) (r : XA G) : XA G where
  te K E := tCons (a.te K E) (r.te K E)
  pre B X ss C := a.pre B X ss fun x => r.pre B X ss fun xs => C (x :: xs)
  ok g h := wpA_cons ((a.ok g h).mono fun x h => r.ok g h)
  mono l x c h := a.mono l x (fun d h => r.mono l x (fun d h => c _ h) h) h
def cb (r : XB) (a : XA G) : XE G where
  te K E := tCB (r.r K) (a.te K E)
  pre B X ss C := a.pre B X ss fun xs => r.pre xs C
  ok g h := wpE_cb (wpA_mono (a.ok g h) fun xs h => r.ok h)
  mono l x c h := a.mono l x (fun d h => r.mono c h) h
def cbO (r : XBO) (a : XA G) : XO G where
  te K E := tCB (r.r K) (a.te K E)
  pre B X ss C := a.pre B X ss fun xs => r.pre xs C
  ok g h := wpO_cb (wpA_mono (a.ok g h) fun xs h => r.ok h)
  mono l x c h := a.mono l x (fun d h => r.mono c h) h
def tup (a : XA G) : XE G where
  te K E := tTup (a.te K E)
  pre B X ss C := a.pre B X ss fun xs => xs.length ≤ 100000 ∧ C (.tup xs)
  ok g h := wpE_tup (a.ok g h)
  mono l x c h := a.mono l x (fun d h => ⟨h.1, c _ h.2⟩) h
def lst (a : XA G) : XO G where
  te K E := tLst (a.te K E)
  pre B X ss C := a.pre B X ss fun xs => xs.length ≤ 100000 ∧ C xs
  ok g h := wpO_lst (a.ok g h)
  mono l x c h := a.mono l x (fun d h => ⟨h.1, c _ h.2⟩) h
/-- a call that lets nothing out -/
def call0 (f : XF) (a : XA G) : XE G where
  te K E := tCall (spF K f.F) [] E0 (a.te K E)
  pre B X ss C := a.pre B X ss fun ds => f.F B ds C fun _ => False
  ok g h := wpE_call0 (fun B B' ds C X m h => f.mono m (fun _ h => h) (fun _ h => h) h) (a.ok g h)
  mono l x c h := a.mono l x (fun d h => f.mono l (fun _ h => h) c h) h
def callE (f : XF) (a : XA G) : XE G where
  te K E := tCall (spF K f.F) [] E (a.te K E)
  pre B X ss C := a.pre B X ss fun ds => f.F B ds C X
  ok g h := wpE_call (fun B B' ds C X m h => f.mono m (fun _ h => h) (fun _ h => h) h) (a.ok g h)
  mono l x c h := a.mono l x (fun d h => f.mono l x c h) h
/-! ### tests -/
def test (a : XE G) : XT G where
  te K E := tTest (a.te K E)
  pre B X ss C := a.pre B X ss fun d => ∃ b, d = .bl b ∧ C b
  ok g h := wpT_test (a.ok g h)
  mono l x c h := a.mono l x (fun d h => by obtain ⟨b, e, h⟩ := h; exact ⟨b, e, c _ h⟩) h
def tB' (a : XE G) : XT G where
  te K E := tB (a.te K E)
  pre B X ss C := a.pre B X ss fun d => ∃ b, d = .bl b ∧ C b
  ok g h := wpT_B (a.ok g h)
  mono l x c h := a.mono l x (fun d h => by obtain ⟨b, e, h⟩ := h; exact ⟨b, e, c _ h⟩) h
def yes : XT G := ⟨fun _ _ => tYes, fun _ _ _ C => C true, fun _ h => wpT_yes h, fun _ _ c h => c _ h⟩
def notT (a : XT G) : XT G where
  te K E := tNot (a.te K E)
  pre B X ss C := a.pre B X ss fun b => C (!b)
  ok g h := wpT_not (a.ok g h)
  mono l x c h := a.mono l x (fun d h => c _ h) h
def andT (a b : XT G) : XT G where
  te K E := tAnd (a.te K E) (b.te K E)
  pre B X ss C := a.pre B X ss fun k => if k = true then b.pre B X ss C else C false
  ok g h := wpT_and ((a.ok g h).mono fun k h => by
    split
    · rename_i z; rw [if_pos z] at h; exact b.ok g h
    · rename_i z; rw [if_neg z] at h; exact h)
  mono l x c h := a.mono l x (fun k h => by
    split
    · rename_i z; rw [if_pos z] at h; exact b.mono l x c h
    · rename_i z; rw [if_neg z] at h; exact c _ h) h
def orT (a b : XT G) : XT G where
  te K E := tOr (a.te K E) (b.te K E)
  pre B X ss C := a.pre B X ss fun k => if k = true then C true else b.pre B X ss C
  ok g h := wpT_or ((a.ok g h).mono fun k h => by
    split
    · rename_i z; rw [if_pos z] at h; exact h
    · rename_i z; rw [if_neg z] at h; exact b.ok g h)
  mono l x c h := a.mono l x (fun k h => by
    split
    · rename_i z; rw [if_pos z] at h; exact c _ h
    · rename_i z; rw [if_neg z] at h; exact b.mono l x c h) h
/-! ### targets -/
def gname (i : Nat) : XG where
  us := [i]
  te _ := gName i
  pre d ss C := i < ss.length ∧ C (ss.set i (.val d))
  ok h := wpG_name h.1 List.mem_cons_self h.2
  mono m h := ⟨h.1, m _ h.2⟩
def gpair (i j : Nat) : XG where
  us := [i, j]
  te K := gSeq K 2 (gCons (gName i) (gCons (gName j) gNil))
  pre d ss C := i < ss.length ∧ j < ss.length ∧ match d with
    | .tup [x, y] => C ((ss.set i (.val x)).set j (.val y))
    | .lst [x, y] => C ((ss.set i (.val x)).set j (.val y))
    | _ => False
  ok h := by
    obtain ⟨h1, h2, h3⟩ := h
    split at h3
    · exact wpG_seqT (wpG_pair h1 h2 (by simp) (by simp) rfl h3)
    · exact wpG_pairL h1 h2 (by simp) (by simp) rfl h3
    · exact h3.elim
  mono m h := ⟨h.1, h.2.1, by
    have h := h.2.2
    split at h
    · exact m _ h
    · exact m _ h
    · exact h.elim⟩
/-! ### statements -/
def skip : XS G := ⟨fun _ _ => tNext, fun _ _ ss e => e.nx ss, fun _ h => wpS_next h, fun _ _ m h => m.nx _ h⟩
def seq (s t : XS G) : XS G where
  te K E := tSeq (s.te K E) (t.te K E)
  pre B X ss e := s.pre B X ss { e with nx := fun ss => t.pre B X ss e }
  ok g h := wpS_seq (s.ok g (by
    refine s.mono (le_refl _) (fun _ h => h) ?_ h
    exact ⟨fun _ h => t.ok g h, fun _ h => h, fun _ h => h, fun _ h => h⟩))
  mono l x m h := by
    refine s.mono l x ?_ h
    exact ⟨fun _ h => t.mono l x m h, m.rt, m.bk, m.ct⟩
def ret (a : XE G) : XS G where
  te K E := tRet (a.te K E)
  pre B X ss e := a.pre B X ss fun d => e.rt (.val d)
  ok g h := wpS_ret (a.ok g h)
  mono l x m h := a.mono l x (fun d h => m.rt _ h) h
def retN : XS G := ⟨fun _ _ => tRetN, fun _ _ _ e => e.rt (.val .non), fun _ h => wpS_retN h, fun _ _ m h => m.rt _ h⟩
def ifS (t : XT G) (a b : XS G) : XS G where
  te K E := tIfS (t.te K E) (a.te K E) (b.te K E)
  pre B X ss e := t.pre B X ss fun k => if k = true then a.pre B X ss e else b.pre B X ss e
  ok g h := wpS_if ((t.ok g h).mono fun k h => by
    split
    · rename_i z; rw [if_pos z] at h; exact a.ok g h
    · rename_i z; rw [if_neg z] at h; exact b.ok g h)
  mono l x c h := t.mono l x (fun k h => by
    split
    · rename_i z; rw [if_pos z] at h; exact a.mono l x c h
    · rename_i z; rw [if_neg z] at h; exact b.mono l x c h) h
def asg (a : XE G) (g : XG) : XS G where
  te K E := tAsg (a.te K E) (g.te K)
  pre B X ss e := a.pre B X ss fun d => g.pre d ss e.nx
  ok gg h := wpS_asg (us := g.us) ((a.ok gg h).mono fun d h => g.ok h)
  mono l x m h := a.mono l x (fun d h => g.mono m.nx h) h
def set (i : Nat) (a : XE G) : XS G where
  te K E := tAsg (a.te K E) (gName i)
  pre B X ss e := i < ss.length ∧ a.pre B X ss fun d => e.nx (ss.set i (.val d))
  ok g h := wpS_set h.1 (a.ok g h.2)
  mono l x m h := ⟨h.1, a.mono l x (fun d h => m.nx _ h) h.2⟩
def setO (i : Nat) (a : XO G) : XS G where
  te K E := tAsg (a.te K E) (gName i)
  pre B X ss e := i < ss.length ∧ a.pre B X ss fun d => e.nx (ss.set i (.own d))
  ok g h := wpS_setO h.1 (a.ok g h.2)
  mono l x m h := ⟨h.1, a.mono l x (fun d h => m.nx _ h) h.2⟩
def par (i j : Nat) (a : XA G) : XS G where
  te K E := tPar i j (a.te K E)
  pre B X ss e := i < ss.length ∧ j < ss.length ∧ a.pre B X ss fun ds => match ds with
    | [x, y] => e.nx ((ss.set i (.val x)).set j (.val y))
    | _ => False
  ok g h := wpS_par h.1 h.2.1 (wpA_mono (a.ok g h.2.2) fun ds h => by
    split at h
    · exact ⟨_, _, rfl, h⟩
    · exact h.elim)
  mono l x m h := ⟨h.1, h.2.1, a.mono l x (fun ds h => by
    split at h
    · exact m.nx _ h
    · exact h.elim) h.2.2⟩
def drop (a : XE G) : XS G where
  te K E := tDrop (a.te K E)
  pre B X ss e := a.pre B X ss fun _ => e.nx ss
  ok g h := wpS_drop (a.ok g h)
  mono l x m h := a.mono l x (fun d h => m.nx _ h) h
/-- the list in a slot is no longer changed -/
def freeze (i : Nat) (s : XS G) : XS G where
  te := s.te
  pre B X ss e := getO ss i fun xs => s.pre B X (ss.set i (.val (.lst xs))) e
  ok g h := by obtain ⟨xs, e, h⟩ := getO_at h; exact wpS_freeze e (s.ok g h)
  mono l x m h := getO_mono (fun _ h => s.mono l x m h) h
def app (i : Nat) (a : XE G) : XS G where
  te K E := tDrop (tBM K "list" rAppend (tVar i) (tCons (a.te K E) tNil))
  pre B X ss e := getO ss i fun xs => xs.length < 100000 ∧ a.pre B X ss fun d => e.nx (ss.set i (.own (xs ++ [d])))
  ok g h := by obtain ⟨xs, e, h⟩ := getO_at h; exact wpS_app e h.1 (a.ok g h.2)
  mono l x m h := getO_mono (fun _ h => ⟨h.1, a.mono l x (fun d h => m.nx _ h) h.2⟩) h
def aug (i : Nat) (f : Int → Int → Int) (a : XE G) : XS G where
  te K E := tAug i (a.te K E) (ipI f)
  pre B X ss e := getV ss i fun d => match d with
    | .int n => a.pre B X ss fun d => ∃ m, d = .int m ∧ e.nx (ss.set i (.val (.int (f n m))))
    | _ => False
  ok g h := by
    obtain ⟨d, e, h⟩ := getV_at h
    split at h
    · exact wpS_aug e (a.ok g h)
    · exact h.elim
  mono l x m h := getV_mono (fun d h => by
    split at h
    · exact a.mono l x (fun d h => by obtain ⟨k, e, h⟩ := h; exact ⟨k, e, m.nx _ h⟩) h
    · exact h.elim) h
def put (i : Nat) (a ix : XE G) : XS G where
  te K E := tAsg (a.te K E) (gSub (tVar i) (ix.te K E) rSetL)
  pre B X ss e := getO ss i fun xs => a.pre B X ss fun d => ix.pre B X ss fun y => ∃ j m, y = .int j ∧ ixN xs.length j = some m ∧ e.nx (ss.set i (.own (xs.set m d)))
  ok g h := by obtain ⟨xs, e, h⟩ := getO_at h; exact wpS_putOwn e ((a.ok g h).mono fun d h => ix.ok g h)
  mono l x m h := getO_mono (fun _ h => a.mono l x (fun d h => ix.mono l x (fun d h => by
    obtain ⟨j, k, e1, e2, h⟩ := h
    exact ⟨j, k, e1, e2, m.nx _ h⟩) h) h) h
def augO (i : Nat) (f : Int → Int → Int) (a ix : XE G) : XS G where
  te K E := tAugS (tVar i) (ix.te K E) (a.te K E) (rIxL K) (ipI f) rSetL
  pre B X ss e := getO ss i fun xs => ix.pre B X ss fun y => ∃ j m n, y = .int j ∧ ixN xs.length j = some m ∧ xs[m]? = some (.int n) ∧ a.pre B X ss fun d => ∃ z, d = .int z ∧ e.nx (ss.set i (.own (xs.set m (.int (f n z)))))
  ok g h := by
    obtain ⟨xs, e, h⟩ := getO_at h
    refine wpS_augOwn e ((ix.ok g h).mono fun d h => ?_)
    obtain ⟨j, k, n, e1, e2, e3, h⟩ := h
    exact ⟨j, k, n, e1, e2, e3, a.ok g h⟩
  mono l x m h := getO_mono (fun _ h => ix.mono l x (fun d h => by
    obtain ⟨j, k, n, e1, e2, e3, h⟩ := h
    exact ⟨j, k, n, e1, e2, e3, a.mono l x (fun d h => by obtain ⟨z, e, h⟩ := h; exact ⟨z, e, m.nx _ h⟩) h⟩) h) h
def popD (i : Nat) : XS G where
  te K _ := tDrop (tBM0 K "list" rPop (tVar i))
  pre _ _ ss e := getO ss i fun xs => xs ≠ [] ∧ e.nx (ss.set i (.own xs.dropLast))
  ok g h := by obtain ⟨xs, e, h⟩ := getO_at h; exact wpS_popOwn e h.1 h.2
  mono l x m h := getO_mono (fun _ h => ⟨h.1, m.nx _ h.2⟩) h
def ixOwn (i : Nat) (a : XE G) : XE G where
  te K E := tOp (rIx K) (tVar i) (a.te K E)
  pre B X ss C := getO ss i fun xs => a.pre B X ss fun y => ∃ j d, y = .int j ∧ atI xs j = some d ∧ C d
  ok g h := by obtain ⟨xs, e, h⟩ := getO_at h; exact wpE_ixOwn e (a.ok g h)
  mono l x c h := getO_mono (fun _ h => a.mono l x (fun d h => by
    obtain ⟨j, k, e1, e2, h⟩ := h
    exact ⟨j, k, e1, e2, c _ h⟩) h) h
def lenOwn (i : Nat) : XE G where
  te K _ := tCB (bLen K) (tCons (tVar i) tNil)
  pre _ _ ss C := getO ss i fun xs => C (.int xs.length)
  ok g h := by obtain ⟨xs, e, h⟩ := getO_at h; exact wpE_lenOwn e h
  mono l x c h := getO_mono (fun _ h => c _ h) h
/-- what is never come to -/
def nope : XS G := ⟨fun _ _ => tNever, fun _ _ _ _ => False, fun _ h => h.elim, fun _ _ _ h => h⟩
def brk : XS G := ⟨fun _ _ => tBreak, fun _ _ ss e => e.bk ss, fun _ h => wpS_brk h, fun _ _ m h => m.bk _ h⟩
def cont : XS G := ⟨fun _ _ => tCont, fun _ _ ss e => e.ct ss, fun _ h => wpS_cont h, fun _ _ m h => m.ct _ h⟩
def raise0 (c : Addr) : XS G := ⟨fun _ E => tRaise0 c E, fun _ X _ _ => X ⟨c, [], []⟩, fun _ h => wpS_raise0 h, fun _ x _ h => x _ h⟩
def raise1 (c : Addr) (fl : Str) (a : XA G) : XS G where
  te K E := tRaise1 c fl E (a.te K E)
  pre B X ss e := a.pre B X ss fun ds => ∃ d, ds = [d] ∧ X ⟨c, [fl], [d]⟩
  ok g h := wpS_raise1 (a.ok g h)
  mono l x m h := a.mono l x (fun ds h => by obtain ⟨d, e, h⟩ := h; exact ⟨d, e, x _ h⟩) h
/-! ### loops -/
def forW (b : D → List Sl → En → Prop) : List D → List Sl → En → Prop
  | [], ss, e => e.nx ss
  | d :: r, ss, e => b d ss { nx := fun s => forW b r s e, ct := fun s => forW b r s e, bk := e.nx, rt := e.rt }
theorem forW_mono {b b' : D → List Sl → En → Prop} (hb : ∀ d ss e e', EnLe e e' → b d ss e → b' d ss e') : ∀ (ds : List D) (ss : List Sl) (e e' : En), EnLe e e' → forW b ds ss e → forW b' ds ss e'
  | [], ss, e, e', m, h => m.nx _ h
  | d :: r, ss, e, e', m, h => by
    refine hb _ _ _ _ ?_ h
    exact ⟨fun s h => forW_mono hb r s e e' m h, m.rt, m.nx, fun s h => forW_mono hb r s e e' m h⟩
theorem forW_drop {b : D → List Sl → En → Prop} {ds : List D} {i : Nat} {d : D} {ss : List Sl} {e : En} (hd : ds[i]? = some d) : forW b (ds.drop i) ss e = b d ss { nx := fun s => forW b (ds.drop (i + 1)) s e, ct := fun s => forW b (ds.drop (i + 1)) s e, bk := e.nx, rt := e.rt } := by
  obtain ⟨h, e1⟩ := List.getElem?_eq_some_iff.mp hd
  rw [List.drop_eq_getElem_cons h, e1]; rfl
def xfor (w : XI G) (g : XG) (s : XS G) : XS G where
  te K E := tFor (w.te K E) (g.te K) (s.te K E)
  pre B X ss e := w.pre B X ss fun ds => forW (fun d ss e => g.pre d ss fun ss2 => s.pre B X ss2 e) ds ss e
  ok gg h := wpS_for (us := g.us) (wpI_mono (w.ok gg h) fun ds h => by
    refine ⟨fun i ss' => forW (fun d ss e => g.pre d ss fun ss2 => s.pre _ _ ss2 e) (ds.drop i) ss' _, h, ?_, ?_⟩
    · intro i d ss' hd hI
      rw [forW_drop hd] at hI
      exact wpG_mono (g.ok hI) fun s2 h => s.ok gg h
    · intro ss' hI
      rw [List.drop_length] at hI
      exact hI)
  mono l x m h := w.mono l x (fun ds h => forW_mono (fun d ss e e' m h => g.mono (fun s2 h => s.mono l x m h) h) ds _ _ _ m h) h
def whW (t : List Sl → (Bool → Prop) → Prop) (b : List Sl → En → Prop) : Nat → List Sl → En → Prop
  | 0, _, _ => False
  | n + 1, ss, e => t ss fun k => if k = true then b ss { nx := fun s => whW t b n s e, ct := fun s => whW t b n s e, bk := e.nx, rt := e.rt } else e.nx ss
theorem whW_mono {t t' : List Sl → (Bool → Prop) → Prop} {b b' : List Sl → En → Prop} (ht : ∀ ss C C', (∀ k, C k → C' k) → t ss C → t' ss C') (hb : ∀ ss e e', EnLe e e' → b ss e → b' ss e') : ∀ (n : Nat) (ss : List Sl) (e e' : En), EnLe e e' → whW t b n ss e → whW t' b' n ss e'
  | 0, _, _, _, _, h => h
  | n + 1, ss, e, e', m, h => ht _ _ _ (fun k h => by
    split
    · rename_i z; rw [if_pos z] at h
      refine hb _ _ _ ?_ h
      exact ⟨fun s h => whW_mono ht hb n s e e' m h, m.rt, m.nx, fun s h => whW_mono ht hb n s e e' m h⟩
    · rename_i z; rw [if_neg z] at h; exact m.nx _ h) h
def xwhile (t : XT G) (s : XS G) : XS G where
  te K E := tWhile (t.te K E) (s.te K E)
  pre B X ss e := ∃ n, whW (fun ss C => t.pre B X ss C) (fun ss e => s.pre B X ss e) n ss e
  ok g h := by
    obtain ⟨n, h⟩ := h
    refine wpS_while (fun m s1 => whW (fun ss C => t.pre _ _ ss C) (fun ss e => s.pre _ _ ss e) m s1 _) n h ?_
    intro m s1 h
    cases m with
    | zero => exact h.elim
    | succ m =>
      refine (t.ok g h).mono fun k h => ?_
      split
      · rename_i z; rw [if_pos z] at h
        refine s.ok g ?_
        refine s.mono (le_refl _) (fun _ h => h) ?_ h
        exact ⟨fun s2 h => ⟨m, Nat.lt_succ_self m, h⟩, fun _ h => h, fun _ h => h, fun s2 h => ⟨m, Nat.lt_succ_self m, h⟩⟩
      · rename_i z; rw [if_neg z] at h; exact h
  mono l x m h := by
    obtain ⟨n, h⟩ := h
    refine ⟨n, ?_⟩
    refine whW_mono ?_ ?_ n _ _ _ m h
    · exact fun ss C C' c h => t.mono l x c h
    · exact fun ss e e' m h => s.mono l x m h
/-! ### comprehensions -/
def lcW (b : D → (Option D → Prop) → Prop) : List D → List D → (List D → Prop) → Prop
  | [], acc, C => C acc
  | d :: r, acc, C => b d fun o => lcW b r (acc ++ o.toList) C
theorem lcW_mono {b b' : D → (Option D → Prop) → Prop} (hb : ∀ d C C', (∀ o, C o → C' o) → b d C → b' d C') : ∀ (ds acc : List D) (C C' : List D → Prop), (∀ x, C x → C' x) → lcW b ds acc C → lcW b' ds acc C'
  | [], acc, C, C', m, h => m _ h
  | d :: r, acc, C, C', m, h => hb _ _ _ (fun o h => lcW_mono hb r _ C C' m h) h
theorem lcW_drop {b : D → (Option D → Prop) → Prop} {ds acc : List D} {i : Nat} {d : D} {C : List D → Prop} (hd : ds[i]? = some d) : lcW b (ds.drop i) acc C = b d fun o => lcW b (ds.drop (i + 1)) (acc ++ o.toList) C := by
  obtain ⟨h, e1⟩ := List.getElem?_eq_some_iff.mp hd
  rw [List.drop_eq_getElem_cons h, e1]; rfl
/-- one turn -/
def lcT (g : XG) (t : XT G) (a : XE G) (B : Sc) (X : XP) (ss : List Sl) (d : D) (C : Option D → Prop) : Prop :=
  g.pre d (wipeS ss g.us) fun s2 => t.pre B X s2 fun k => if k = true then a.pre B X s2 fun y => C (some y) else C none
def lc (w : XI G) (g : XG) (t : XT G) (a : XE G) : XO G where
  te K E := tLc (w.te K E) (g.te K) (t.te K E) (a.te K E) g.us
  pre B X ss C := w.pre B X ss fun ds => ds.length ≤ 100000 ∧ lcW (lcT g t a B X ss) ds [] C
  ok gg h := wpO_lc (us := g.us) (wpI_mono (w.ok gg h) fun ds h => by
    refine ⟨h.1, fun i acc => lcW (lcT g t a _ _ _) (ds.drop i) acc _, h.2, ?_, ?_⟩
    · intro i d acc hd hI
      rw [lcW_drop hd] at hI
      exact wpG_mono (g.ok hI) fun s2 h => (t.ok gg h).mono fun k h => by
        split
        · rename_i z; rw [if_pos z] at h; exact a.ok gg h
        · rename_i z; rw [if_neg z] at h; simpa using h
    · intro acc hI
      rw [List.drop_length] at hI
      exact hI)
  mono l x c h := w.mono l x (fun ds h => ⟨h.1, lcW_mono (fun d C C' m h => g.mono (fun s2 h => t.mono l x (fun k h => by
    split
    · rename_i z; rw [if_pos z] at h; exact a.mono l x (fun y h => m _ h) h
    · rename_i z; rw [if_neg z] at h; exact m _ h) h) h) ds [] _ _ c h.2⟩) h
/-! ### what is gone over -/
def iseq (a : XE G) : XI G where
  te K E := iSeq K (a.te K E)
  pre B X ss C := a.pre B X ss fun d => match d with
    | .lst xs => C xs
    | .tup xs => C xs
    | _ => False
  ok g h := wpI_seq ((a.ok g h).mono fun d h => by
    cases d <;> first | exact h.elim | exact .inl ⟨_, rfl, h⟩ | exact .inr ⟨_, rfl, h⟩)
  mono l x c h := a.mono l x (fun d h => by cases d <;> first | exact h.elim | exact c _ h) h
def irng1 (a : XA G) : XI G where
  te K E := iRng1 (a.te K E)
  pre B X ss C := a.pre B X ss fun ds => match ds with
    | [.int j] => (-(2 ^ 62) ≤ j ∧ j < 2 ^ 62) ∧ C (rngD 0 j.toNat)
    | _ => False
  ok g h := wpI_rng1 (wpA_mono (a.ok g h) fun ds h => by
    split at h
    · exact ⟨_, rfl, h⟩
    · exact h.elim)
  mono l x c h := a.mono l x (fun ds h => by
    split at h
    · exact ⟨h.1, c _ h.2⟩
    · exact h.elim) h
def irng3 (a : XA G) : XI G where
  te K E := iRng3 (a.te K E)
  pre B X ss C := a.pre B X ss fun ds => match ds with
    | [.int i, .int j, .int k] => k = -1 ∧ (-(2 ^ 62) ≤ i ∧ i < 2 ^ 62 ∧ -(2 ^ 62) ≤ j ∧ j < 2 ^ 62) ∧ C (rngDn i (i - j).toNat)
    | _ => False
  ok g h := wpI_rng3 (wpA_mono (a.ok g h) fun ds h => by
    split at h
    · obtain ⟨rfl, h1, h2⟩ := h
      exact ⟨_, _, rfl, h1, h2⟩
    · exact h.elim)
  mono l x c h := a.mono l x (fun ds h => by
    split at h
    · exact ⟨h.1, h.2.1, c _ h.2.2⟩
    · exact h.elim) h
def irng2 (a : XA G) : XI G where
  te K E := iRng2 (a.te K E)
  pre B X ss C := a.pre B X ss fun ds => match ds with
    | [.int i, .int j] => (-(2 ^ 62) ≤ i ∧ i < 2 ^ 62 ∧ -(2 ^ 62) ≤ j ∧ j < 2 ^ 62) ∧ C (rngD i (j - i).toNat)
    | _ => False
  ok g h := wpI_rng2 (wpA_mono (a.ok g h) fun ds h => by
    split at h
    · exact ⟨_, _, rfl, h⟩
    · exact h.elim)
  mono l x c h := a.mono l x (fun ds h => by
    split at h
    · exact ⟨h.1, c _ h.2⟩
    · exact h.elim) h
def izip (a : XA G) : XI G where
  te K E := iZipM K (a.te K E)
  pre B X ss C := a.pre B X ss fun ds => match ds with
    | [.lst x, .lst y] => C (zipD x y)
    | [.tup x, .tup y] => C (zipD x y)
    | [.lst x, .tup y] => C (zipD x y)
    | _ => False
  ok g h := wpI_zip3 (wpA_mono (a.ok g h) fun ds h => by
    split at h
    · exact .inl ⟨_, _, rfl, h⟩
    · exact .inr (.inl ⟨_, _, rfl, h⟩)
    · exact .inr (.inr ⟨_, _, rfl, h⟩)
    · exact h.elim)
  mono l x c h := a.mono l x (fun ds h => by
    split at h
    · exact c _ h
    · exact c _ h
    · exact c _ h
    · exact h.elim) h
def ienumT (a : XA G) : XI G where
  te K E := iEnumT K (a.te K E)
  pre B X ss C := a.pre B X ss fun ds => match ds with
    | [.tup x] => C (enumD 0 x)
    | _ => False
  ok g h := wpI_enumT (wpA_mono (a.ok g h) fun ds h => by
    split at h
    · exact ⟨_, rfl, h⟩
    · exact h.elim)
  mono l x c h := a.mono l x (fun ds h => by
    split at h
    · exact c _ h
    · exact h.elim) h
def ienumL (a : XA G) : XI G where
  te K E := iEnum K (a.te K E)
  pre B X ss C := a.pre B X ss fun ds => match ds with
    | [.lst x] => C (enumD 0 x)
    | _ => False
  ok g h := wpI_enum (wpA_mono (a.ok g h) fun ds h => by
    split at h
    · exact ⟨_, rfl, h⟩
    · exact h.elim)
  mono l x c h := a.mono l x (fun ds h => by
    split at h
    · exact c _ h
    · exact h.elim) h
/-! ### defs -/
theorem en0_le {C C' : D → Prop} (c : ∀ d, C d → C' d) : EnLe (en0 C) (en0 C') := ⟨fun _ h => c _ h, fun s h => by cases s <;> first | exact c _ h | exact h.elim, fun _ h => h, fun _ h => h⟩
def xf (n m : Nat) (s : XS G) : XF where
  F B ds C X := ds.length = n ∧ s.pre B X (ss0 ds m) (en0 C)
  mono l x c h := ⟨h.1, s.mono l x (en0_le c) h.2⟩
theorem body0 {n m : Nat} {s : XS G} {K : Fr} (g : G K) {N : List Str} (hN : N.length = m) : ∀ (Γ : Cxt) (ds : List D) (C : D → Prop), (xf n m s).F (sc Γ) ds C Γ.X → wpS K Γ (s.te K Γ.E) (ss0 ds N.length) (en0 C) := fun Γ ds C h => by
  rw [hN]; exact s.ok g h.2
end XQ
/-! operations of values -/
namespace XQ
open PySem PySem.Spec PyProof.Rows L2 SQ
def I2 (C : Int → Int → Prop) : D → D → Prop
  | .int i, .int j => C i j
  | _, _ => False
@[simp] theorem I2_int {i j : Int} {C : Int → Int → Prop} : I2 C (.int i) (.int j) = C i j := rfl
theorem I2_at {x y : D} {C : Int → Int → Prop} (h : I2 C x y) : ∃ i j, x = .int i ∧ y = .int j ∧ C i j := by
  unfold I2 at h
  split at h
  · exact ⟨_, _, rfl, rfl, h⟩
  · exact h.elim
def rsub : XR where
  r _ := rI0 fun i j => .int (i - j)
  pre x y C := I2 (fun i j => C (.int (i - j))) x y
  ok h := by obtain ⟨i, j, rfl, rfl, h⟩ := I2_at h; exact wpR_subI (f := fun i j => i - j) h
  mono c h := by obtain ⟨i, j, rfl, rfl, h⟩ := I2_at h; exact c _ h
def rlt : XR where
  r _ := rI0 fun i j => .bl (decide (i < j))
  pre x y C := I2 (fun i j => C (.bl (decide (i < j)))) x y
  ok h := by obtain ⟨i, j, rfl, rfl, h⟩ := I2_at h; exact wpR_cmpI (f := fun i j => decide (i < j)) h
  mono c h := by obtain ⟨i, j, rfl, rfl, h⟩ := I2_at h; exact c _ h
def rle : XR where
  r _ := rI0 fun i j => .bl (decide (i ≤ j))
  pre x y C := I2 (fun i j => C (.bl (decide (i ≤ j)))) x y
  ok h := by obtain ⟨i, j, rfl, rfl, h⟩ := I2_at h; exact wpR_cmpI (f := fun i j => decide (i ≤ j)) h
  mono c h := by obtain ⟨i, j, rfl, rfl, h⟩ := I2_at h; exact c _ h
def rgt : XR where
  r _ := rI0 fun i j => .bl (decide (j < i))
  pre x y C := I2 (fun i j => C (.bl (decide (j < i)))) x y
  ok h := by obtain ⟨i, j, rfl, rfl, h⟩ := I2_at h; exact wpR_cmpI (f := fun i j => decide (j < i)) h
  mono c h := by obtain ⟨i, j, rfl, rfl, h⟩ := I2_at h; exact c _ h
def rge : XR where
  r _ := rI0 fun i j => .bl (decide (j ≤ i))
  pre x y C := I2 (fun i j => C (.bl (decide (j ≤ i)))) x y
  ok h := by obtain ⟨i, j, rfl, rfl, h⟩ := I2_at h; exact wpR_cmpI (f := fun i j => decide (j ≤ i)) h
  mono c h := by obtain ⟨i, j, rfl, rfl, h⟩ := I2_at h; exact c _ h
def rmod : XR where
  r _ := rI (fun _ j => 0 < j) fun i j => .int (i % j)
  pre x y C := I2 (fun i j => 0 < j ∧ C (.int (i % j))) x y
  ok h := by obtain ⟨i, j, rfl, rfl, h⟩ := I2_at h; exact wpR_mod h.1 h.2
  mono c h := by obtain ⟨i, j, rfl, rfl, h⟩ := I2_at h; exact ⟨h.1, c _ h.2⟩
def rfdiv : XR where
  r _ := rI CDivW fun i j => .int (i / j)
  pre x y C := I2 (fun i j => CDivW i j ∧ C (.int (i / j))) x y
  ok h := by obtain ⟨i, j, rfl, rfl, h⟩ := I2_at h; exact wpR_fdiv h.1 h.2
  mono c h := by obtain ⟨i, j, rfl, rfl, h⟩ := I2_at h; exact ⟨h.1, c _ h.2⟩
def rpow : XR where
  r _ := rI CPowW fun i j => .int (i ^ j.toNat)
  pre x y C := I2 (fun i j => CPowW i j ∧ C (.int (i ^ j.toNat))) x y
  ok h := by obtain ⟨i, j, rfl, rfl, h⟩ := I2_at h; exact wpR_pow h.1 h.2
  mono c h := by obtain ⟨i, j, rfl, rfl, h⟩ := I2_at h; exact ⟨h.1, c _ h.2⟩
def addP (x y : D) (C : D → Prop) : Prop := match x, y with
  | .int i, .int j => C (.int (i + j))
  | .tup xs, .tup ys => xs.length + ys.length ≤ 100000 ∧ C (.tup (xs ++ ys))
  | .lst xs, .lst ys => xs.length + ys.length ≤ 100000 ∧ C (.lst (xs ++ ys))
  | _, _ => False
@[simp] theorem addP_int {i j : Int} {C : D → Prop} : addP (.int i) (.int j) C = C (.int (i + j)) := rfl
@[simp] theorem addP_tup {xs ys : List D} {C : D → Prop} : addP (.tup xs) (.tup ys) C = (xs.length + ys.length ≤ 100000 ∧ C (.tup (xs ++ ys))) := rfl
@[simp] theorem addP_lst {xs ys : List D} {C : D → Prop} : addP (.lst xs) (.lst ys) C = (xs.length + ys.length ≤ 100000 ∧ C (.lst (xs ++ ys))) := rfl
def radd : XR where
  r K := rAddA K
  pre := addP
  ok h := by
    unfold addP at h
    split at h
    · exact wpR_addI h
    · exact wpR_addT h.1 h.2
    · exact wpR_addL h.1 h.2
    · exact h.elim
  mono c h := by
    unfold addP at h ⊢
    split at h
    · exact c _ h
    · exact ⟨h.1, c _ h.2⟩
    · exact ⟨h.1, c _ h.2⟩
    · exact h.elim
def mulP (x y : D) (C : D → Prop) : Prop := match x, y with
  | .int i, .int j => (CMul i j ∨ CMulW i j) ∧ C (.int (i * j))
  | .tup xs, .int j => (xs ≠ [] ∧ (2 ≤ j ∧ j ≤ 1000) ∧ xs.length ≤ 1000) ∧ C (.tup (List.replicate j.toNat xs).flatten)
  | .lst xs, .int j => ((0 ≤ j ∧ j ≤ 100000) ∧ xs.length * j.toNat ≤ 100000) ∧ C (.lst (List.replicate j.toNat xs).flatten)
  | _, _ => False
@[simp] theorem mulP_int {i j : Int} {C : D → Prop} : mulP (.int i) (.int j) C = ((CMul i j ∨ CMulW i j) ∧ C (.int (i * j))) := rfl
@[simp] theorem mulP_tup {xs : List D} {j : Int} {C : D → Prop} : mulP (.tup xs) (.int j) C = ((xs ≠ [] ∧ (2 ≤ j ∧ j ≤ 1000) ∧ xs.length ≤ 1000) ∧ C (.tup (List.replicate j.toNat xs).flatten)) := rfl
@[simp] theorem mulP_lst {xs : List D} {j : Int} {C : D → Prop} : mulP (.lst xs) (.int j) C = (((0 ≤ j ∧ j ≤ 100000) ∧ xs.length * j.toNat ≤ 100000) ∧ C (.lst (List.replicate j.toNat xs).flatten)) := rfl
def rmul : XR where
  r K := rMulA K
  pre := mulP
  ok h := by
    unfold mulP at h
    split at h
    · exact wpR_mulI h.1 h.2
    · exact wpR_mulT h.1.1 h.1.2.1 h.1.2.2 h.2
    · exact wpR_frz (wpRO_mulL h.1.1 h.1.2 h.2)
    · exact h.elim
  mono c h := by
    unfold mulP at h ⊢
    split at h <;> first | exact h.elim | exact ⟨h.1, c _ h.2⟩
def tmulP (x y : D) (C : D → Prop) : Prop := match x, y with
  | .tup xs, .int j => (xs ≠ [] ∧ (0 ≤ j ∧ j ≤ 1000) ∧ xs.length ≤ 1000) ∧ C (.tup (List.replicate j.toNat xs).flatten)
  | _, _ => False
@[simp] theorem tmulP_tup {xs : List D} {j : Int} {C : D → Prop} : tmulP (.tup xs) (.int j) C = ((xs ≠ [] ∧ (0 ≤ j ∧ j ≤ 1000) ∧ xs.length ≤ 1000) ∧ C (.tup (List.replicate j.toNat xs).flatten)) := rfl
def rtmul : XR where
  r K := rTMul K
  pre := tmulP
  ok h := by
    unfold tmulP at h
    split at h
    · exact wpR_tmul h.1.1 h.1.2.1 h.1.2.2 h.2
    · exact h.elim
  mono c h := by
    unfold tmulP at h ⊢
    split at h <;> first | exact h.elim | exact ⟨h.1, c _ h.2⟩
def req : XR where
  r K := rEqD K
  pre x y C := (pyk 64 x = true ∧ pyk 64 y = true) ∧ C (.bl (eqD x y))
  ok h := wpR_eqD h.1.1 h.1.2 h.2
  mono c h := ⟨h.1, c _ h.2⟩
def rne : XR where
  r K := rNeD K
  pre x y C := (pyk 64 x = true ∧ pyk 64 y = true) ∧ C (.bl (!eqD x y))
  ok h := wpR_neD h.1.1 h.1.2 h.2
  mono c h := ⟨h.1, c _ h.2⟩
/-- of texts -/
def S2 (C : Str → Str → Prop) : D → D → Prop
  | .str i, .str j => C i j
  | _, _ => False
@[simp] theorem S2_str {i j : Str} {C : Str → Str → Prop} : S2 C (.str i) (.str j) = C i j := rfl
theorem S2_at {x y : D} {C : Str → Str → Prop} (h : S2 C x y) : ∃ i j, x = .str i ∧ y = .str j ∧ C i j := by
  unfold S2 at h
  split at h
  · exact ⟨_, _, rfl, rfl, h⟩
  · exact h.elim
def reqS : XR where
  r _ := rEq
  pre x y C := S2 (fun i j => C (.bl (i == j))) x y
  ok h := by obtain ⟨i, j, rfl, rfl, h⟩ := S2_at h; exact wpR_eqS h
  mono c h := by obtain ⟨i, j, rfl, rfl, h⟩ := S2_at h; exact c _ h
def rneS : XR where
  r _ := rNe
  pre x y C := S2 (fun i j => C (.bl (!(i == j)))) x y
  ok h := by obtain ⟨i, j, rfl, rfl, h⟩ := S2_at h; exact wpR_neS h
  mono c h := by obtain ⟨i, j, rfl, rfl, h⟩ := S2_at h; exact c _ h
def L2b (C : Bool → Bool → Prop) : D → D → Prop
  | .bl i, .bl j => C i j
  | _, _ => False
@[simp] theorem L2b_bl {i j : Bool} {C : Bool → Bool → Prop} : L2b C (.bl i) (.bl j) = C i j := rfl
theorem L2b_at {x y : D} {C : Bool → Bool → Prop} (h : L2b C x y) : ∃ i j, x = .bl i ∧ y = .bl j ∧ C i j := by
  unfold L2b at h
  split at h
  · exact ⟨_, _, rfl, rfl, h⟩
  · exact h.elim
def risB : XR where
  r _ := rIsB'
  pre x y C := L2b (fun i j => C (.bl (i == j))) x y
  ok h := by obtain ⟨i, j, rfl, rfl, h⟩ := L2b_at h; exact wpR_isB h
  mono c h := by obtain ⟨i, j, rfl, rfl, h⟩ := L2b_at h; exact c _ h
def rnotB : XR where
  r _ := rIsNotB
  pre x y C := L2b (fun i j => C (.bl (!(i == j)))) x y
  ok h := by obtain ⟨i, j, rfl, rfl, h⟩ := L2b_at h; exact wpR_notB h
  mono c h := by obtain ⟨i, j, rfl, rfl, h⟩ := L2b_at h; exact c _ h
/-- an item -/
def ixP (x y : D) (C : D → Prop) : Prop := match x, y with
  | .tup xs, .int j => ∃ d, atI xs j = some d ∧ C d
  | .lst xs, .int j => ∃ d, atI xs j = some d ∧ C d
  | .scr ns, .int j => ∃ d, atI ns j = some d ∧ C (.int d)
  | _, _ => False
@[simp] theorem ixP_tup {xs : List D} {j : Int} {C : D → Prop} : ixP (.tup xs) (.int j) C = ∃ d, atI xs j = some d ∧ C d := rfl
@[simp] theorem ixP_lst {xs : List D} {j : Int} {C : D → Prop} : ixP (.lst xs) (.int j) C = ∃ d, atI xs j = some d ∧ C d := rfl
@[simp] theorem ixP_scr {xs : List Int} {j : Int} {C : D → Prop} : ixP (.scr xs) (.int j) C = ∃ d, atI xs j = some d ∧ C (.int d) := rfl
def rix : XR where
  r K := rIx K
  pre := ixP
  ok h := by
    unfold ixP at h
    split at h
    · obtain ⟨d, e, h⟩ := h; exact wpR_ixT e h
    · obtain ⟨d, e, h⟩ := h; exact wpR_ixL e h
    · obtain ⟨d, e, h⟩ := h; exact wpR_ixS e h
    · exact h.elim
  mono c h := by
    unfold ixP at h ⊢
    split at h <;> first | exact h.elim | (obtain ⟨d, e, h⟩ := h; exact ⟨d, e, c _ h⟩)
/-! ### in a list or a tuple -/
def inP (neg : Bool) (x y : D) (C : D → Prop) : Prop := match y with
  | .lst ys => (pyk 64 x = true ∧ pyks 63 ys = true) ∧ C (.bl (if neg = true then !ys.any fun z => eqD z x else ys.any fun z => eqD z x))
  | _ => False
@[simp] theorem inP_lst {neg : Bool} {x : D} {ys : List D} {C : D → Prop} : inP neg x (.lst ys) C = ((pyk 64 x = true ∧ pyks 63 ys = true) ∧ C (.bl (if neg = true then !ys.any fun z => eqD z x else ys.any fun z => eqD z x))) := rfl
theorem any_pys {x : D} : ∀ (ys : List D), (pys ys).any (fun z => PyData.eqv z (py x)) = ys.any fun z => eqD z x
  | [] => rfl
  | y :: ys => by
    show (PyData.eqv (py y) (py x) || (pys ys).any _) = (eqD y x || ys.any _)
    rw [any_pys ys]; rfl
theorem op_inDK {X : Cx} {K : Fr} (hu : X.A.units + 64 < cLine) (h : X.K = K := by rfl) : X.A.units + 65 < cLine → OpR X (compareOp .In) (rInD K) := fun hu => by subst h; exact op_inD hu
theorem op_notInDK {X : Cx} {K : Fr} (hu : X.A.units + 64 < cLine) (h : X.K = K := by rfl) : X.A.units + 65 < cLine → OpR X (compareOp .NotIn) (rNotInD K) := fun hu => by subst h; exact op_notInD hu
def rin : XR where
  r K := rInD K
  pre x y C := inP false x y C
  ok h := by
    unfold inP at h
    split at h
    · rename_i ys
      obtain ⟨⟨h1, h2⟩, c⟩ := h
      intro S H v w lv rx ry Q q
      have hy : pyk 64 (.lst ys) = true := h2
      refine ⟨_, _, Rep.dp 64 _ _ h1 rx, Rep.dp 64 _ _ hy ry, py_shaped h1, py_shaped hy, ?_⟩
      rw [any_pys]
      exact q _ (.bl _) H (Ext.refl H) rfl c
    · exact h.elim
  mono c h := by
    unfold inP at h ⊢
    split at h <;> first | exact h.elim | exact ⟨h.1, c _ h.2⟩
def rnotin : XR where
  r K := rNotInD K
  pre x y C := inP true x y C
  ok h := by
    unfold inP at h
    split at h
    · rename_i ys
      obtain ⟨⟨h1, h2⟩, c⟩ := h
      intro S H v w lv rx ry Q q
      have hy : pyk 64 (.lst ys) = true := h2
      refine ⟨_, _, Rep.dp 64 _ _ h1 rx, Rep.dp 64 _ _ hy ry, py_shaped h1, py_shaped hy, ?_⟩
      rw [any_pys]
      exact q _ (.bl _) H (Ext.refl H) rfl c
    · exact h.elim
  mono c h := by
    unfold inP at h ⊢
    split at h <;> first | exact h.elim | exact ⟨h.1, c _ h.2⟩
/-! ### built-ins -/
def lenP (ds : List D) (C : D → Prop) : Prop := match ds with
  | [.tup xs] => C (.int xs.length)
  | [.lst xs] => C (.int xs.length)
  | [.scr ns] => C (.int ns.length)
  | _ => False
@[simp] theorem lenP_tup {xs : List D} {C : D → Prop} : lenP [.tup xs] C = C (.int xs.length) := rfl
@[simp] theorem lenP_lst {xs : List D} {C : D → Prop} : lenP [.lst xs] C = C (.int xs.length) := rfl
@[simp] theorem lenP_scr {xs : List Int} {C : D → Prop} : lenP [.scr xs] C = C (.int xs.length) := rfl
def blen : XB where
  r K := bLen K
  pre := lenP
  ok h := by
    unfold lenP at h
    split at h
    · exact wpB_lenT h
    · exact wpB_lenL h
    · exact wpB_lenS h
    · exact h.elim
  mono c h := by
    unfold lenP at h ⊢
    split at h <;> first | exact h.elim | exact c _ h
def intP (ds : List D) (C : D → Prop) : Prop := match ds with
  | [.int i] => C (.int i)
  | [.bl b] => C (.int (if b = true then 1 else 0))
  | _ => False
@[simp] theorem intP_int {i : Int} {C : D → Prop} : intP [.int i] C = C (.int i) := rfl
@[simp] theorem intP_bl {b : Bool} {C : D → Prop} : intP [.bl b] C = C (.int (if b = true then 1 else 0)) := rfl
def bint : XB where
  r _ := bInt
  pre := intP
  ok h := by
    unfold intP at h
    split at h
    · exact wpB_intI h
    · exact wpB_intB h
    · exact h.elim
  mono c h := by
    unfold intP at h ⊢
    split at h <;> first | exact h.elim | exact c _ h
def absP (ds : List D) (C : D → Prop) : Prop := match ds with
  | [.int i] => C (.int (if i < 0 then -i else i))
  | _ => False
@[simp] theorem absP_int {i : Int} {C : D → Prop} : absP [.int i] C = C (.int (if i < 0 then -i else i)) := rfl
def babs : XB where
  r _ := bAbs
  pre := absP
  ok h := by
    unfold absP at h
    split at h
    · exact wpB_abs h
    · exact h.elim
  mono c h := by
    unfold absP at h ⊢
    split at h <;> first | exact h.elim | exact c _ h
/-- ints of a list of trees, if they are ints -/
def intsOf : List D → Option (List Int)
  | [] => some []
  | .int i :: r => (intsOf r).map (i :: ·)
  | _ :: _ => none
@[simp] theorem intsOf_map : ∀ ns : List Int, intsOf (ns.map D.int) = some ns
  | [] => rfl
  | n :: r => by show (intsOf (r.map D.int)).map (n :: ·) = _; rw [intsOf_map r]; rfl
theorem of_intsOf : ∀ {ds : List D} {ns : List Int}, intsOf ds = some ns → ds = ns.map D.int
  | [], ns, h => by cases h; rfl
  | .int i :: r, ns, h => by
    unfold intsOf at h
    cases e : intsOf r with
    | none => rw [e] at h; cases h
    | some ms => rw [e] at h; cases h; rw [of_intsOf e]; rfl
def seqOf : D → Option (List D)
  | .tup xs => some xs
  | .lst xs => some xs
  | _ => none
def isMax (m : Int) (ns : List Int) : Prop := m ∈ ns ∧ ∀ y ∈ ns, y ≤ m
def isMin (m : Int) (ns : List Int) : Prop := m ∈ ns ∧ ∀ y ∈ ns, m ≤ y
def sumP (ds : List D) (C : D → Prop) : Prop := match ds with
  | [d] => ∃ xs, seqOf d = some xs ∧ ∃ ns, intsOf xs = some ns ∧ C (.int ns.sum)
  | _ => False
@[simp] theorem sumP_tup {ns : List Int} {C : D → Prop} : sumP [.tup (ns.map D.int)] C = C (.int ns.sum) := by simp [sumP, seqOf]
@[simp] theorem sumP_lst {ns : List Int} {C : D → Prop} : sumP [.lst (ns.map D.int)] C = C (.int ns.sum) := by simp [sumP, seqOf]
def bsum : XB where
  r K := bSum K
  pre := sumP
  ok h := by
    unfold sumP at h
    split at h
    · rename_i d
      obtain ⟨xs, e, ns, e2, h⟩ := h
      have e2 := of_intsOf e2
      subst e2
      cases d <;> first | (cases e; exact wpB_sumT h) | (cases e; exact wpB_sumL h) | cases e
    · exact h.elim
  mono c h := by
    unfold sumP at h ⊢
    split at h
    · obtain ⟨xs, e, ns, e2, h⟩ := h
      exact ⟨xs, e, ns, e2, c _ h⟩
    · exact h.elim
def tupP (ds : List D) (C : D → Prop) : Prop := match ds with
  | [.lst xs] => C (.tup xs)
  | [.tup xs] => C (.tup xs)
  | _ => False
@[simp] theorem tupP_lst {xs : List D} {C : D → Prop} : tupP [.lst xs] C = C (.tup xs) := rfl
@[simp] theorem tupP_tup {xs : List D} {C : D → Prop} : tupP [.tup xs] C = C (.tup xs) := rfl
def btup : XB where
  r K := bTup K
  pre := tupP
  ok h := by
    unfold tupP at h
    split at h
    · exact wpB_tupL h
    · exact wpB_tupT h
    · exact h.elim
  mono c h := by
    unfold tupP at h ⊢
    split at h <;> first | exact h.elim | exact c _ h
def lstP (ds : List D) (C : List D → Prop) : Prop := match ds with
  | [.lst xs] => C xs
  | [.tup xs] => C xs
  | _ => False
@[simp] theorem lstP_lst {xs : List D} {C : List D → Prop} : lstP [.lst xs] C = C xs := rfl
@[simp] theorem lstP_tup {xs : List D} {C : List D → Prop} : lstP [.tup xs] C = C xs := rfl
def blst : XBO where
  r K := bLst K
  pre := lstP
  ok h := by
    unfold lstP at h
    split at h
    · exact wpBO_lstL h
    · exact wpBO_lstT h
    · exact h.elim
  mono c h := by
    unfold lstP at h ⊢
    split at h <;> first | exact h.elim | exact c _ h
def bolOf : List D → Option (List Bool)
  | [] => some []
  | .bl i :: r => (bolOf r).map (i :: ·)
  | _ :: _ => none
@[simp] theorem bolOf_map : ∀ ns : List Bool, bolOf (ns.map D.bl) = some ns
  | [] => rfl
  | n :: r => by show (bolOf (r.map D.bl)).map (n :: ·) = _; rw [bolOf_map r]; rfl
theorem of_bolOf : ∀ {ds : List D} {ns : List Bool}, bolOf ds = some ns → ds = ns.map D.bl
  | [], ns, h => by cases h; rfl
  | .bl i :: r, ns, h => by
    unfold bolOf at h
    cases e : bolOf r with
    | none => rw [e] at h; cases h
    | some ms => rw [e] at h; cases h; rw [of_bolOf e]; rfl
def allP (ds : List D) (C : D → Prop) : Prop := match ds with
  | [.lst xs] => ∃ bs, bolOf xs = some bs ∧ C (.bl (bs.all id))
  | _ => False
@[simp] theorem allP_lst {bs : List Bool} {C : D → Prop} : allP [.lst (bs.map D.bl)] C = C (.bl (bs.all id)) := by simp [allP]
def ball : XB where
  r K := bAll K
  pre := allP
  ok h := by
    unfold allP at h
    split at h
    · obtain ⟨bs, e, h⟩ := h
      have e := of_bolOf e
      subst e
      exact wpB_all h
    · exact h.elim
  mono c h := by
    unfold allP at h ⊢
    split at h
    · obtain ⟨bs, e, h⟩ := h; exact ⟨bs, e, c _ h⟩
    · exact h.elim
def anyP (ds : List D) (C : D → Prop) : Prop := match ds with
  | [.lst xs] => ∃ bs, bolOf xs = some bs ∧ C (.bl (bs.any id))
  | _ => False
@[simp] theorem anyP_lst {bs : List Bool} {C : D → Prop} : anyP [.lst (bs.map D.bl)] C = C (.bl (bs.any id)) := by simp [anyP]
def bany : XB where
  r K := bAny K
  pre := anyP
  ok h := by
    unfold anyP at h
    split at h
    · obtain ⟨bs, e, h⟩ := h
      have e := of_bolOf e
      subst e
      exact wpB_any h
    · exact h.elim
  mono c h := by
    unfold anyP at h ⊢
    split at h
    · obtain ⟨bs, e, h⟩ := h; exact ⟨bs, e, c _ h⟩
    · exact h.elim
def divmodP (ds : List D) (C : D → Prop) : Prop := match ds with
  | [.int i, .int j] => CDivP i j ∧ C (.tup [.int (i / j), .int (i % j)])
  | _ => False
@[simp] theorem divmodP_int {i j : Int} {C : D → Prop} : divmodP [.int i, .int j] C = (CDivP i j ∧ C (.tup [.int (i / j), .int (i % j)])) := rfl
def bdivmod : XB where
  r _ := bDivmod
  pre := divmodP
  ok h := by
    unfold divmodP at h
    split at h
    · exact wpB_divmod h.1 h.2
    · exact h.elim
  mono c h := by
    unfold divmodP at h ⊢
    split at h <;> first | exact h.elim | exact ⟨h.1, c _ h.2⟩
def srtP (ds : List D) (C : D → Prop) : Prop := match ds with
  | [d] => (∃ xs, seqOf d = some xs ∧ ∃ ns, intsOf xs = some ns ∧ C (.lst ((up ns).map .int))) ∨ ∃ p ps, d = .lst ((p :: ps).map SQ.pairD) ∧ C (.lst ((upP (p :: ps)).map SQ.pairD))
  | _ => False
@[simp] theorem srtP_tup {ns : List Int} {C : D → Prop} : srtP [.tup (ns.map D.int)] C = C (.lst ((up ns).map .int)) := by simp [srtP, seqOf]
@[simp] theorem srtP_lst {ns : List Int} {C : D → Prop} : srtP [.lst (ns.map D.int)] C = C (.lst ((up ns).map .int)) := by
  refine propext ⟨fun h => ?_, fun h => .inl (by simp [seqOf, h])⟩
  rcases h with h | ⟨p, ps, e, _⟩
  · simpa [seqOf] using h
  · cases ns <;> simp [SQ.pairD] at e
theorem srtP_pairs {ps : List (Int × Int)} {C : D → Prop} : srtP [.lst (ps.map SQ.pairD)] C = C (.lst ((upP ps).map SQ.pairD)) := by
  cases ps with
  | nil =>
    have := srtP_lst (ns := []) (C := C)
    simpa [up, upP] using this
  | cons p ps =>
    refine propext ⟨fun h => ?_, fun h => .inr ⟨p, ps, rfl, h⟩⟩
    rcases h with ⟨xs, e, ns, e2, h⟩ | ⟨q, qs, e, h⟩
    · have e2 := of_intsOf e2
      subst e2
      cases ns <;> simp [seqOf, SQ.pairD] at e
    · have e : (p :: ps).map SQ.pairD = (q :: qs).map SQ.pairD := D.lst.inj e
      have inj : ∀ {l l' : List (Int × Int)}, l.map SQ.pairD = l'.map SQ.pairD → l = l' := by
        intro l
        induction l with
        | nil => intro l' h; cases l' <;> first | rfl | simp at h
        | cons x l ih =>
          intro l' h
          cases l' with
          | nil => simp at h
          | cons y l' =>
            simp only [List.map_cons, List.cons.injEq, SQ.pairD, D.tup.injEq, D.int.injEq, and_true] at h
            rw [ih h.2, Prod.ext h.1.1 h.1.2]
      rw [inj e]; exact h
def bsrt : XB where
  r K := bSrt2 K
  pre := srtP
  ok h := by
    unfold srtP at h
    split at h
    · rename_i d
      rcases h with ⟨xs, e, ns, e2, h⟩ | ⟨p, ps, e, h⟩
      · have e2 := of_intsOf e2
        subst e2
        refine wpB_srt2 ?_
        cases d <;> first | (cases e; exact wpB_srtT h) | (cases e; exact wpB_srtL h) | cases e
      · subst e; exact wpB_srt2P h
    · exact h.elim
  mono c h := by
    unfold srtP at h ⊢
    split at h
    · rcases h with ⟨xs, e, ns, e2, h⟩ | ⟨p, ps, e, h⟩
      · exact .inl ⟨xs, e, ns, e2, c _ h⟩
      · exact .inr ⟨p, ps, e, c _ h⟩
    · exact h.elim
variable {G : Fr → Prop}
/-- sorted(.., reverse=True) -/
def srtR (a : XA G) : XO G where
  te K E := tCKw (bSrtR K) (a.te K E) (tCons (tC (.bl true)) tNil)
  pre B X ss C := a.pre B X ss fun ds => match ds with
    | [d] => ∃ xs, seqOf d = some xs ∧ ∃ ns, intsOf xs = some ns ∧ C ((down ns).map .int)
    | _ => False
  ok g h := wpO_srtR (wpA_mono (a.ok g h) fun ds h => by
    split at h
    · rename_i d
      obtain ⟨xs, e, ns, e2, h⟩ := h
      have e2 := of_intsOf e2
      subst e2
      refine ⟨ns, ?_, fun ns' p q => ?_⟩
      · cases d <;> first | (cases e; exact .inl rfl) | (cases e; exact .inr rfl) | cases e
      · rw [down_of p q]; exact h
    · exact h.elim)
  mono l x c h := a.mono l x (fun ds h => by
    split at h
    · obtain ⟨xs, e, ns, e2, h⟩ := h
      exact ⟨xs, e, ns, e2, c _ h⟩
    · exact h.elim) h
/-! ### types -/
def isiP (ds : List D) (C : D → Prop) : Prop := match ds with
  | [d, .ty m] => ∃ n, tyName d = some n ∧ ∃ b, kitB n m = some b ∧ C (.bl b)
  | _ => False
theorem isiP_ty {d : D} {m : String} {C : D → Prop} : isiP [d, .ty m] C = ∃ n, tyName d = some n ∧ ∃ b, kitB n m = some b ∧ C (.bl b) := rfl
def bisi : XB where
  r K := bIsi K
  pre := isiP
  ok h := by
    unfold isiP at h
    split at h
    · obtain ⟨n, e, b, e2, h⟩ := h; exact wpB_isi e e2 h
    · exact h.elim
  mono c h := by
    unfold isiP at h ⊢
    split at h
    · obtain ⟨n, e, b, e2, h⟩ := h; exact ⟨n, e, b, e2, c _ h⟩
    · exact h.elim
/-! ### shown -/
def reprP (ds : List D) (C : D → Prop) : Prop := match ds with
  | [d] => shw d = true ∧ C (.str (rp d).shown)
  | _ => False
@[simp] theorem reprP_one {d : D} {C : D → Prop} : reprP [d] C = (shw d = true ∧ C (.str (rp d).shown)) := rfl
def brepr : XB where
  r K := rReprA K
  pre := reprP
  ok h := by
    unfold reprP at h
    split at h
    · exact wpB_reprA h.1 h.2
    · exact h.elim
  mono c h := by
    unfold reprP at h ⊢
    split at h <;> first | exact h.elim | exact ⟨h.1, c _ h.2⟩
/-! ### slices -/
structure XPt (G : Fr → Prop) where
  te : Fr → XK → TO
  pre : Sc → XP → List Sl → (Option Int → Prop) → Prop
  ok : ∀ {K : Fr} {Γ : Cxt} {ss : List Sl} {C : Option Int → Prop}, G K → pre (sc Γ) Γ.X ss C → wpP K Γ (te K Γ.E) ss C
  mono : ∀ {B B' : Sc} {X X' : XP} {ss : List Sl} {C C' : Option Int → Prop}, Sc.le B B' → (∀ x, X x → X' x) → (∀ d, C d → C' d) → pre B X ss C → pre B' X' ss C'
def pno : XPt G := ⟨fun _ _ => tNoPart, fun _ _ _ C => C none, fun _ h => wpP_no h, fun _ _ c h => c _ h⟩
def psome (a : XE G) : XPt G where
  te K E := tPart (a.te K E)
  pre B X ss C := a.pre B X ss fun d => ∃ i, d = .int i ∧ C (some i)
  ok g h := wpP_some (a.ok g h)
  mono l x c h := a.mono l x (fun d h => by obtain ⟨i, e, h⟩ := h; exact ⟨i, e, c _ h⟩) h
theorem wpP_mono {K : Fr} {Γ : Cxt} {ss : List Sl} {te : TO} {C C' : Option Int → Prop} (h : wpP K Γ te ss C) (m : ∀ d, C d → C' d) : wpP K Γ te ss C' := fun H0 σ H τ hl I Q q => h H0 σ H τ hl I Q fun v H2 J c => q v H2 J (m v c)
def cutP (d : D) (lo hi : Option Int) (C : D → Prop) : Prop := match d with
  | .tup xs => C (.tup (cutD xs lo hi))
  | .lst xs => C (.lst (cutD xs lo hi))
  | _ => False
@[simp] theorem cutP_tup {xs : List D} {lo hi : Option Int} {C : D → Prop} : cutP (.tup xs) lo hi C = C (.tup (cutD xs lo hi)) := rfl
@[simp] theorem cutP_lst {xs : List D} {lo hi : Option Int} {C : D → Prop} : cutP (.lst xs) lo hi C = C (.lst (cutD xs lo hi)) := rfl
def slc (a : XE G) (lo hi : XPt G) : XE G where
  te K E := L2.tSl (rSlc K) (a.te K E) (lo.te K E) (hi.te K E)
  pre B X ss C := a.pre B X ss fun d => lo.pre B X ss fun i => hi.pre B X ss fun j => cutP d i j C
  ok g h := wpE_sl ((a.ok g h).mono fun d h => wpP_mono (lo.ok g h) fun i h => wpP_mono (hi.ok g h) fun j h => by
    unfold cutP at h
    split at h
    · exact wpC_T h
    · exact wpC_L h
    · exact h.elim)
  mono l x c h := a.mono l x (fun d h => lo.mono l x (fun i h => hi.mono l x (fun j h => by
    unfold cutP at h ⊢
    split at h <;> first | exact h.elim | exact c _ h) h) h) h
/-- xs[::-1] -/
def revL (a : XE G) : XO G where
  te K E := tRevL K (a.te K E)
  pre B X ss C := a.pre B X ss fun d => match d with
    | .lst xs => C xs.reverse
    | _ => False
  ok g h := wpO_revL ((a.ok g h).mono fun d h => by
    cases d <;> first | exact h.elim | exact ⟨_, rfl, h⟩)
  mono l x c h := a.mono l x (fun d h => by cases d <;> first | exact h.elim | exact c _ h) h
def revT (a : XE G) : XE G where
  te K E := tRevT K (a.te K E)
  pre B X ss C := a.pre B X ss fun d => match d with
    | .tup xs => C (.tup xs.reverse)
    | _ => False
  ok g h := wpE_revT ((a.ok g h).mono fun d h => by
    cases d <;> first | exact h.elim | exact ⟨_, rfl, h⟩)
  mono l x c h := a.mono l x (fun d h => by cases d <;> first | exact h.elim | exact c _ h) h
/-! ### dicts that are written -/
def dnew : XE G := ⟨fun _ _ => tDNewK, fun _ _ _ C => C (.dk [] []), fun _ h => wpE_dnew h, fun _ _ c h => c _ h⟩
def ddisp1 (i j : Int) : XE G := ⟨fun _ _ => tDisp [(tC (.int i), tC (.int j))], fun _ _ _ C => C (.dk [.inl i] [.int j]), fun _ h => wpE_disp1 h, fun _ _ c h => c _ h⟩
/-! ### lambdas that are told to the def that makes errors to values -/
def lamX (T0 : List (Addr × Str)) (outs : Fr → Value → Option Addr → Hp → VK → Prop) (oX : Exc → (D → Prop) → Prop) (hO : ∀ {K : Fr} {x : Exc} {C : D → Prop}, G K → oX x C → wpX K (outs K) x C) (mO : ∀ {x : Exc} {C C' : D → Prop}, (∀ d, C d → C' d) → oX x C → oX x C') (a : XE G) : XE G where
  te K E := LamX.tLam T0 (tOut (outs K)) fun E => a.te K E
  pre B X ss C := B.tb T0 ∧ ∀ B', Sc.le B B' → a.pre B' (fun x => oX x C) (deown ss) C
  ok g h := wpE_lam h.1 fun Γ' E l e1 e2 => by
    subst e1
    refine a.ok g ?_
    rw [e2]
    exact a.mono (le_refl _) (fun x h => hO g h) (fun d h => h) (h.2 _ l)
  mono l x c h := ⟨l.tb _ h.1, fun B' l' => a.mono (le_refl _) (fun x h => mO c h) c (h.2 B' ⟨fun p b => l'.b p (l.b p b), fun T t => l'.tb T (l.tb T t)⟩)⟩
/-! ### bowls -/
def FB : Sc → List D → (List D → Prop) → (Exc → Prop) → Prop := fun _ ds C _ => ∃ (ns : List Int) (i : Nat), ds = [.scr ns, .int i] ∧ i ≤ 1000 ∧ ∀ a b : Int, C [.int a, .int b, .int 0]
/-- f(bowl(script, at)) -/
def callBowl (f : XF) (a : XA G) : XE G where
  te K E := tCall (spF K f.F) [] E0 (tCons (tCall (spO K FB) [] E0 (a.te K E)) tNil)
  pre B X ss C := a.pre B X ss fun ds => (∃ (ns : List Int) (i : Nat), ds = [.scr ns, .int i] ∧ i ≤ 1000) ∧ ∀ (B' : Sc) (p : Addr), B' p → (∀ T, B.tb T → B'.tb T) → f.F B' [.cell p] C fun _ => False
  ok g h := wpE_callBowl (fun B B' ds C X m h => f.mono m (fun _ h => h) (fun _ h => h) h) (wpO_call0 (fun B B' ds C X m h => h) (wpA_mono (a.ok g h) fun ds h => by
    obtain ⟨⟨ns, i, e, hi⟩, h⟩ := h
    exact ⟨ns, i, e, hi, fun x y => ⟨⟨x, y, 0, rfl⟩, fun B p b t => h B p b t⟩⟩))
  mono l x c h := a.mono l x (fun ds h => ⟨h.1, fun B' p b t => f.mono (le_refl _) (fun _ h => h) c (h.2 B' p b fun T z => t T (l.tb T z))⟩) h
/-- b = bowl(script, at); the rest -/
def bowlS (i : Nat) (a : XA G) (s : XS G) : XS G where
  te K E := tSeq (tAsg (tCall (spO K FB) [] E0 (a.te K E)) (gName i)) (s.te K E)
  pre B X ss e := i < ss.length ∧ a.pre B X ss fun ds => (∃ (ns : List Int) (i : Nat), ds = [.scr ns, .int i] ∧ i ≤ 1000) ∧ ∀ (B' : Sc) (p : Addr), B' p → Sc.le B B' → s.pre B' X (ss.set i (.val (.cell p))) e
  ok g h := by
    refine wpS_seq (wpS_setO h.1 (wpO_call0 (fun B B' ds C X m h => h) (wpA_mono (a.ok g h.2) fun ds hh => ?_)))
    obtain ⟨⟨ns, k, e, hk⟩, hs⟩ := hh
    refine ⟨ns, k, e, hk, fun x y => ?_⟩
    refine wpS_bowl (i := i) (a := x) (b := y) (c := 0) (by simp [h.1]) fun p hp ok => ?_
    have := hs (sc (Cxt.add _ p)) p (bowl_new ok hp) ⟨fun q b => bowl_old hp b, fun T t => tb_add t⟩
    rw [List.set_set]
    exact s.ok g this
  mono l x m h := ⟨h.1, a.mono l x (fun ds h => ⟨h.1, fun B' p b t => s.mono (le_refl _) x m (h.2 B' p b ⟨fun q z => t.b q (l.b q z), fun T z => t.tb T (l.tb T z)⟩)⟩) h.2⟩
/-- a draw -/
def ladleF : XF where
  F B ds C _ := match ds with
    | [.cell p, .int n] => (B p ∧ 0 < n ∧ n < 2 ^ 200) ∧ ∀ r, 0 ≤ r → r < n → C (.int r)
    | _ => False
  mono l x c h := by
    split at h
    · exact ⟨⟨l.b _ h.1.1, h.1.2⟩, fun r a b => c _ (h.2 r a b)⟩
    · exact h.elim
end XQ
/-! own errors, what they are made to; targets within targets -/
namespace XQ
open PySem PySem.Spec PyProof.Rows L2 SQ
inductive XN where
  | sums | operation | number | many | table | web | tournament | filling | undo | parse | unknown | refused | command
deriving DecidableEq
structure Ve where
  cls : XN → Addr
  inj : ∀ a b, cls a = cls b → a = b
  names : List XN
  T0 : List (Addr × Str)
@[simp] theorem Ve.cls_eq (V : Ve) {a b : XN} : (V.cls a = V.cls b) = (a = b) := propext ⟨V.inj a b, fun h => by rw [h]⟩
structure Good (V : Ve) (K : Fr) : Prop where
  ex : ∀ a b, a ∈ V.names → b ∈ V.names → PySem.W.exmOne K (.ref (V.cls a)) (.ref (V.cls b)) = some (decide (a = b))
abbrev Cl := XN × Option Str × Str
def clsL (V : Ve) (l : List Cl) : List Cls3 := l.map fun c => match c.2.1 with
  | none => ⟨.ref (V.cls c.1), none, fun _ _ _ => tRet (tLst (tCons (tC (.str c.2.2)) tNil))⟩
  | some fl => ⟨.ref (V.cls c.1), some 1, fun a cls d => tRet (tLst (tCons (tC (.str c.2.2)) (tCons (tBy1 (V.cls c.1) fl a cls d (tVar 1)) tNil)))⟩
def oX (V : Ve) : List Cl → Exc → (D → Prop) → Prop
  | [], _, _ => False
  | (n, f, w) :: r, x, C => if x.cls = V.cls n then (match f with
      | none => C (.lst [.str w])
      | some fl => match x.ns, x.ds with
        | [g], [v] => g = fl ∧ C (.lst [.str w, v])
        | _, _ => False) else oX V r x C
@[simp] theorem oX_cons {V : Ve} {n : XN} {f : Option Str} {w : Str} {r : List Cl} {x : Exc} {C : D → Prop} : oX V ((n, f, w) :: r) x C = if x.cls = V.cls n then (match f with
      | none => C (.lst [.str w])
      | some fl => match x.ns, x.ds with
        | [g], [v] => g = fl ∧ C (.lst [.str w, v])
        | _, _ => False) else oX V r x C := rfl
theorem oX_mono {V : Ve} : ∀ {l : List Cl} {x : Exc} {C C' : D → Prop}, (∀ d, C d → C' d) → oX V l x C → oX V l x C'
  | [], _, _, _, _, h => h
  | (n, f, w) :: r, x, C, C', c, h => by
    rw [oX_cons] at h ⊢
    split
    · rename_i z
      rw [if_pos z] at h
      cases f with
      | none => exact c _ h
      | some fl =>
        simp only at h ⊢
        split at h
        · exact ⟨h.1, c _ h.2⟩
        · exact h.elim
    · rename_i z
      rw [if_neg z] at h
      exact oX_mono c h
theorem oX_in {V : Ve} : ∀ {l : List Cl} {x : Exc} {C : D → Prop}, oX V l x C → ∃ c ∈ l, x.cls = V.cls c.1
  | [], _, _, h => h.elim
  | (n, f, w) :: r, x, C, h => by
    rw [oX_cons] at h
    split at h
    · rename_i z; exact ⟨_, List.mem_cons_self, z⟩
    · obtain ⟨c, m, e⟩ := oX_in h; exact ⟨c, List.mem_cons_of_mem _ m, e⟩
theorem oX_ok {V : Ve} {K : Fr} {l0 : List Cl} (hn : ∀ c ∈ l0, c.1 ∈ V.names) (g : Good V K) {x : Exc} {C : D → Prop} (h : oX V l0 x C) : wpX K (outsL K 2 (clsL V l0)) x C := fun S H cls d lv rx Q q σ hσ => by
  obtain ⟨c0, m0, e0⟩ := oX_in h
  have hm : c0.1 ∈ V.names := hn _ m0
  have ec : cls = .ref (V.cls c0.1) := by rw [← e0]; exact rx.1
  have key : ∀ l : List Cl, (∀ c ∈ l, c.1 ∈ V.names) → oX V l x C → wMix K (fun _ _ _ _ => False) { nx := fun _ H' => Q .non H', rt := Q } (clsL V l) cls d σ H := by
    intro l
    induction l with
    | nil => intro _ h; exact h.elim
    | cons c r ih =>
      intro hn h
      obtain ⟨n, f, w⟩ := c
      rw [oX_cons] at h
      have e1 := g.ex c0.1 n hm (hn _ List.mem_cons_self)
      by_cases hc : c0.1 = n
      · rw [if_pos (by rw [e0, hc])] at h
        refine ⟨true, ?_, fun _ a ha => ?_, fun h => absurd h (by decide)⟩
        · rw [ec]
          cases f <;> (show PySem.W.exmOne K _ (.ref (V.cls n)) = _; rw [e1, hc]; simp)
        · cases f with
          | none =>
            show tRet (tLst (tCons (tC (.str w)) tNil)) _ σ H
            refine suite_bare (C := C) lv q fun n => ?_
            walk_at "wk"
            exact h
          | some fl =>
            simp only at h
            split at h
            · rename_i g v hns hds
              obtain ⟨rfl, h⟩ := h
              exact suite_field (C := C) rfl (by omega) lv rx (by rw [e0, hc]) hns hds q h
            · exact h.elim
      · have hne : ¬ (x.cls = V.cls n) := by rw [e0, V.cls_eq]; exact hc
        rw [if_neg hne] at h
        refine ⟨false, ?_, fun h => absurd h (by decide), fun _ => ih (fun c m => hn c (List.mem_cons_of_mem _ m)) h⟩
        rw [ec]
        cases f <;> (show PySem.W.exmOne K _ (.ref (V.cls n)) = _; rw [e1]; simp [hc])
  exact key l0 hn h
/-- outcome(lambda: a) -/
def outc (V : Ve) (l : List Cl) (hn : ∀ c ∈ l, c.1 ∈ V.names) (a : XE (Good V)) : XE (Good V) :=
  lamX V.T0 (fun K => outsL K 2 (clsL V l)) (fun x C => oX V l x C) (fun g h => oX_ok hn g h) (fun c h => oX_mono c h) a
/-! ### targets -/
theorem wipe_more {σ τ : L2.St} {us vs : List Nat} (hl : σ.length = τ.length) (h : ∀ i ∈ us, i ∈ vs) (e : wipe σ us = wipe τ us) : wipe σ vs = wipe τ vs := by
  refine wipe_ext hl fun i hi => ?_
  have hu : i ∉ us := fun z => hi (h i z)
  rw [← wipe_notin hu, e, wipe_notin hu]
theorem wipeS_more {σ τ : List Sl} {us vs : List Nat} (hl : σ.length = τ.length) (h : ∀ i ∈ us, i ∈ vs) (e : wipeS σ us = wipeS τ us) : wipeS σ vs = wipeS τ vs := by
  refine wipeS_ext hl fun i hi => ?_
  have hu : i ∉ us := fun z => hi (h i z)
  rw [← wipeS_notin hu, e, wipeS_notin hu]
theorem wipe_len_of {σ τ : L2.St} {us : List Nat} (e : wipe σ us = wipe τ us) : σ.length = τ.length := by
  rw [← wipe_length σ us, e, wipe_length]
theorem wipeS_len_of {σ τ : List Sl} {us : List Nat} (e : wipeS σ us = wipeS τ us) : σ.length = τ.length := by
  rw [← wipeS_length σ us, e, wipeS_length]
def wpGs (K : Fr) (Γ : Cxt) (us : List Nat) (g : TGs) (ds : List D) (ss : List Sl) (C : List Sl → Prop) : Prop := ∀ H0 σ H τ xs, σ.length = ss.length → ds.length = xs.length → Env K Γ H0 H (pile ds xs ++ (ss.zip σ ++ τ)) →
  ∀ Q : L2.St → Hp → Prop, (∀ ss' σ' H', σ'.length = ss'.length → wipe σ' us = wipe σ us → wipeS ss' us = wipeS ss us → Env K Γ H0 H' (ss'.zip σ' ++ τ) → C ss' → Q σ' H') → g xs σ H Q
structure XGs where
  us : List Nat
  te : Fr → TGs
  pre : List D → List Sl → (List Sl → Prop) → Prop
  ok : ∀ {K : Fr} {Γ : Cxt} {d : List D} {ss : List Sl} {C : List Sl → Prop}, pre d ss C → wpGs K Γ us (te K) d ss C
  mono : ∀ {d : List D} {ss : List Sl} {C C' : List Sl → Prop}, (∀ s, C s → C' s) → pre d ss C → pre d ss C'
def gnil : XGs where
  us := []
  te _ := gNil
  pre d ss C := d = [] ∧ C ss
  ok h := by
    obtain ⟨rfl, c⟩ := h
    intro H0 σ H τ xs hl hx I Q q
    have : xs = [] := List.length_eq_zero_iff.mp hx.symm
    subst this
    exact ⟨rfl, q _ σ H hl rfl rfl I c⟩
  mono m h := ⟨h.1, m _ h.2⟩
def gcons (g : XG) (r : XGs) : XGs where
  us := g.us ++ r.us
  te K := gCons (g.te K) (r.te K)
  pre d ss C := match d with
    | x :: xs => g.pre x ss fun s2 => r.pre xs s2 C
    | [] => False
  ok h := by
    split at h
    · rename_i d x xs
      intro H0 σ H τ vs hl hx I Q q
      match vs, hx with
      | v :: vs, hx =>
        refine ⟨v, vs, rfl, ?_⟩
        have hx' : xs.length = vs.length := by simpa using hx
        have I2 : Env _ _ H0 H ((.val x, some v) :: (_ ++ (pile xs vs ++ τ))) := I.perm (by
          rw [pile_cons, List.cons_append]
          refine List.Perm.cons _ ?_
          rw [← List.append_assoc, ← List.append_assoc]
          exact List.perm_append_comm.append_right _)
        refine g.ok h H0 σ H (pile xs vs ++ τ) v hl I2 _ fun s2 σ2 H2 hl2 e1 e2 I3 h2 => ?_
        refine r.ok h2 H0 σ2 H2 τ vs hl2 hx' (I3.perm (by
          rw [← List.append_assoc, ← List.append_assoc]
          exact List.perm_append_comm.append_right _)) _ fun s3 σ3 H3 hl3 e3 e4 I4 c => ?_
        refine q s3 σ3 H3 hl3 ?_ ?_ I4 c
        · rw [wipe_more (wipe_len_of e3) (fun i hi => List.mem_append_right _ hi) e3, wipe_more (wipe_len_of e1) (fun i hi => List.mem_append_left _ hi) e1]
        · rw [wipeS_more (wipeS_len_of e4) (fun i hi => List.mem_append_right _ hi) e4, wipeS_more (wipeS_len_of e2) (fun i hi => List.mem_append_left _ hi) e2]
    · exact h.elim
  mono m h := by
    split at h
    · exact g.mono (fun s h => r.mono m h) h
    · exact h.elim
def gtup (n : Nat) (g : XGs) : XG where
  us := g.us
  te K := gSeq K n (g.te K)
  pre d ss C := match d with
    | .tup xs => xs.length = n ∧ g.pre xs ss C
    | _ => False
  ok h := by
    split at h
    · rename_i d xs
      refine wpG_seqT ?_
      intro H0 σ H τ x hl I Q q
      obtain ⟨a, vs, rfl, hq, r⟩ := I.val (d := .tup xs) List.mem_cons_self
      refine ⟨a, vs, rfl, hq, by rw [← r.length]; exact h.1, ?_⟩
      refine g.ok h.2 H0 σ H τ vs hl r.length ?_ Q q
      have J := I.drop
      have r2 : Reps _ (Out _ _) H xs vs := r.less fun a z => z.imp id fun z => by
        rw [owned_val]; exact z
      clear I hq h q
      induction xs generalizing vs with
      | nil =>
        have : vs = [] := r
        subst this
        exact J
      | cons y ys ih =>
        obtain ⟨w, ws, e, r1, r2'⟩ := r2
        subst e
        obtain ⟨w', ws', e', ra, rb⟩ := r
        cases e'
        refine (ih ws rb r2').push (r1.less fun a z => z.imp id fun z => ?_)
        rw [owned_app, owned_pile] at z
        exact z
    · exact h.elim
  mono m h := by
    split at h
    · exact ⟨h.1, g.mono m h.2⟩
    · exact h.elim
end XQ
/-! further texts -/
namespace XQ
open PySem PySem.Spec PyProof.Rows L2 SQ
variable {G : Fr → Prop}
/-! ### in lists and tuples -/
def rInA (K : Fr) (neg : Bool) : R2 := fun x y H Q => ∃ d e ds, Dp K H x d ∧ Dp K H y e ∧ (e = .list ds ∨ e = .tuple ds) ∧ SeqAt.shaped d = true ∧ SeqAt.shaped e = true ∧ Q (.bl (if neg = true then !ds.any fun z => PyData.eqv z d else ds.any fun z => PyData.eqv z d)) H
theorem depth_le {ds : List PyData} {e : PyData} (h : e = .list ds ∨ e = .tuple ds) (s : SeqAt.shaped e = true) : PyData.canLayAll0 ds = true := by
  rcases h with rfl | rfl <;> exact SeqAt.canLay_of_shaped s
theorem op_inK {X : Cx} {K : Fr} {k : Nat} (hr : Room k X.A) (h : X.K = K := by rfl) : OpR X (compareOp .In) (rInA K false) := by
  subst h
  intro pins s σ H x y v u Q I rx ry h
  obtain ⟨d, e, ds, hd, he, hh, sd, se, q⟩ := h
  have hu : X.A.units + 65 < cLine := by have := hr.un; omega
  obtain ⟨as, r1⟩ := Dp.reads I d x v hd rx
  obtain ⟨bs, r2⟩ := Dp.reads I e y u he ry
  have hl := depth_le hh se
  rcases hh with rfl | rfl
  · exact SeqAt.in_list_reads r2 r1 hl (SeqAt.canLay_of_shaped sd) (room_in_shaped sd hu) ⟨.bl _, H, I, rfl, q⟩
  · exact SeqAt.in_tuple_reads r2 r1 hl (SeqAt.canLay_of_shaped sd) (room_in_shaped sd hu) ⟨.bl _, H, I, rfl, q⟩
theorem op_notInK {X : Cx} {K : Fr} {k : Nat} (hr : Room k X.A) (h : X.K = K := by rfl) : OpR X (compareOp .NotIn) (rInA K true) := by
  subst h
  intro pins s σ H x y v u Q I rx ry h
  obtain ⟨d, e, ds, hd, he, hh, sd, se, q⟩ := h
  have hu : X.A.units + 65 < cLine := by have := hr.un; omega
  obtain ⟨as, r1⟩ := Dp.reads I d x v hd rx
  obtain ⟨bs, r2⟩ := Dp.reads I e y u he ry
  have hl := depth_le hh se
  rcases hh with rfl | rfl
  · exact SeqAt.notIn_list_reads r2 r1 hl (SeqAt.canLay_of_shaped sd) (room_in_shaped sd hu) ⟨.bl _, H, I, rfl, q⟩
  · exact SeqAt.notIn_tuple_reads r2 r1 hl (SeqAt.canLay_of_shaped sd) (room_in_shaped sd hu) ⟨.bl _, H, I, rfl, q⟩
def inA (neg : Bool) (x y : D) (C : D → Prop) : Prop := ∃ ys, seqOf y = some ys ∧ (pyk 64 x = true ∧ pyks 63 ys = true) ∧ C (.bl (if neg = true then !ys.any fun z => eqD z x else ys.any fun z => eqD z x))
@[simp] theorem inA_lst {neg : Bool} {x : D} {ys : List D} {C : D → Prop} : inA neg x (.lst ys) C = ((pyk 64 x = true ∧ pyks 63 ys = true) ∧ C (.bl (if neg = true then !ys.any fun z => eqD z x else ys.any fun z => eqD z x))) := by simp [inA, seqOf]
@[simp] theorem inA_tup {neg : Bool} {x : D} {ys : List D} {C : D → Prop} : inA neg x (.tup ys) C = ((pyk 64 x = true ∧ pyks 63 ys = true) ∧ C (.bl (if neg = true then !ys.any fun z => eqD z x else ys.any fun z => eqD z x))) := by simp [inA, seqOf]
def rinA (neg : Bool) : XR where
  r K := rInA K neg
  pre := inA neg
  ok h := by
    rename_i x y C
    obtain ⟨ys, e, ⟨h1, h2⟩, c⟩ := h
    intro S H v w lv rx ry Q q
    have hy : pyk 64 y = true := by cases y <;> first | (cases e; done) | (cases e; exact h2)
    refine ⟨_, _, pys ys, Rep.dp 64 _ _ h1 rx, Rep.dp 64 _ _ hy ry, ?_, py_shaped h1, py_shaped hy, ?_⟩
    · cases y <;> first | (cases e; done) | (cases e; exact .inl rfl) | (cases e; exact .inr rfl)
    · rw [any_pys]
      exact q _ (.bl _) H (Ext.refl H) rfl c
  mono c h := by
    obtain ⟨ys, e, hh, h⟩ := h
    exact ⟨ys, e, hh, c _ h⟩
/-! ### signs, new lists -/
def neg (a : XE G) : XE G where
  te K E := tUn (rU fun i => .int (-i)) (a.te K E)
  pre B X ss C := a.pre B X ss fun d => match d with
    | .int i => C (.int (-i))
    | _ => False
  ok g h := wpE_un ((a.ok g h).mono fun d h => by
    cases d <;> first | exact h.elim | exact wpU_int (f := fun i => -i) h)
  mono l x c h := a.mono l x (fun d h => by cases d <;> first | exact h.elim | exact c _ h) h
structure XRO where
  r : Fr → R2
  pre : D → D → (List D → Prop) → Prop
  ok : ∀ {K : Fr} {x y : D} {C : List D → Prop}, pre x y C → wpRO K (r K) x y C
  mono : ∀ {x y : D} {C C' : List D → Prop}, (∀ d, C d → C' d) → pre x y C → pre x y C'
def opO (r : XRO) (a b : XE G) : XO G where
  te K E := tOp (r.r K) (a.te K E) (b.te K E)
  pre B X ss C := a.pre B X ss fun x => b.pre B X ss fun y => r.pre x y C
  ok g h := wpO_op ((a.ok g h).mono fun x h => (b.ok g h).mono fun y h => r.ok h)
  mono l x c h := a.mono l x (fun d h => b.mono l x (fun d h => r.mono c h) h) h
def addO (x y : D) (C : List D → Prop) : Prop := match x, y with
  | .lst xs, .lst ys => xs.length + ys.length ≤ 100000 ∧ C (xs ++ ys)
  | _, _ => False
@[simp] theorem addO_lst {xs ys : List D} {C : List D → Prop} : addO (.lst xs) (.lst ys) C = (xs.length + ys.length ≤ 100000 ∧ C (xs ++ ys)) := rfl
def raddO : XRO where
  r K := rAddA K
  pre := addO
  ok h := by
    unfold addO at h
    split at h
    · exact wpRO_addL h.1 h.2
    · exact h.elim
  mono c h := by
    unfold addO at h ⊢
    split at h <;> first | exact h.elim | exact ⟨h.1, c _ h.2⟩
def mulO (x y : D) (C : List D → Prop) : Prop := match x, y with
  | .lst xs, .int j => ((0 ≤ j ∧ j ≤ 100000) ∧ xs.length * j.toNat ≤ 100000) ∧ C (List.replicate j.toNat xs).flatten
  | _, _ => False
@[simp] theorem mulO_lst {xs : List D} {j : Int} {C : List D → Prop} : mulO (.lst xs) (.int j) C = (((0 ≤ j ∧ j ≤ 100000) ∧ xs.length * j.toNat ≤ 100000) ∧ C (List.replicate j.toNat xs).flatten) := rfl
def rmulO : XRO where
  r K := rMulA K
  pre := mulO
  ok h := by
    unfold mulO at h
    split at h
    · exact wpRO_mulL h.1.1 h.1.2 h.2
    · exact h.elim
  mono c h := by
    unfold mulO at h ⊢
    split at h <;> first | exact h.elim | exact ⟨h.1, c _ h.2⟩
theorem reps_rng {K : Fr} {S : Addr → Prop} {H : Hp} (a b : Int) : Reps K S H (rngD a (b - a).toNat) (rgV a b) := by
  have e : rngD a (b - a).toNat = ((List.range (b - a).toNat).map fun i : Nat => a + (i : Int)).map D.int := by
    unfold rngD; rw [List.map_map]; rfl
  have e2 : rgV a b = ((List.range (b - a).toNat).map fun i : Nat => a + (i : Int)).map V.int := by
    unfold rgV; rw [List.map_map]; rfl
  rw [e, e2]
  exact Reps.ints.mpr rfl
/-- list(range(n)) -/
def lstRg (a : XE G) : XO G where
  te K E := tLstRg (tRg1 (a.te K E))
  pre B X ss C := a.pre B X ss fun d => match d with
    | .int n => RgOk 0 n ∧ C (rngD 0 n.toNat)
    | _ => False
  ok g h := fun H0 σ H τ hl I Q q => a.ok g h H0 σ H τ hl I _ fun v d H2 J c => by
    cases d with
    | int n =>
      have rv : v = .int n := J.val List.mem_cons_self
      refine ⟨n, rv, c.1, fun p hp => ?_⟩
      refine q p (rngD 0 n.toNat) _ (J.drop.pushO hp ?_) c.2
      have e : rngD 0 n.toNat = rngD 0 (n - 0).toNat := by rw [Int.sub_zero]
      rw [e]
      exact reps_rng 0 n
    | _ => exact c.elim
  mono l x c h := a.mono l x (fun d h => by cases d <;> first | exact h.elim | exact ⟨h.1, c _ h.2⟩) h
def lstRg2 (a b : XE G) : XO G where
  te K E := tLstRg (tRg2 (a.te K E) (b.te K E))
  pre B X ss C := a.pre B X ss fun x => b.pre B X ss fun y => match x, y with
    | .int i, .int j => RgOk i j ∧ C (rngD i (j - i).toNat)
    | _, _ => False
  ok g h := fun H0 σ H τ hl I Q q => a.ok g h H0 σ H τ hl I _ fun v d H2 J c => b.ok g c H0 σ H2 ((.val d, some v) :: τ) hl (J.perm List.perm_middle.symm) _ fun w e H3 J3 c3 => by
    split at c3
    · rename_i i j
      have rv : v = .int i := J3.val (List.mem_cons_of_mem _ (List.mem_append_right _ List.mem_cons_self))
      have rw' : w = .int j := J3.val List.mem_cons_self
      refine ⟨i, j, rv, rw', c3.1, fun p hp => ?_⟩
      have J4 := (J3.drop.perm List.perm_middle).drop
      exact q p _ _ (J4.pushO hp (reps_rng i j)) c3.2
    · exact c3.elim
  mono l x c h := a.mono l x (fun d h => b.mono l x (fun e h => by
    split at h
    · exact ⟨h.1, c _ h.2⟩
    · exact h.elim) h) h
/-! ### own lists -/
theorem wpS_ext {K : Fr} {Γ : Cxt} {ss : List Sl} {e : En} {te : TE} {xs : List D} {i : Nat} (h : ss[i]? = some (.own xs)) (h1 : wpE K Γ te ss fun d => ∃ zs, d = .lst zs ∧ xs.length + zs.length ≤ 100000 ∧ e.nx (ss.set i (.own (xs ++ zs)))) :
    wpS K Γ (tDrop (tBM K "list" rExtend (tVar i) (tCons te tNil))) ss e := fun H0 σ H τ D hl I k => by
  obtain ⟨a, ha, _⟩ := Env.ownAt (qs := []) hl h I
  obtain ⟨vs0, hv0, _⟩ := I.own (a := a) (xs := xs) (List.mem_append_left _ (zip_get h ha))
  refine ⟨.ref a, ha, .inl ⟨rfl, vs0, .inl (.inl hv0)⟩, h1 H0 σ H τ hl I _ fun v d H2 J c => ?_⟩
  obtain ⟨zs, rfl, hz, c⟩ := c
  obtain ⟨vs, hv, rv⟩ := J.drop.own (a := a) (xs := xs) (List.mem_append_left _ (zip_get h ha))
  obtain ⟨b, ws, rfl, nb, hb, rb⟩ := J.val List.mem_cons_self
  refine ⟨a, b, vs, ws, rfl, rfl, hv, hb, Nat.le_trans (by rw [← rv.length, ← rb.length]; exact hz) (by decide), ?_⟩
  refine k.nx _ σ _ (by simp [hl]) (Env.ownSet hl h ha J.drop (rv.app ?_)) c
  exact rb.less fun c z => z
def ext (i : Nat) (a : XE G) : XS G where
  te K E := tDrop (tBM K "list" rExtend (tVar i) (tCons (a.te K E) tNil))
  pre B X ss e := getO ss i fun xs => a.pre B X ss fun d => match d with
    | .lst zs => xs.length + zs.length ≤ 100000 ∧ e.nx (ss.set i (.own (xs ++ zs)))
    | _ => False
  ok g h := by
    obtain ⟨xs, e, h⟩ := getO_at h
    exact wpS_ext e ((a.ok g h).mono fun d h => by cases d <;> first | exact h.elim | exact ⟨_, rfl, h⟩)
  mono l x m h := getO_mono (fun _ h => a.mono l x (fun d h => by cases d <;> first | exact h.elim | exact ⟨h.1, m.nx _ h.2⟩) h) h
/-- x = xs.pop() -/
theorem wpS_popSet {K : Fr} {Γ : Cxt} {ss : List Sl} {e : En} {xs : List D} {i j : Nat} (h : ss[i]? = some (.own xs)) (hj : j < ss.length) (hij : i ≠ j) {d : D} (hx : xs.getLast? = some d) (c : e.nx ((ss.set i (.own xs.dropLast)).set j (.val d))) :
    wpS K Γ (tAsg (tBM0 K "list" rPop (tVar i)) (gName j)) ss e := fun H0 σ H τ D hl I k => by
  obtain ⟨a, ha, _⟩ := Env.ownAt (qs := []) hl h I
  obtain ⟨vs, hv, rv⟩ := I.own (a := a) (xs := xs) (List.mem_append_left _ (zip_get h ha))
  have hne : xs ≠ [] := by intro q; subst q; simp at hx
  have hd : xs[xs.length - 1]? = some d := by rw [← List.getLast?_eq_getElem?]; exact hx
  obtain ⟨y, hy, ry⟩ := rv.get hd
  refine ⟨.ref a, ha, .inl ⟨rfl, vs, .inl (.inl hv)⟩, a, vs, y, rfl, rfl, hv, by rw [← rv.length]; exact hy, ?_⟩
  have rt : Reps K (Out Γ (ss.zip σ ++ τ)) H xs.dropLast vs.dropLast := by
    rw [List.dropLast_eq_take, List.dropLast_eq_take, ← rv.length]
    exact Reps.take _ rv
  have J := (I.push (d := d) (v := y) ry)
  have J1 : Env K Γ H0 H (ss.zip σ ++ ((.val d, some y) :: τ)) := J.perm List.perm_middle.symm
  have rt' : Reps K (Out Γ (ss.zip σ ++ ((.val d, some y) :: τ))) H xs.dropLast vs.dropLast := rt.less fun b z => z.imp id fun z => by
    rw [owned_app] at z ⊢
    exact z
  have J2 := Env.ownSet hl h ha J1 rt'
  have J3 : Env K Γ H0 _ ((.val d, some y) :: ((ss.set i (.own xs.dropLast)).zip σ ++ τ)) := J2.perm List.perm_middle
  have J4 := J3.store (i := j) (by simp [hl]) (by simp; exact hj)
  exact k.nx _ _ _ (by simp [hl]) J4 c
def popSet (i j : Nat) : XS G where
  te K _ := tAsg (tBM0 K "list" rPop (tVar i)) (gName j)
  pre _ _ ss e := getO ss i fun xs => i ≠ j ∧ j < ss.length ∧ ∃ d, xs.getLast? = some d ∧ e.nx ((ss.set i (.own xs.dropLast)).set j (.val d))
  ok g h := by obtain ⟨xs, e, h1, h2, d, h3, h⟩ := getO_at h; exact wpS_popSet e h2 h1 h3 h
  mono l x m h := getO_mono (fun _ h => by obtain ⟨h1, h2, d, h3, h⟩ := h; exact ⟨h1, h2, d, h3, m.nx _ h⟩) h
/-! ### parallel stores of new lists -/
def parOE (i j : Nat) (a : XO G) (b : XE G) : XS G where
  te K E := tPar i j (tCons (a.te K E) (tCons (b.te K E) tNil))
  pre B X ss e := i < ss.length ∧ j < ss.length ∧ a.pre B X ss fun xs => b.pre B X ss fun y => e.nx ((ss.set i (.own xs)).set j (.val y))
  ok g h := wpS_parO h.1 h.2.1 (wpO_mono (a.ok g h.2.2) fun xs h => b.ok g h)
  mono l x m h := ⟨h.1, h.2.1, a.mono l x (fun d h => b.mono l x (fun d h => m.nx _ h) h) h.2.2⟩
theorem wpS_parEO {K : Fr} {Γ : Cxt} {ss : List Sl} {e : En} {te tb : TE} {i j : Nat} (hi : i < ss.length) (hj : j < ss.length) (h : wpE K Γ te ss fun x => wpO K Γ tb ss fun ys => e.nx ((ss.set i (.val x)).set j (.own ys))) : wpS K Γ (tPar i j (tCons te (tCons tb tNil))) ss e := fun H0 σ H τ D hl I k =>
  h H0 σ H τ hl I _ fun v d H1 J1 h1 => h1 H0 σ H1 ((.val d, some v) :: τ) hl (J1.perm List.perm_middle.symm) _ fun a ys H2 J2 c => by
    have J3 : Env K Γ H0 H2 ((.val d, some v) :: (ss.zip σ ++ ((.own ys, some (.ref a)) :: τ))) := by
      refine J2.perm ?_
      refine (List.Perm.cons _ List.perm_middle).trans ((List.Perm.swap _ _ _).trans (List.Perm.cons _ ?_))
      exact List.perm_middle.symm
    have J4 := J3.store hl hi
    have J5 := (J4.perm (List.perm_middle (l₁ := (ss.set i (.val d)).zip (σ.set i (some v))))).store (i := j) (by simp [hl]) (by simpa using hj)
    exact ⟨_, _, rfl, k.nx _ _ H2 (by simp [hl]) J5 c⟩
def parEO (i j : Nat) (a : XE G) (b : XO G) : XS G where
  te K E := tPar i j (tCons (a.te K E) (tCons (b.te K E) tNil))
  pre B X ss e := i < ss.length ∧ j < ss.length ∧ a.pre B X ss fun x => b.pre B X ss fun ys => e.nx ((ss.set i (.val x)).set j (.own ys))
  ok g h := wpS_parEO h.1 h.2.1 ((a.ok g h.2.2).mono fun xs h => b.ok g h)
  mono l x m h := ⟨h.1, h.2.1, a.mono l x (fun d h => b.mono l x (fun d h => m.nx _ h) h) h.2.2⟩
theorem wpS_parOO {K : Fr} {Γ : Cxt} {ss : List Sl} {e : En} {te tb : TE} {i j : Nat} (hi : i < ss.length) (hj : j < ss.length) (h : wpO K Γ te ss fun xs => wpO K Γ tb ss fun ys => e.nx ((ss.set i (.own xs)).set j (.own ys))) : wpS K Γ (tPar i j (tCons te (tCons tb tNil))) ss e := fun H0 σ H τ D hl I k =>
  h H0 σ H τ hl I _ fun v d H1 J1 h1 => h1 H0 σ H1 ((.own d, some (.ref v)) :: τ) hl (J1.perm List.perm_middle.symm) _ fun a ys H2 J2 c => by
    have J3 : Env K Γ H0 H2 ((.own d, some (.ref v)) :: (ss.zip σ ++ ((.own ys, some (.ref a)) :: τ))) := by
      refine J2.perm ?_
      refine (List.Perm.cons _ List.perm_middle).trans ((List.Perm.swap _ _ _).trans (List.Perm.cons _ ?_))
      exact List.perm_middle.symm
    have J4 := J3.store hl hi
    have J5 := (J4.perm (List.perm_middle (l₁ := (ss.set i (.own d)).zip (σ.set i (some (.ref v)))))).store (i := j) (by simp [hl]) (by simpa using hj)
    exact ⟨_, _, rfl, k.nx _ _ H2 (by simp [hl]) J5 c⟩
def parOO (i j : Nat) (a : XO G) (b : XO G) : XS G where
  te K E := tPar i j (tCons (a.te K E) (tCons (b.te K E) tNil))
  pre B X ss e := i < ss.length ∧ j < ss.length ∧ a.pre B X ss fun x => b.pre B X ss fun ys => e.nx ((ss.set i (.own x)).set j (.own ys))
  ok g h := wpS_parOO h.1 h.2.1 (wpO_mono (a.ok g h.2.2) fun xs h => b.ok g h)
  mono l x m h := ⟨h.1, h.2.1, a.mono l x (fun d h => b.mono l x (fun d h => m.nx _ h) h) h.2.2⟩
theorem wpS_par3 {K : Fr} {Γ : Cxt} {ss : List Sl} {e : En} {tx : TA} {i j k : Nat} (hi : i < ss.length) (hj : j < ss.length) (hk : k < ss.length) (h : wpA K Γ tx ss fun ds => ∃ x y z, ds = [x, y, z] ∧ e.nx (((ss.set i (.val x)).set j (.val y)).set k (.val z))) : wpS K Γ (tPar3 i j k tx) ss e := fun H0 σ H τ D hl I q =>
  h H0 σ H τ hl I _ fun vs ds H2 hd J c => by
    obtain ⟨x, y, z, rfl, c⟩ := c
    match vs, hd with
    | [u, v, w], _ =>
      refine ⟨u, v, w, rfl, ?_⟩
      have J1 : Env K Γ H0 H2 ((.val x, some u) :: (.val y, some v) :: (.val z, some w) :: (ss.zip σ ++ τ)) := J
      have J2 : Env K Γ H0 H2 ((.val x, some u) :: (ss.zip σ ++ ((.val y, some v) :: (.val z, some w) :: τ))) := J1.perm (by
        refine List.Perm.cons _ ?_
        have p1 : ((Sl.val z, some w) :: (ss.zip σ ++ τ)).Perm (ss.zip σ ++ ((Sl.val z, some w) :: τ)) := List.perm_middle.symm
        exact (p1.cons _).trans List.perm_middle.symm)
      have J3 := (Env.store hl hi J2).perm List.perm_middle
      have J4 := (Env.store (i := j) (by simp [hl]) (by simpa using hj) J3).perm List.perm_middle
      exact q.nx _ _ H2 (by simp [hl]) (Env.store (i := k) (by simp [hl]) (by simpa using hk) J4) c
def par3 (i j k : Nat) (a : XA G) : XS G where
  te K E := tPar3 i j k (a.te K E)
  pre B X ss e := i < ss.length ∧ j < ss.length ∧ k < ss.length ∧ a.pre B X ss fun ds => match ds with
    | [x, y, z] => e.nx (((ss.set i (.val x)).set j (.val y)).set k (.val z))
    | _ => False
  ok g h := wpS_par3 h.1 h.2.1 h.2.2.1 (wpA_mono (a.ok g h.2.2.2) fun ds h => by
    split at h
    · exact ⟨_, _, _, rfl, h⟩
    · exact h.elim)
  mono l x m h := ⟨h.1, h.2.1, h.2.2.1, a.mono l x (fun ds h => by
    split at h
    · exact m.nx _ h
    · exact h.elim) h.2.2.2⟩
/-! ### a, b, c = values and new lists in any mix -/
def wpSl (K : Fr) (Γ : Cxt) (te : TE) (ss : List Sl) (C : Sl → Prop) : Prop := ∀ H0 σ H τ, σ.length = ss.length → Env K Γ H0 H (ss.zip σ ++ τ) → ∀ Q : VK, (∀ v s H2, Env K Γ H0 H2 ((s, some v) :: (ss.zip σ ++ τ)) → C s → Q v H2) → te σ H Q
theorem wpSl_mono {K : Fr} {Γ : Cxt} {te : TE} {ss : List Sl} {C C' : Sl → Prop} (h : wpSl K Γ te ss C) (m : ∀ s, C s → C' s) : wpSl K Γ te ss C' := fun H0 σ H τ hl I Q q => h H0 σ H τ hl I Q fun v s H2 J c => q v s H2 J (m s c)
structure XL (G : Fr → Prop) where
  te : Fr → XK → TE
  pre : Sc → XP → List Sl → (Sl → Prop) → Prop
  ok : ∀ {K : Fr} {Γ : Cxt} {ss : List Sl} {C : Sl → Prop}, G K → pre (sc Γ) Γ.X ss C → wpSl K Γ (te K Γ.E) ss C
  mono : ∀ {B B' : Sc} {X X' : XP} {ss : List Sl} {C C' : Sl → Prop}, Sc.le B B' → (∀ x, X x → X' x) → (∀ d, C d → C' d) → pre B X ss C → pre B' X' ss C'
def xv (a : XE G) : XL G where
  te := a.te
  pre B X ss C := a.pre B X ss fun d => C (.val d)
  ok g h := fun H0 σ H τ hl I Q q => a.ok g h H0 σ H τ hl I Q fun v d H2 J c => q v (.val d) H2 J c
  mono l x c h := a.mono l x (fun d h => c _ h) h
def xo (a : XO G) : XL G where
  te := a.te
  pre B X ss C := a.pre B X ss fun d => C (.own d)
  ok g h := fun H0 σ H τ hl I Q q => a.ok g h H0 σ H τ hl I Q fun v d H2 J c => q (.ref v) (.own d) H2 J c
  mono l x c h := a.mono l x (fun d h => c _ h) h
theorem wpS_par3s {K : Fr} {Γ : Cxt} {ss : List Sl} {e : En} {t1 t2 t3 : TE} {i j k : Nat} (hi : i < ss.length) (hj : j < ss.length) (hk : k < ss.length) (h : wpSl K Γ t1 ss fun x => wpSl K Γ t2 ss fun y => wpSl K Γ t3 ss fun z => e.nx (((ss.set i x).set j y).set k z)) : wpS K Γ (tPar3 i j k (tCons t1 (tCons t2 (tCons t3 tNil)))) ss e := fun H0 σ H τ D hl I q =>
  h H0 σ H τ hl I _ fun u x H1 J1 h1 => h1 H0 σ H1 ((x, some u) :: τ) hl (J1.perm List.perm_middle.symm) _ fun v y H2 J2 h2 =>
    h2 H0 σ H2 ((y, some v) :: (x, some u) :: τ) hl (J2.perm List.perm_middle.symm) _ fun w z H3 J3 c => by
      refine ⟨u, v, w, rfl, ?_⟩
      have J0 : Env K Γ H0 H3 ((x, some u) :: (ss.zip σ ++ ((y, some v) :: (z, some w) :: τ))) := by
        refine J3.perm ?_
        have a1 : ((z, some w) :: (ss.zip σ ++ ((y, some v) :: (x, some u) :: τ))).Perm ((z, some w) :: (y, some v) :: (x, some u) :: (ss.zip σ ++ τ)) := by
          refine List.Perm.cons _ (List.perm_middle.trans (List.Perm.cons _ List.perm_middle))
        have a2 : ((x, some u) :: (ss.zip σ ++ ((y, some v) :: (z, some w) :: τ))).Perm ((x, some u) :: (y, some v) :: (z, some w) :: (ss.zip σ ++ τ)) := by
          refine List.Perm.cons _ (List.perm_middle.trans (List.Perm.cons _ List.perm_middle))
        refine a1.trans (List.Perm.trans ?_ a2.symm)
        refine (List.Perm.swap _ _ _).trans ?_
        refine (List.Perm.cons _ (List.Perm.swap _ _ _)).trans ?_
        exact List.Perm.swap _ _ _
      have J3 := (Env.store hl hi J0).perm List.perm_middle
      have J4 := (Env.store (i := j) (by simp [hl]) (by simpa using hj) J3).perm List.perm_middle
      exact q.nx _ _ H3 (by simp [hl]) (Env.store (i := k) (by simp [hl]) (by simpa using hk) J4) c
def par3s (i j k : Nat) (a b c : XL G) : XS G where
  te K E := tPar3 i j k (tCons (a.te K E) (tCons (b.te K E) (tCons (c.te K E) tNil)))
  pre B X ss e := i < ss.length ∧ j < ss.length ∧ k < ss.length ∧ a.pre B X ss fun x => b.pre B X ss fun y => c.pre B X ss fun z => e.nx (((ss.set i x).set j y).set k z)
  ok g h := wpS_par3s h.1 h.2.1 h.2.2.1 (wpSl_mono (a.ok g h.2.2.2) fun x h => wpSl_mono (b.ok g h) fun y h => c.ok g h)
  mono l x m h := ⟨h.1, h.2.1, h.2.2.1, a.mono l x (fun d h => b.mono l x (fun d h => c.mono l x (fun d h => m.nx _ h) h) h) h.2.2.2⟩
/-! ### max, min -/
theorem wpB_minL {K : Fr} {ns : List Int} {C : D → Prop} (hn : 0 < ns.length) (k : ∀ m, m ∈ ns → (∀ y, y ∈ ns → m ≤ y) → C (.int m)) : wpB K (bMin K) [.lst (ns.map D.int)] C := fun S H vs l r Q q => by
  obtain ⟨v, ws, rfl, ⟨a, us, rfl, _, t, r⟩, z⟩ := r
  have z : ws = [] := z
  subst z
  have e : us = ns.map V.int := Reps.ints.mp r
  subst e
  exact .inr ⟨a, ns, rfl, .inl (.inl t), hn, fun m h1 h2 => q _ (.int m) H (Ext.refl H) rfl (k m h1 h2)⟩
def top (ns : List Int) : Int := ns.foldl max (ns.headD 0)
def bot (ns : List Int) : Int := ns.foldl min (ns.headD 0)
theorem foldl_max (ns : List Int) : ∀ m : Int, m ≤ ns.foldl max m ∧ (∀ n ∈ ns, n ≤ ns.foldl max m) ∧ (ns.foldl max m = m ∨ ns.foldl max m ∈ ns) := by
  induction ns with
  | nil => intro m; simp
  | cons n r ih =>
    intro m
    obtain ⟨h1, h2, h3⟩ := ih (max m n)
    simp only [List.foldl_cons, List.mem_cons, forall_eq_or_imp]
    refine ⟨by omega, ⟨by omega, h2⟩, ?_⟩
    rcases h3 with h3 | h3
    · rw [h3]
      rcases Int.le_total m n with q | q
      · right; left; omega
      · left; omega
    · right; right; exact h3
theorem foldl_min (ns : List Int) : ∀ m : Int, ns.foldl min m ≤ m ∧ (∀ n ∈ ns, ns.foldl min m ≤ n) ∧ (ns.foldl min m = m ∨ ns.foldl min m ∈ ns) := by
  induction ns with
  | nil => intro m; simp
  | cons n r ih =>
    intro m
    obtain ⟨h1, h2, h3⟩ := ih (min m n)
    simp only [List.foldl_cons, List.mem_cons, forall_eq_or_imp]
    refine ⟨by omega, ⟨by omega, h2⟩, ?_⟩
    rcases h3 with h3 | h3
    · rw [h3]
      rcases Int.le_total m n with q | q
      · left; omega
      · right; left; omega
    · right; right; exact h3
theorem top_mem {ns : List Int} (h : ns ≠ []) : top ns ∈ ns := by
  cases ns with
  | nil => exact absurd rfl h
  | cons n r =>
    obtain ⟨h1, h2, h3⟩ := foldl_max (n :: r) n
    rcases h3 with h3 | h3
    · show (n :: r).foldl max n ∈ _
      rw [h3]; exact List.mem_cons_self
    · exact h3
theorem le_top {ns : List Int} {n : Int} (h : n ∈ ns) : n ≤ top ns := (foldl_max ns _).2.1 n h
theorem bot_mem {ns : List Int} (h : ns ≠ []) : bot ns ∈ ns := by
  cases ns with
  | nil => exact absurd rfl h
  | cons n r =>
    obtain ⟨h1, h2, h3⟩ := foldl_min (n :: r) n
    rcases h3 with h3 | h3
    · show (n :: r).foldl min n ∈ _
      rw [h3]; exact List.mem_cons_self
    · exact h3
theorem bot_le {ns : List Int} {n : Int} (h : n ∈ ns) : bot ns ≤ n := (foldl_min ns _).2.1 n h
theorem top_of {ns : List Int} {m : Int} (h1 : m ∈ ns) (h2 : ∀ y, y ∈ ns → y ≤ m) : m = top ns := by
  have a := le_top h1
  have b := h2 _ (top_mem (List.ne_nil_of_mem h1))
  omega
theorem bot_of {ns : List Int} {m : Int} (h1 : m ∈ ns) (h2 : ∀ y, y ∈ ns → m ≤ y) : m = bot ns := by
  have a := bot_le h1
  have b := h2 _ (bot_mem (List.ne_nil_of_mem h1))
  omega
def maxP (ds : List D) (C : D → Prop) : Prop := match ds with
  | [.int i, .int j] => C (.int (max i j))
  | [.int i, .int j, .int k] => C (.int (max (max i j) k))
  | [.lst xs] => ∃ ns, intsOf xs = some ns ∧ 0 < ns.length ∧ C (.int (top ns))
  | [.tup xs] => ∃ ns, intsOf xs = some ns ∧ 0 < ns.length ∧ C (.int (top ns))
  | _ => False
@[simp] theorem maxP_int3 {i j k : Int} {C : D → Prop} : maxP [.int i, .int j, .int k] C = C (.int (max (max i j) k)) := rfl
@[simp] theorem maxP_tup {ns : List Int} {C : D → Prop} : maxP [.tup (ns.map D.int)] C = (0 < ns.length ∧ C (.int (top ns))) := by simp [maxP]
@[simp] theorem maxP_int {i j : Int} {C : D → Prop} : maxP [.int i, .int j] C = C (.int (max i j)) := rfl
@[simp] theorem maxP_lst {ns : List Int} {C : D → Prop} : maxP [.lst (ns.map D.int)] C = (0 < ns.length ∧ C (.int (top ns))) := by simp [maxP]
def bmax : XB where
  r K := bMax4 K
  pre := maxP
  ok h := by
    unfold maxP at h
    split at h
    · exact wpB_max4 (wpB_max2 h)
    · exact wpB_max43 h
    · obtain ⟨ns, e, h0, h⟩ := h
      have e := of_intsOf e
      subst e
      exact wpB_max4 (wpB_maxL h0 fun m h1 h2 => by rw [top_of h1 h2]; exact h)
    · obtain ⟨ns, e, h0, h⟩ := h
      have e := of_intsOf e
      subst e
      exact wpB_max4T h0 fun m h1 h2 => by rw [top_of h1 h2]; exact h
    · exact h.elim
  mono c h := by
    unfold maxP at h ⊢
    split at h
    · exact c _ h
    · exact c _ h
    · obtain ⟨ns, e, h0, h⟩ := h; exact ⟨ns, e, h0, c _ h⟩
    · obtain ⟨ns, e, h0, h⟩ := h; exact ⟨ns, e, h0, c _ h⟩
    · exact h.elim
def minP (ds : List D) (C : D → Prop) : Prop := match ds with
  | [.int i, .int j] => C (.int (min i j))
  | [.int i, .int j, .int k] => C (.int (min (min i j) k))
  | [.lst xs] => ∃ ns, intsOf xs = some ns ∧ 0 < ns.length ∧ C (.int (bot ns))
  | [.tup xs] => ∃ ns, intsOf xs = some ns ∧ 0 < ns.length ∧ C (.int (bot ns))
  | _ => False
@[simp] theorem minP_int3 {i j k : Int} {C : D → Prop} : minP [.int i, .int j, .int k] C = C (.int (min (min i j) k)) := rfl
@[simp] theorem minP_tup {ns : List Int} {C : D → Prop} : minP [.tup (ns.map D.int)] C = (0 < ns.length ∧ C (.int (bot ns))) := by simp [minP]
@[simp] theorem minP_int {i j : Int} {C : D → Prop} : minP [.int i, .int j] C = C (.int (min i j)) := rfl
@[simp] theorem minP_lst {ns : List Int} {C : D → Prop} : minP [.lst (ns.map D.int)] C = (0 < ns.length ∧ C (.int (bot ns))) := by simp [minP]
def bmin : XB where
  r K := bMin4 K
  pre := minP
  ok h := by
    unfold minP at h
    split at h
    · exact wpB_min4 (wpB_min2 h)
    · exact wpB_min43 h
    · obtain ⟨ns, e, h0, h⟩ := h
      have e := of_intsOf e
      subst e
      exact wpB_min4 (wpB_minL h0 fun m h1 h2 => by rw [bot_of h1 h2]; exact h)
    · obtain ⟨ns, e, h0, h⟩ := h
      have e := of_intsOf e
      subst e
      exact wpB_min4T h0 fun m h1 h2 => by rw [bot_of h1 h2]; exact h
    · exact h.elim
  mono c h := by
    unfold minP at h ⊢
    split at h
    · exact c _ h
    · exact c _ h
    · obtain ⟨ns, e, h0, h⟩ := h; exact ⟨ns, e, h0, c _ h⟩
    · obtain ⟨ns, e, h0, h⟩ := h; exact ⟨ns, e, h0, c _ h⟩
    · exact h.elim
def ienumZ (a : XA G) : XI G where
  te K E := iEnumZ K (a.te K E)
  pre B X ss C := a.pre B X ss fun ds => match ds with
    | [.tup x, .tup y] => C (enumD 0 (zipD x y))
    | _ => False
  ok g h := wpI_enumZ (wpA_mono (a.ok g h) fun ds h => by
    split at h
    · exact ⟨_, _, rfl, h⟩
    · exact h.elim)
  mono l x c h := a.mono l x (fun ds h => by
    split at h
    · exact c _ h
    · exact h.elim) h
/-! ### base: an item mixed -/
def mixedF : XF where
  F B ds C _ := match ds with
    | [.cell p, d] => ∃ xs, seqOf d = some xs ∧ (B p ∧ xs.length ≤ 100000) ∧ ∀ ys : List D, ys.Perm xs → C (.lst ys)
    | _ => False
  mono l x c h := by
    split at h
    · obtain ⟨xs, e, h1, h2⟩ := h
      exact ⟨xs, e, ⟨l.b _ h1.1, h1.2⟩, fun ys p => c _ (h2 ys p)⟩
    · exact h.elim
/-- a promise that is weaker -/
theorem spF_weak {K : Fr} {F F' : Fn} (w : ∀ B ds C X, F' B ds C X → F B ds C X) : ∀ vs H Q E, spF K F' vs H Q E → spF K F vs H Q E := fun vs H Q E h => by
  obtain ⟨Γ, ds, C, a, b, c, d, e⟩ := h
  exact ⟨Γ, ds, C, a, b, c, w _ _ _ _ d, e⟩
/-! ### a keyword, a default -/
def aapp (n m : Nat) (a b : XA G) : XA G where
  te K E := tAppN n m (a.te K E) (b.te K E)
  pre B X ss C := a.pre B X ss fun xs => xs.length = n ∧ b.pre B X ss fun ys => ys.length = m ∧ C (xs ++ ys)
  ok g h := wpA_appN (wpA_mono (a.ok g h) fun xs h => ⟨h.1, b.ok g h.2⟩)
  mono l x c h := a.mono l x (fun d h => ⟨h.1, b.mono l x (fun d h => ⟨h.1, c _ h.2⟩) h.2⟩) h
def adef (d : Int) (a : XA G) : XA G where
  te K E := tDefN d (a.te K E)
  pre B X ss C := a.pre B X ss fun xs => C (xs ++ [.int d])
  ok g h := wpA_defN (a.ok g h)
  mono l x c h := a.mono l x (fun d h => c _ h) h
/-- list(zip(a, b)) -/
def lstZ (a : XA G) : XO G where
  te K E := tListZip K (a.te K E)
  pre B X ss C := a.pre B X ss fun ds => match ds with
    | [.tup xs, .tup ys] => C (zipD xs ys)
    | _ => False
  ok g h := wpO_listZip (wpA_mono (a.ok g h) fun ds h => by
    split at h
    · exact ⟨_, _, rfl, h⟩
    · exact h.elim)
  mono l x c h := a.mono l x (fun ds h => by
    split at h
    · exact c _ h
    · exact h.elim) h
end XQ
/-! what the texts of a law's row lean on -/
namespace XQ
open PySem PySem.Spec PyProof.Rows L2 SQ
theorem ownX_gC {K : Fr} {mg : Str → Option Value} {x fl : Str} {C : Addr} (T : OwnX K mg x fl C) : mg x = some (.ref C) := by
  obtain ⟨_, _, _, _, _, t, _⟩ := T.ex
  exact t.gC
theorem old_ladle {B : Sc} {ds : List D} {C : D → Prop} {X : XP} (h : ladleF.F B ds C X) : ∃ (p : Addr) (n : Int), ds = [.cell p, .int n] ∧ B p ∧ 0 < n ∧ n < 2 ^ 200 ∧ ∀ r, 0 ≤ r → r < n → C (.int r) := by
  unfold ladleF at h
  simp only at h
  split at h
  · exact ⟨_, _, rfl, h.1.1, h.1.2.1, h.1.2.2, h.2⟩
  · exact h.elim
theorem new_ladle {B : Sc} {p : Addr} {n : Int} {C : D → Prop} {X : XP} (b : B p) (h0 : 0 < n) (h1 : n < 2 ^ 200) (c : ∀ r, 0 ≤ r → r < n → C (.int r)) : ladleF.F B [.cell p, .int n] C X := ⟨⟨b, h0, h1⟩, c⟩
theorem mono_ladle : ∀ B B' ds C X, Sc.le B B' → ladleF.F B ds C X → ladleF.F B' ds C X := fun B B' ds C X m h => ladleF.mono m (fun _ h => h) (fun _ h => h) h
theorem old_mixed {B : Sc} {ds : List D} {C : D → Prop} {X : XP} (h : mixedF.F B ds C X) : ∃ (p : Addr) (xs : List D), (ds = [.cell p, .lst xs] ∨ ds = [.cell p, .tup xs]) ∧ B p ∧ xs.length ≤ 100000 ∧ ∀ ys : List D, ys.Perm xs → C (.lst ys) := by
  unfold mixedF at h
  simp only at h
  split at h
  · rename_i p d
    obtain ⟨xs, e, h1, h2⟩ := h
    refine ⟨p, xs, ?_, h1.1, h1.2, h2⟩
    cases d <;> first | (cases e; done) | (cases e; exact .inl rfl) | (cases e; exact .inr rfl)
  · exact h.elim
theorem pull_perm {d : D} : ∀ {left : List D} {k : Nat}, left[k]? = some d → ([d] ++ left.eraseIdx k).Perm left
  | [], k, h => by simp at h
  | x :: r, 0, h => by simp at h; subst h; simp
  | x :: r, k + 1, h => by
    simp only [List.getElem?_cons_succ] at h
    have := pull_perm h
    simp only [List.eraseIdx_cons_succ, List.singleton_append] at this ⊢
    exact (List.Perm.swap _ _ _).trans (this.cons x)
end XQ
/-! what the preconditions are -/
namespace XQ
open PySem PySem.Spec PyProof.Rows L2 SQ
variable {G : Fr → Prop} {B : Sc} {X : XP} {ss : List Sl}
@[simp] theorem var_pre (i : Nat) {C : D → Prop} : ((var i) : XE G).pre B X ss C = (getV ss i C) := rfl
@[simp] theorem int_pre (i : Int) {C : D → Prop} : ((int i) : XE G).pre B X ss C = (C (.int i)) := rfl
@[simp] theorem bl_pre (b : Bool) {C : D → Prop} : ((bl b) : XE G).pre B X ss C = (C (.bl b)) := rfl
@[simp] theorem non_pre {C : D → Prop} : ((non) : XE G).pre B X ss C = (C .non) := rfl
@[simp] theorem ty_pre (x : String) {C : D → Prop} : ((ty x) : XE G).pre B X ss C = (C (.ty x)) := rfl
@[simp] theorem str_pre (x : Str) {C : D → Prop} : ((str x) : XE G).pre B X ss C = (C (.str x)) := rfl
@[simp] theorem op_pre (r : XR) (a b : XE G) {C : D → Prop} : ((op r a b) : XE G).pre B X ss C = (a.pre B X ss fun x => b.pre B X ss fun y => r.pre x y C) := rfl
@[simp] theorem frz_pre (a : XO G) {C : D → Prop} : ((frz a) : XE G).pre B X ss C = (a.pre B X ss fun xs => C (.lst xs)) := rfl
@[simp] theorem andV_pre (a b : XE G) {C : D → Prop} : ((andV a b) : XE G).pre B X ss C = (a.pre B X ss fun d => ∃ k, d = .bl k ∧ if k = true then b.pre B X ss C else C (.bl false)) := rfl
@[simp] theorem orV_pre (a b : XE G) {C : D → Prop} : ((orV a b) : XE G).pre B X ss C = (a.pre B X ss fun d => ∃ k, d = .bl k ∧ if k = true then C (.bl true) else b.pre B X ss C) := rfl
@[simp] theorem notV_pre (a : XE G) {C : D → Prop} : ((notV a) : XE G).pre B X ss C = (a.pre B X ss fun d => ∃ k, d = .bl k ∧ C (.bl (!k))) := rfl
@[simp] theorem ifE_pre (t : XT G) (a b : XE G) {C : D → Prop} : ((ifE t a b) : XE G).pre B X ss C = (t.pre B X ss fun k => if k = true then a.pre B X ss C else b.pre B X ss C) := rfl
@[simp] theorem chain_pre (r r' : XR) (a b c : XE G) {C : D → Prop} : ((chain r r' a b c) : XE G).pre B X ss C = (a.pre B X ss fun x => b.pre B X ss fun y => r.pre x y fun z => ∃ k, z = .bl k ∧ if k = true then c.pre B X ss fun w => r'.pre y w C else C (.bl false)) := rfl
@[simp] theorem isN_pre (a : XE G) {C : D → Prop} : ((isN a) : XE G).pre B X ss C = (a.pre B X ss fun d => C (.bl (isNon d))) := rfl
@[simp] theorem notN_pre (a : XE G) {C : D → Prop} : ((notN a) : XE G).pre B X ss C = (a.pre B X ss fun d => C (.bl (!isNon d))) := rfl
@[simp] theorem anil_pre {C : List D → Prop} : ((anil) : XA G).pre B X ss C = (C []) := rfl
@[simp] theorem acons_pre (a : XE G) (r : XA G) {C : List D → Prop} : ((acons a r) : XA G).pre B X ss C = (a.pre B X ss fun x => r.pre B X ss fun xs => C (x :: xs)) := rfl
@[simp] theorem cb_pre (r : XB) (a : XA G) {C : D → Prop} : ((cb r a) : XE G).pre B X ss C = (a.pre B X ss fun xs => r.pre xs C) := rfl
@[simp] theorem cbO_pre (r : XBO) (a : XA G) {C : List D → Prop} : ((cbO r a) : XO G).pre B X ss C = (a.pre B X ss fun xs => r.pre xs C) := rfl
@[simp] theorem tup_pre (a : XA G) {C : D → Prop} : ((tup a) : XE G).pre B X ss C = (a.pre B X ss fun xs => xs.length ≤ 100000 ∧ C (.tup xs)) := rfl
@[simp] theorem lst_pre (a : XA G) {C : List D → Prop} : ((lst a) : XO G).pre B X ss C = (a.pre B X ss fun xs => xs.length ≤ 100000 ∧ C xs) := rfl
@[simp] theorem call0_pre (f : XF) (a : XA G) {C : D → Prop} : ((call0 f a) : XE G).pre B X ss C = (a.pre B X ss fun ds => f.F B ds C fun _ => False) := rfl
@[simp] theorem callE_pre (f : XF) (a : XA G) {C : D → Prop} : ((callE f a) : XE G).pre B X ss C = (a.pre B X ss fun ds => f.F B ds C X) := rfl
@[simp] theorem test_pre (a : XE G) {C : Bool → Prop} : ((test a) : XT G).pre B X ss C = (a.pre B X ss fun d => ∃ b, d = .bl b ∧ C b) := rfl
@[simp] theorem tB2_pre (a : XE G) {C : Bool → Prop} : ((tB' a) : XT G).pre B X ss C = (a.pre B X ss fun d => ∃ b, d = .bl b ∧ C b) := rfl
@[simp] theorem yes_pre {C : Bool → Prop} : ((yes) : XT G).pre B X ss C = (C true) := rfl
@[simp] theorem notT_pre (a : XT G) {C : Bool → Prop} : ((notT a) : XT G).pre B X ss C = (a.pre B X ss fun b => C (!b)) := rfl
@[simp] theorem andT_pre (a b : XT G) {C : Bool → Prop} : ((andT a b) : XT G).pre B X ss C = (a.pre B X ss fun k => if k = true then b.pre B X ss C else C false) := rfl
@[simp] theorem orT_pre (a b : XT G) {C : Bool → Prop} : ((orT a b) : XT G).pre B X ss C = (a.pre B X ss fun k => if k = true then C true else b.pre B X ss C) := rfl
@[simp] theorem gname_pre (i : Nat) {d : D} {C : List Sl → Prop} : ((gname i) : XG).pre d ss C = (i < ss.length ∧ C (ss.set i (.val d))) := rfl
@[simp] theorem gpair_pre (i j : Nat) {d : D} {C : List Sl → Prop} : ((gpair i j) : XG).pre d ss C = (i < ss.length ∧ j < ss.length ∧ match d with
    | .tup [x, y] => C ((ss.set i (.val x)).set j (.val y))
    | .lst [x, y] => C ((ss.set i (.val x)).set j (.val y))
    | _ => False) := rfl
@[simp] theorem skip_pre {e : En} : ((skip) : XS G).pre B X ss e = (e.nx ss) := rfl
@[simp] theorem ret_pre (a : XE G) {e : En} : ((ret a) : XS G).pre B X ss e = (a.pre B X ss fun d => e.rt (.val d)) := rfl
@[simp] theorem retN_pre {e : En} : ((retN) : XS G).pre B X ss e = (e.rt (.val .non)) := rfl
@[simp] theorem ifS_pre (t : XT G) (a b : XS G) {e : En} : ((ifS t a b) : XS G).pre B X ss e = (t.pre B X ss fun k => if k = true then a.pre B X ss e else b.pre B X ss e) := rfl
@[simp] theorem asg_pre (a : XE G) (g : XG) {e : En} : ((asg a g) : XS G).pre B X ss e = (a.pre B X ss fun d => g.pre d ss e.nx) := rfl
@[simp] theorem set_pre (i : Nat) (a : XE G) {e : En} : ((set i a) : XS G).pre B X ss e = (i < ss.length ∧ a.pre B X ss fun d => e.nx (ss.set i (.val d))) := rfl
@[simp] theorem setO_pre (i : Nat) (a : XO G) {e : En} : ((setO i a) : XS G).pre B X ss e = (i < ss.length ∧ a.pre B X ss fun d => e.nx (ss.set i (.own d))) := rfl
@[simp] theorem par_pre (i j : Nat) (a : XA G) {e : En} : ((par i j a) : XS G).pre B X ss e = (i < ss.length ∧ j < ss.length ∧ a.pre B X ss fun ds => match ds with
    | [x, y] => e.nx ((ss.set i (.val x)).set j (.val y))
    | _ => False) := rfl
@[simp] theorem drop_pre (a : XE G) {e : En} : ((drop a) : XS G).pre B X ss e = (a.pre B X ss fun _ => e.nx ss) := rfl
@[simp] theorem freeze_pre (i : Nat) (s : XS G) {e : En} : ((freeze i s) : XS G).pre B X ss e = (getO ss i fun xs => s.pre B X (ss.set i (.val (.lst xs))) e) := rfl
@[simp] theorem app_pre (i : Nat) (a : XE G) {e : En} : ((app i a) : XS G).pre B X ss e = (getO ss i fun xs => xs.length < 100000 ∧ a.pre B X ss fun d => e.nx (ss.set i (.own (xs ++ [d])))) := rfl
@[simp] theorem aug_pre (i : Nat) (f : Int → Int → Int) (a : XE G) {e : En} : ((aug i f a) : XS G).pre B X ss e = (getV ss i fun d => match d with
    | .int n => a.pre B X ss fun d => ∃ m, d = .int m ∧ e.nx (ss.set i (.val (.int (f n m))))
    | _ => False) := rfl
@[simp] theorem put_pre (i : Nat) (a ix : XE G) {e : En} : ((put i a ix) : XS G).pre B X ss e = (getO ss i fun xs => a.pre B X ss fun d => ix.pre B X ss fun y => ∃ j m, y = .int j ∧ ixN xs.length j = some m ∧ e.nx (ss.set i (.own (xs.set m d)))) := rfl
@[simp] theorem augO_pre (i : Nat) (f : Int → Int → Int) (a ix : XE G) {e : En} : ((augO i f a ix) : XS G).pre B X ss e = (getO ss i fun xs => ix.pre B X ss fun y => ∃ j m n, y = .int j ∧ ixN xs.length j = some m ∧ xs[m]? = some (.int n) ∧ a.pre B X ss fun d => ∃ z, d = .int z ∧ e.nx (ss.set i (.own (xs.set m (.int (f n z)))))) := rfl
@[simp] theorem popD_pre (i : Nat) {e : En} : ((popD i) : XS G).pre B X ss e = (getO ss i fun xs => xs ≠ [] ∧ e.nx (ss.set i (.own xs.dropLast))) := rfl
@[simp] theorem ixOwn_pre (i : Nat) (a : XE G) {C : D → Prop} : ((ixOwn i a) : XE G).pre B X ss C = (getO ss i fun xs => a.pre B X ss fun y => ∃ j d, y = .int j ∧ atI xs j = some d ∧ C d) := rfl
@[simp] theorem lenOwn_pre (i : Nat) {C : D → Prop} : ((lenOwn i) : XE G).pre B X ss C = (getO ss i fun xs => C (.int xs.length)) := rfl
@[simp] theorem nope_pre {e : En} : ((nope) : XS G).pre B X ss e = (False) := rfl
@[simp] theorem brk_pre {e : En} : ((brk) : XS G).pre B X ss e = (e.bk ss) := rfl
@[simp] theorem cont_pre {e : En} : ((cont) : XS G).pre B X ss e = (e.ct ss) := rfl
@[simp] theorem raise0_pre (c : Addr) {e : En} : ((raise0 c) : XS G).pre B X ss e = (X ⟨c, [], []⟩) := rfl
@[simp] theorem raise1_pre (c : Addr) (fl : Str) (a : XA G) {e : En} : ((raise1 c fl a) : XS G).pre B X ss e = (a.pre B X ss fun ds => ∃ d, ds = [d] ∧ X ⟨c, [fl], [d]⟩) := rfl
@[simp] theorem lc_pre (w : XI G) (g : XG) (t : XT G) (a : XE G) {C : List D → Prop} : ((lc w g t a) : XO G).pre B X ss C = (w.pre B X ss fun ds => ds.length ≤ 100000 ∧ lcW (lcT g t a B X ss) ds [] C) := rfl
@[simp] theorem iseq_pre (a : XE G) {C : List D → Prop} : ((iseq a) : XI G).pre B X ss C = (a.pre B X ss fun d => match d with
    | .lst xs => C xs
    | .tup xs => C xs
    | _ => False) := rfl
@[simp] theorem irng1_pre (a : XA G) {C : List D → Prop} : ((irng1 a) : XI G).pre B X ss C = (a.pre B X ss fun ds => match ds with
    | [.int j] => (-(2 ^ 62) ≤ j ∧ j < 2 ^ 62) ∧ C (rngD 0 j.toNat)
    | _ => False) := rfl
@[simp] theorem irng3_pre (a : XA G) {C : List D → Prop} : ((irng3 a) : XI G).pre B X ss C = (a.pre B X ss fun ds => match ds with
    | [.int i, .int j, .int k] => k = -1 ∧ (-(2 ^ 62) ≤ i ∧ i < 2 ^ 62 ∧ -(2 ^ 62) ≤ j ∧ j < 2 ^ 62) ∧ C (rngDn i (i - j).toNat)
    | _ => False) := rfl
@[simp] theorem irng2_pre (a : XA G) {C : List D → Prop} : ((irng2 a) : XI G).pre B X ss C = (a.pre B X ss fun ds => match ds with
    | [.int i, .int j] => (-(2 ^ 62) ≤ i ∧ i < 2 ^ 62 ∧ -(2 ^ 62) ≤ j ∧ j < 2 ^ 62) ∧ C (rngD i (j - i).toNat)
    | _ => False) := rfl
@[simp] theorem izip_pre (a : XA G) {C : List D → Prop} : ((izip a) : XI G).pre B X ss C = (a.pre B X ss fun ds => match ds with
    | [.lst x, .lst y] => C (zipD x y)
    | [.tup x, .tup y] => C (zipD x y)
    | [.lst x, .tup y] => C (zipD x y)
    | _ => False) := rfl
@[simp] theorem ienumT_pre (a : XA G) {C : List D → Prop} : ((ienumT a) : XI G).pre B X ss C = (a.pre B X ss fun ds => match ds with
    | [.tup x] => C (enumD 0 x)
    | _ => False) := rfl
@[simp] theorem ienumL_pre (a : XA G) {C : List D → Prop} : ((ienumL a) : XI G).pre B X ss C = (a.pre B X ss fun ds => match ds with
    | [.lst x] => C (enumD 0 x)
    | _ => False) := rfl
@[simp] theorem rsub_pre {x y : D} {C : D → Prop} : ((rsub) : XR).pre x y C = (I2 (fun i j => C (.int (i - j))) x y) := rfl
@[simp] theorem rlt_pre {x y : D} {C : D → Prop} : ((rlt) : XR).pre x y C = (I2 (fun i j => C (.bl (decide (i < j)))) x y) := rfl
@[simp] theorem rle_pre {x y : D} {C : D → Prop} : ((rle) : XR).pre x y C = (I2 (fun i j => C (.bl (decide (i ≤ j)))) x y) := rfl
@[simp] theorem rgt_pre {x y : D} {C : D → Prop} : ((rgt) : XR).pre x y C = (I2 (fun i j => C (.bl (decide (j < i)))) x y) := rfl
@[simp] theorem rge_pre {x y : D} {C : D → Prop} : ((rge) : XR).pre x y C = (I2 (fun i j => C (.bl (decide (j ≤ i)))) x y) := rfl
@[simp] theorem rmod_pre {x y : D} {C : D → Prop} : ((rmod) : XR).pre x y C = (I2 (fun i j => 0 < j ∧ C (.int (i % j))) x y) := rfl
@[simp] theorem rfdiv_pre {x y : D} {C : D → Prop} : ((rfdiv) : XR).pre x y C = (I2 (fun i j => CDivW i j ∧ C (.int (i / j))) x y) := rfl
@[simp] theorem rpow_pre {x y : D} {C : D → Prop} : ((rpow) : XR).pre x y C = (I2 (fun i j => CPowW i j ∧ C (.int (i ^ j.toNat))) x y) := rfl
@[simp] theorem radd_pre {x y : D} {C : D → Prop} : ((radd) : XR).pre x y C = (addP x y C) := rfl
@[simp] theorem rmul_pre {x y : D} {C : D → Prop} : ((rmul) : XR).pre x y C = (mulP x y C) := rfl
@[simp] theorem rtmul_pre {x y : D} {C : D → Prop} : ((rtmul) : XR).pre x y C = (tmulP x y C) := rfl
@[simp] theorem req_pre {x y : D} {C : D → Prop} : ((req) : XR).pre x y C = ((pyk 64 x = true ∧ pyk 64 y = true) ∧ C (.bl (eqD x y))) := rfl
@[simp] theorem rne_pre {x y : D} {C : D → Prop} : ((rne) : XR).pre x y C = ((pyk 64 x = true ∧ pyk 64 y = true) ∧ C (.bl (!eqD x y))) := rfl
@[simp] theorem reqS_pre {x y : D} {C : D → Prop} : ((reqS) : XR).pre x y C = (S2 (fun i j => C (.bl (i == j))) x y) := rfl
@[simp] theorem rneS_pre {x y : D} {C : D → Prop} : ((rneS) : XR).pre x y C = (S2 (fun i j => C (.bl (!(i == j)))) x y) := rfl
@[simp] theorem risB_pre {x y : D} {C : D → Prop} : ((risB) : XR).pre x y C = (L2b (fun i j => C (.bl (i == j))) x y) := rfl
@[simp] theorem rnotB_pre {x y : D} {C : D → Prop} : ((rnotB) : XR).pre x y C = (L2b (fun i j => C (.bl (!(i == j)))) x y) := rfl
@[simp] theorem rix_pre {x y : D} {C : D → Prop} : ((rix) : XR).pre x y C = (ixP x y C) := rfl
@[simp] theorem rin_pre {x y : D} {C : D → Prop} : ((rin) : XR).pre x y C = (inP false x y C) := rfl
@[simp] theorem rnotin_pre {x y : D} {C : D → Prop} : ((rnotin) : XR).pre x y C = (inP true x y C) := rfl
@[simp] theorem blen_pre {xs : List D} {C : D → Prop} : ((blen) : XB).pre xs C = (lenP xs C) := rfl
@[simp] theorem bint_pre {xs : List D} {C : D → Prop} : ((bint) : XB).pre xs C = (intP xs C) := rfl
@[simp] theorem babs_pre {xs : List D} {C : D → Prop} : ((babs) : XB).pre xs C = (absP xs C) := rfl
@[simp] theorem bsum_pre {xs : List D} {C : D → Prop} : ((bsum) : XB).pre xs C = (sumP xs C) := rfl
@[simp] theorem btup_pre {xs : List D} {C : D → Prop} : ((btup) : XB).pre xs C = (tupP xs C) := rfl
@[simp] theorem blst_pre {xs : List D} {C : List D → Prop} : ((blst) : XBO).pre xs C = (lstP xs C) := rfl
@[simp] theorem ball_pre {xs : List D} {C : D → Prop} : ((ball) : XB).pre xs C = (allP xs C) := rfl
@[simp] theorem bany_pre {xs : List D} {C : D → Prop} : ((bany) : XB).pre xs C = (anyP xs C) := rfl
@[simp] theorem bdivmod_pre {xs : List D} {C : D → Prop} : ((bdivmod) : XB).pre xs C = (divmodP xs C) := rfl
@[simp] theorem bsrt_pre {xs : List D} {C : D → Prop} : ((bsrt) : XB).pre xs C = (srtP xs C) := rfl
@[simp] theorem srtR_pre (a : XA G) {C : List D → Prop} : ((srtR a) : XO G).pre B X ss C = (a.pre B X ss fun ds => match ds with
    | [d] => ∃ xs, seqOf d = some xs ∧ ∃ ns, intsOf xs = some ns ∧ C ((down ns).map .int)
    | _ => False) := rfl
@[simp] theorem bisi_pre {xs : List D} {C : D → Prop} : ((bisi) : XB).pre xs C = (isiP xs C) := rfl
@[simp] theorem brepr_pre {xs : List D} {C : D → Prop} : ((brepr) : XB).pre xs C = (reprP xs C) := rfl
@[simp] theorem pno_pre {C : Option Int → Prop} : ((pno) : XPt G).pre B X ss C = (C none) := rfl
@[simp] theorem psome_pre (a : XE G) {C : Option Int → Prop} : ((psome a) : XPt G).pre B X ss C = (a.pre B X ss fun d => ∃ i, d = .int i ∧ C (some i)) := rfl
@[simp] theorem slc_pre (a : XE G) (lo hi : XPt G) {C : D → Prop} : ((slc a lo hi) : XE G).pre B X ss C = (a.pre B X ss fun d => lo.pre B X ss fun i => hi.pre B X ss fun j => cutP d i j C) := rfl
@[simp] theorem revL_pre (a : XE G) {C : List D → Prop} : ((revL a) : XO G).pre B X ss C = (a.pre B X ss fun d => match d with
    | .lst xs => C xs.reverse
    | _ => False) := rfl
@[simp] theorem revT_pre (a : XE G) {C : D → Prop} : ((revT a) : XE G).pre B X ss C = (a.pre B X ss fun d => match d with
    | .tup xs => C (.tup xs.reverse)
    | _ => False) := rfl
@[simp] theorem dnew_pre {C : D → Prop} : ((dnew) : XE G).pre B X ss C = (C (.dk [] [])) := rfl
@[simp] theorem ddisp1_pre (i j : Int) {C : D → Prop} : ((ddisp1 i j) : XE G).pre B X ss C = (C (.dk [.inl i] [.int j])) := rfl
@[simp] theorem lamX_pre (T0 : List (Addr × Str)) (outs : Fr → Value → Option Addr → Hp → VK → Prop) (oX : Exc → (D → Prop) → Prop) (hO : ∀ {K : Fr} {x : Exc} {C : D → Prop}, G K → oX x C → wpX K (outs K) x C) (mO : ∀ {x : Exc} {C C' : D → Prop}, (∀ d, C d → C' d) → oX x C → oX x C') (a : XE G) {C : D → Prop} : ((lamX T0 outs oX hO mO a) : XE G).pre B X ss C = (B.tb T0 ∧ ∀ B', Sc.le B B' → a.pre B' (fun x => oX x C) (deown ss) C) := rfl
@[simp] theorem callBowl_pre (f : XF) (a : XA G) {C : D → Prop} : ((callBowl f a) : XE G).pre B X ss C = (a.pre B X ss fun ds => (∃ (ns : List Int) (i : Nat), ds = [.scr ns, .int i] ∧ i ≤ 1000) ∧ ∀ (B' : Sc) (p : Addr), B' p → (∀ T, B.tb T → B'.tb T) → f.F B' [.cell p] C fun _ => False) := rfl
@[simp] theorem gnil_pre {d : List D} {C : List Sl → Prop} : ((gnil) : XGs).pre d ss C = (d = [] ∧ C ss) := rfl
@[simp] theorem gcons_pre (g : XG) (r : XGs) {d : List D} {C : List Sl → Prop} : ((gcons g r) : XGs).pre d ss C = (match d with
    | x :: xs => g.pre x ss fun s2 => r.pre xs s2 C
    | [] => False) := rfl
@[simp] theorem gtup_pre (n : Nat) (g : XGs) {d : D} {C : List Sl → Prop} : ((gtup n g) : XG).pre d ss C = (match d with
    | .tup xs => xs.length = n ∧ g.pre xs ss C
    | _ => False) := rfl
@[simp] theorem rinA_pre (neg : Bool) {x y : D} {C : D → Prop} : ((rinA neg) : XR).pre x y C = (inA neg x y C) := rfl
@[simp] theorem neg_pre (a : XE G) {C : D → Prop} : ((neg a) : XE G).pre B X ss C = (a.pre B X ss fun d => match d with
    | .int i => C (.int (-i))
    | _ => False) := rfl
@[simp] theorem opO_pre (r : XRO) (a b : XE G) {C : List D → Prop} : ((opO r a b) : XO G).pre B X ss C = (a.pre B X ss fun x => b.pre B X ss fun y => r.pre x y C) := rfl
@[simp] theorem raddO_pre {x y : D} {C : List D → Prop} : ((raddO) : XRO).pre x y C = (addO x y C) := rfl
@[simp] theorem rmulO_pre {x y : D} {C : List D → Prop} : ((rmulO) : XRO).pre x y C = (mulO x y C) := rfl
@[simp] theorem lstRg_pre (a : XE G) {C : List D → Prop} : ((lstRg a) : XO G).pre B X ss C = (a.pre B X ss fun d => match d with
    | .int n => RgOk 0 n ∧ C (rngD 0 n.toNat)
    | _ => False) := rfl
@[simp] theorem lstRg2_pre (a b : XE G) {C : List D → Prop} : ((lstRg2 a b) : XO G).pre B X ss C = (a.pre B X ss fun x => b.pre B X ss fun y => match x, y with
    | .int i, .int j => RgOk i j ∧ C (rngD i (j - i).toNat)
    | _, _ => False) := rfl
@[simp] theorem ext_pre (i : Nat) (a : XE G) {e : En} : ((ext i a) : XS G).pre B X ss e = (getO ss i fun xs => a.pre B X ss fun d => match d with
    | .lst zs => xs.length + zs.length ≤ 100000 ∧ e.nx (ss.set i (.own (xs ++ zs)))
    | _ => False) := rfl
@[simp] theorem popSet_pre (i j : Nat) {e : En} : ((popSet i j) : XS G).pre B X ss e = (getO ss i fun xs => i ≠ j ∧ j < ss.length ∧ ∃ d, xs.getLast? = some d ∧ e.nx ((ss.set i (.own xs.dropLast)).set j (.val d))) := rfl
@[simp] theorem parOE_pre (i j : Nat) (a : XO G) (b : XE G) {e : En} : ((parOE i j a b) : XS G).pre B X ss e = (i < ss.length ∧ j < ss.length ∧ a.pre B X ss fun xs => b.pre B X ss fun y => e.nx ((ss.set i (.own xs)).set j (.val y))) := rfl
@[simp] theorem parEO_pre (i j : Nat) (a : XE G) (b : XO G) {e : En} : ((parEO i j a b) : XS G).pre B X ss e = (i < ss.length ∧ j < ss.length ∧ a.pre B X ss fun x => b.pre B X ss fun ys => e.nx ((ss.set i (.val x)).set j (.own ys))) := rfl
@[simp] theorem parOO_pre (i j : Nat) (a : XO G) (b : XO G) {e : En} : ((parOO i j a b) : XS G).pre B X ss e = (i < ss.length ∧ j < ss.length ∧ a.pre B X ss fun x => b.pre B X ss fun ys => e.nx ((ss.set i (.own x)).set j (.own ys))) := rfl
@[simp] theorem par3_pre (i j k : Nat) (a : XA G) {e : En} : ((par3 i j k a) : XS G).pre B X ss e = (i < ss.length ∧ j < ss.length ∧ k < ss.length ∧ a.pre B X ss fun ds => match ds with
    | [x, y, z] => e.nx (((ss.set i (.val x)).set j (.val y)).set k (.val z))
    | _ => False) := rfl
@[simp] theorem xv_pre (a : XE G) {C : Sl → Prop} : ((xv a) : XL G).pre B X ss C = (a.pre B X ss fun d => C (.val d)) := rfl
@[simp] theorem xo_pre (a : XO G) {C : Sl → Prop} : ((xo a) : XL G).pre B X ss C = (a.pre B X ss fun d => C (.own d)) := rfl
@[simp] theorem par3s_pre (i j k : Nat) (a b c : XL G) {e : En} : ((par3s i j k a b c) : XS G).pre B X ss e = (i < ss.length ∧ j < ss.length ∧ k < ss.length ∧ a.pre B X ss fun x => b.pre B X ss fun y => c.pre B X ss fun z => e.nx (((ss.set i x).set j y).set k z)) := rfl
@[simp] theorem bmax_pre {xs : List D} {C : D → Prop} : ((bmax) : XB).pre xs C = (maxP xs C) := rfl
@[simp] theorem bmin_pre {xs : List D} {C : D → Prop} : ((bmin) : XB).pre xs C = (minP xs C) := rfl
@[simp] theorem ienumZ_pre (a : XA G) {C : List D → Prop} : ((ienumZ a) : XI G).pre B X ss C = (a.pre B X ss fun ds => match ds with
    | [.tup x, .tup y] => C (enumD 0 (zipD x y))
    | _ => False) := rfl
@[simp] theorem aapp_pre (n m : Nat) (a b : XA G) {C : List D → Prop} : ((aapp n m a b) : XA G).pre B X ss C = (a.pre B X ss fun xs => xs.length = n ∧ b.pre B X ss fun ys => ys.length = m ∧ C (xs ++ ys)) := rfl
@[simp] theorem adef_pre (d : Int) (a : XA G) {C : List D → Prop} : ((adef d a) : XA G).pre B X ss C = (a.pre B X ss fun xs => C (xs ++ [.int d])) := rfl
@[simp] theorem lstZ_pre (a : XA G) {C : List D → Prop} : ((lstZ a) : XO G).pre B X ss C = (a.pre B X ss fun ds => match ds with
    | [.tup xs, .tup ys] => C (zipD xs ys)
    | _ => False) := rfl
/-- a statement that waits until its slots are known -/
def run (t : XS G) (B : Sc) (X : XP) (ss : List Sl) (e : En) : Prop := t.pre B X ss e
@[simp] theorem run_cons {t : XS G} {B : Sc} {X : XP} {s : Sl} {r : List Sl} {e : En} : run t B X (s :: r) e = t.pre B X (s :: r) e := rfl
@[simp] theorem seq_pre {s t : XS G} {e : En} : (seq s t).pre B X ss e = s.pre B X ss { nx := fun ss => run t B X ss e, rt := e.rt, bk := e.bk, ct := e.ct } := rfl
/-- the turn of a loop -/
def trn (g : XG) (s : XS G) (B : Sc) (X : XP) (d : D) (ss : List Sl) (e : En) : Prop := g.pre d ss fun ss2 => s.pre B X ss2 e
@[simp] theorem trn_cons {g : XG} {s : XS G} {B : Sc} {X : XP} {d : D} {a : Sl} {r : List Sl} {e : En} : trn g s B X d (a :: r) e = g.pre d (a :: r) fun ss2 => run s B X ss2 e := rfl
@[simp] theorem xfor_pre {w : XI G} {g : XG} {s : XS G} {e : En} : (xfor w g s).pre B X ss e = w.pre B X ss fun ds => forW (trn g s B X) ds ss e := rfl
def tst (t : XT G) (B : Sc) (X : XP) (ss : List Sl) (C : Bool → Prop) : Prop := t.pre B X ss C
@[simp] theorem tst_cons {t : XT G} {B : Sc} {X : XP} {s : Sl} {r : List Sl} {C : Bool → Prop} : tst t B X (s :: r) C = t.pre B X (s :: r) C := rfl
@[simp] theorem xwhile_pre {t : XT G} {s : XS G} {e : En} : (xwhile t s).pre B X ss e = ∃ n, whW (tst t B X) (run s B X) n ss e := rfl
@[simp] theorem bowlS_pre {i : Nat} {a : XA G} {s : XS G} {e : En} : (bowlS i a s).pre B X ss e = (i < ss.length ∧ a.pre B X ss fun ds => (∃ (ns : List Int) (i : Nat), ds = [.scr ns, .int i] ∧ i ≤ 1000) ∧ ∀ (B' : Sc) (p : Addr), B' p → Sc.le B B' → s.pre B' X (ss.set i (.val (.cell p))) e) := rfl
@[simp] theorem natInj {a b : Nat} : ((a : Int) = (b : Int)) = (a = b) := propext Int.ofNat_inj
@[simp] theorem us_name {i : Nat} : (gname i).us = [i] := rfl
@[simp] theorem us_pair {i j : Nat} : (gpair i j).us = [i, j] := rfl
@[simp] theorem us_nil : gnil.us = [] := rfl
@[simp] theorem us_cons {g : XG} {r : XGs} : (gcons g r).us = g.us ++ r.us := rfl
@[simp] theorem us_tup {n : Nat} {g : XGs} : (gtup n g).us = g.us := rfl
@[simp] theorem wipeS_nil {ss : List Sl} : wipeS ss [] = ss := rfl
@[simp] theorem wipeS_cons {ss : List Sl} {v : Nat} {vs : List Nat} : wipeS ss (v :: vs) = (wipeS ss vs).set v .un := rfl
@[simp] theorem lcT_def {g : XG} {t : XT G} {a : XE G} {B : Sc} {X : XP} {ss : List Sl} {d : D} {C : Option D → Prop} : lcT g t a B X ss d C =
  g.pre d (wipeS ss g.us) fun s2 => t.pre B X s2 fun k => if k = true then a.pre B X s2 fun y => C (some y) else C none := rfl
theorem xf_F {n m : Nat} {s : XS G} {B : Sc} {ds : List D} {C : D → Prop} {X : XP} : (xf n m s).F B ds C X = (ds.length = n ∧ s.pre B X (ds.map Sl.val ++ List.replicate (m - ds.length) .un) (en0 C)) := rfl
@[simp] theorem rtV_val {C : D → Prop} {d : D} : rtV C (.val d) = C d := rfl
@[simp] theorem forW_nil {b : D → List Sl → En → Prop} {ss : List Sl} {e : En} : forW b [] ss e = e.nx ss := rfl
@[simp] theorem lcW_nil {b : D → (Option D → Prop) → Prop} {acc : List D} {C : List D → Prop} : lcW b [] acc C = C acc := rfl
theorem forW_cons {b : D → List Sl → En → Prop} {d : D} {r : List D} {ss : List Sl} {e : En} : forW b (d :: r) ss e = b d ss { nx := fun s => forW b r s e, ct := fun s => forW b r s e, bk := e.nx, rt := e.rt } := rfl
theorem lcW_cons {b : D → (Option D → Prop) → Prop} {d : D} {r acc : List D} {C : List D → Prop} : lcW b (d :: r) acc C = b d fun o => lcW b r (acc ++ o.toList) C := rfl
/-- a comprehension whose turns are values -/
theorem lcW_eq {b : D → (Option D → Prop) → Prop} {f : D → Option D} : ∀ {ds acc : List D} {C : List D → Prop}, (∀ d ∈ ds, ∀ Q, b d Q = Q (f d)) → lcW b ds acc C = C (acc ++ ds.filterMap f)
  | [], acc, C, _ => by simp
  | d :: r, acc, C, h => by
    rw [lcW_cons, h d List.mem_cons_self, lcW_eq fun x m => h x (List.mem_cons_of_mem _ m)]
    cases e : f d <;> simp [e]
/-- .. that keep something -/
theorem lcW_all {b : D → (Option D → Prop) → Prop} {P : D → Prop} : ∀ {ds acc : List D} {C : List D → Prop}, (∀ d ∈ ds, ∀ Q : Option D → Prop, (∀ y, P y → Q (some y)) → b d Q) → (∀ ys : List D, ys.length = ds.length → (∀ y ∈ ys, P y) → C (acc ++ ys)) → lcW b ds acc C
  | [], acc, C, _, c => by simpa using c [] rfl (by simp)
  | d :: r, acc, C, h, c => by
    rw [lcW_cons]
    refine h d List.mem_cons_self _ fun y hy => ?_
    refine lcW_all (fun x m => h x (List.mem_cons_of_mem _ m)) fun ys hl hp => ?_
    have := c (y :: ys) (by simp [hl]) (fun z hz => by rcases List.mem_cons.mp hz with rfl | hz; exact hy; exact hp z hz)
    simpa using this
/-- a loop by what holds between its turns -/
theorem forW_inv {b : D → List Sl → En → Prop} {ds : List D} {ss : List Sl} {e : En} (I : Nat → List Sl → Prop) (h0 : I 0 ss)
    (turn : ∀ i d ss', ds[i]? = some d → I i ss' → ∀ e' : En, (∀ s, I (i + 1) s → e'.nx s) → (∀ s, I (i + 1) s → e'.ct s) → (∀ s, e.nx s → e'.bk s) → (∀ s, e.rt s → e'.rt s) → b d ss' e') (hend : ∀ ss', I ds.length ss' → e.nx ss') : forW b ds ss e := by
  have key : ∀ (r : List D) (i : Nat) (ss' : List Sl), ds.drop i = r → i + r.length = ds.length → I i ss' → forW b r ss' e := by
    intro r
    induction r with
    | nil => intro i ss' h1 h2 h3; simp at h2; subst h2; exact hend ss' h3
    | cons d r ih =>
      intro i ss' h1 h2 h3
      have hd : ds[i]? = some d := by
        have : (ds.drop i)[0]? = some d := by rw [h1]; rfl
        simpa using this
      have hr : ds.drop (i + 1) = r := by
        rw [← List.drop_drop, h1]; rfl
      simp only [List.length_cons] at h2
      exact turn i d ss' hd h3 _ (fun s hs => ih (i + 1) s hr (by omega) hs) (fun s hs => ih (i + 1) s hr (by omega) hs) (fun s h => h) (fun s h => h)
  exact key ds 0 ss rfl (by simp) h0
/-- a loop whose turns are all alike: a state of one's own -/
theorem forW_fold {α β : Type} {b : D → List Sl → En → Prop} {e : En} (S : α → List Sl) (g : β → D) (f : α → β → α) (h : ∀ a x e', (∀ s, e'.nx s = e'.nx s) → b (g x) (S a) e' = e'.nx (S (f a x))) : ∀ (xs : List β) (a : α), forW b (xs.map g) (S a) e = e.nx (S (xs.foldl f a))
  | [], a => rfl
  | x :: r, a => by
    rw [List.map_cons, forW_cons, h a x _ (fun _ => rfl)]
    exact forW_fold S g f h r (f a x)
/-! ### types -/
@[simp] theorem ty_non : Typed .non := ⟨_, rfl⟩
@[simp] theorem ty_bl {b : Bool} : Typed (.bl b) := ⟨_, rfl⟩
@[simp] theorem ty_int {b : Int} : Typed (.int b) := ⟨_, rfl⟩
@[simp] theorem ty_str {b : Str} : Typed (.str b) := ⟨_, rfl⟩
@[simp] theorem ty_tup {b : List D} : Typed (.tup b) := ⟨_, rfl⟩
@[simp] theorem ty_lst {b : List D} : Typed (.lst b) := ⟨_, rfl⟩
@[simp] theorem ty_dk {k : List Key} {b : List D} : Typed (.dk k b) := ⟨_, rfl⟩
theorem isi_core {d : D} {m : String} {f : D → Bool} {C : D → Prop} (h : Typed d) (k : ∀ n, tyName d = some n → kitB n m = some (f d)) : isiP [d, .ty m] C = C (.bl (f d)) := by
  obtain ⟨n, hn⟩ := h
  rw [isiP_ty]
  refine propext ⟨?_, fun c => ⟨n, hn, _, k n hn, c⟩⟩
  rintro ⟨n', e, b, e2, c⟩
  rw [hn] at e; cases e
  rw [k n hn] at e2; cases e2
  exact c
@[simp] theorem isi_int {d : D} {C : D → Prop} (h : Typed d) : isiP [d, .ty "int"] C = C (.bl (dInt d)) := isi_core h fun n e => by cases d <;> first | (cases e; done) | (cases e; first | (show kitB _ _ = some false; decide +kernel) | (show kitB _ _ = some true; decide +kernel))
@[simp] theorem isi_bool {d : D} {C : D → Prop} (h : Typed d) : isiP [d, .ty "bool"] C = C (.bl (dBl d)) := isi_core h fun n e => by cases d <;> first | (cases e; done) | (cases e; first | (show kitB _ _ = some false; decide +kernel) | (show kitB _ _ = some true; decide +kernel))
@[simp] theorem isi_tup {d : D} {C : D → Prop} (h : Typed d) : isiP [d, .ty "tuple"] C = C (.bl (dTup d)) := isi_core h fun n e => by cases d <;> first | (cases e; done) | (cases e; first | (show kitB _ _ = some false; decide +kernel) | (show kitB _ _ = some true; decide +kernel))
@[simp] theorem isi_lst {d : D} {C : D → Prop} (h : Typed d) : isiP [d, .ty "list"] C = C (.bl (dLst d)) := isi_core h fun n e => by cases d <;> first | (cases e; done) | (cases e; first | (show kitB _ _ = some false; decide +kernel) | (show kitB _ _ = some true; decide +kernel))
@[simp] theorem isi_str {d : D} {C : D → Prop} (h : Typed d) : isiP [d, .ty "str"] C = C (.bl (dStr d)) := isi_core h fun n e => by cases d <;> first | (cases e; done) | (cases e; first | (show kitB _ _ = some false; decide +kernel) | (show kitB _ _ = some true; decide +kernel))
theorem lcW_map {b : D → (Option D → Prop) → Prop} {β : Type} {e : β → D} {f : β → D} : ∀ {l : List β} {acc : List D} {C : List D → Prop}, (∀ x ∈ l, ∀ Q, b (e x) Q = Q (some (f x))) → lcW b (l.map e) acc C = C (acc ++ l.map f)
  | [], acc, C, _ => by simp
  | x :: r, acc, C, h => by
    rw [List.map_cons, lcW_cons, h x List.mem_cons_self, lcW_map fun y m => h y (List.mem_cons_of_mem _ m)]
    simp
theorem lcW_fil {b : D → (Option D → Prop) → Prop} {β : Type} {e : β → D} {p : β → Bool} {f : β → D} : ∀ {l : List β} {acc : List D} {C : List D → Prop}, (∀ x ∈ l, ∀ Q, b (e x) Q = if p x = true then Q (some (f x)) else Q none) → lcW b (l.map e) acc C = C (acc ++ (l.filter p).map f)
  | [], acc, C, _ => by simp
  | x :: r, acc, C, h => by
    rw [List.map_cons, lcW_cons, h x List.mem_cons_self]
    cases hp : p x
    · simp only [Bool.false_eq_true, if_false]
      rw [lcW_fil fun y m => h y (List.mem_cons_of_mem _ m)]
      simp [hp]
    · simp only [if_true]
      rw [lcW_fil fun y m => h y (List.mem_cons_of_mem _ m)]
      simp [hp]
theorem lcW_mapD {b : D → (Option D → Prop) → Prop} {f : D → D} {l acc : List D} {C : List D → Prop} (h : ∀ x ∈ l, ∀ Q, b x Q = Q (some (f x))) : lcW b l acc C = C (acc ++ l.map f) := by
  have := lcW_map (b := b) (e := id) (f := f) (l := l) (acc := acc) (C := C) h
  rwa [List.map_id] at this
theorem lcW_filD {b : D → (Option D → Prop) → Prop} {p : D → Bool} {f : D → D} {l acc : List D} {C : List D → Prop} (h : ∀ x ∈ l, ∀ Q, b x Q = if p x = true then Q (some (f x)) else Q none) : lcW b l acc C = C (acc ++ (l.filter p).map f) := by
  have := lcW_fil (b := b) (e := id) (p := p) (f := f) (l := l) (acc := acc) (C := C) h
  rwa [List.map_id] at this
theorem rngD_map (lo : Int) (n : Nat) : rngD lo n = (List.range n).map fun i : Nat => D.int (lo + i) := rfl
theorem rng0 (n : Nat) : rngD 0 n = (List.range n).map fun i : Nat => D.int i := by
  unfold rngD; refine List.map_congr_left fun i _ => ?_; simp
theorem zipII (a b : List Int) : zipD (a.map D.int) (b.map D.int) = (a.zip b).map fun p => D.tup [.int p.1, .int p.2] := zipI a b
@[simp] theorem len_map_int (ns : List Int) : (ns.map D.int).length = ns.length := List.length_map _
theorem blsM {β : Type} (l : List β) (p : β → Bool) : l.map (fun x => D.bl (p x)) = (l.map p).map D.bl := by rw [List.map_map]; rfl
theorem intsM {β : Type} (l : List β) (p : β → Int) : l.map (fun x => D.int (p x)) = (l.map p).map D.int := by rw [List.map_map]; rfl
/-! ### plain data -/
@[simp] theorem pyk_non {n : Nat} : pyk n .non = true := by cases n <;> rfl
@[simp] theorem pyk_bl {n : Nat} {b : Bool} : pyk n (.bl b) = true := by cases n <;> rfl
@[simp] theorem pyk_int {n : Nat} {b : Int} : pyk n (.int b) = true := by cases n <;> rfl
@[simp] theorem pyk_tup {n : Nat} {b : List D} : pyk (n + 1) (.tup b) = pyks n b := rfl
@[simp] theorem pyk_lst {n : Nat} {b : List D} : pyk (n + 1) (.lst b) = pyks n b := rfl
@[simp] theorem pyks_nil {n : Nat} : pyks n [] = true := by cases n <;> rfl
@[simp] theorem pyks_cons {n : Nat} {d : D} {ds : List D} : pyks n (d :: ds) = (pyk n d && pyks n ds) := by cases n <;> rfl
@[simp] theorem pyks_is {n : Nat} {ns : List Int} : pyks n (ns.map D.int) = true := pyks_ints
@[simp] theorem pyks_app {n : Nat} : ∀ {a b : List D}, pyks n (a ++ b) = (pyks n a && pyks n b)
  | [], b => by simp
  | x :: a, b => by simp [pyks_app (a := a), Bool.and_assoc]
@[simp] theorem pyks_map {n : Nat} {β : Type} {f : β → D} : ∀ {l : List β}, pyks n (l.map f) = l.all fun x => pyk n (f x)
  | [] => by simp
  | x :: l => by simp [pyks_map (l := l)]
theorem pyks_all {n : Nat} {ds : List D} (h : ∀ d ∈ ds, pyk n d = true) : pyks n ds = true := by
  induction ds with
  | nil => simp
  | cons d r ih => simp [h d List.mem_cons_self, ih fun x m => h x (List.mem_cons_of_mem _ m)]
@[simp] theorem eqDs_is {x y : List Int} : eqDs (x.map D.int) (y.map D.int) = decide (x = y) := eqDs_ints
mutual
theorem eqD_self : ∀ d : D, eqD d d = true
  | .non => rfl
  | .bl b => by simp
  | .int i => by simp
  | .str x => by simp
  | .tup xs => by rw [eqD_tup]; exact eqDs_self xs
  | .lst xs => by rw [eqD_lst]; exact eqDs_self xs
  | .dk _ _ => rfl
  | .cell _ => rfl
  | .scr _ => rfl
  | .ty _ => rfl
  | .ins _ _ _ => rfl
theorem eqDs_self : ∀ ds : List D, eqDs ds ds = true
  | [] => rfl
  | d :: ds => by rw [eqDs_cons, eqD_self d, eqDs_self ds]; rfl
end
@[simp] theorem eqD_nonnon : eqD .non .non = true := rfl
@[simp] theorem eqD_ib {i : Int} {b : Bool} : eqD (.int i) (.bl b) = (i == if b = true then 1 else 0) := by cases b <;> rfl
@[simp] theorem eqD_bi {i : Int} {b : Bool} : eqD (.bl b) (.int i) = ((if b = true then (1 : Int) else 0) == i) := by cases b <;> rfl
/-- what is met at an index -/
@[simp] theorem atI_zero {α : Type} {x : α} {r : List α} : atI (x :: r) 0 = some x := atI_nat (j := 0) rfl
@[simp] theorem atI_one {α : Type} {x y : α} {r : List α} : atI (x :: y :: r) 1 = some y := atI_nat (j := 1) rfl
@[simp] theorem atI_two {α : Type} {x y z : α} {r : List α} : atI (x :: y :: z :: r) 2 = some z := atI_nat (j := 2) rfl
theorem atI_natL {α : Type} {l : List α} {i : Nat} {x : α} (h : l[i]? = some x) : atI l (i : Int) = some x := atI_nat h
theorem atI_get {l : List D} {i : Nat} (h : i < l.length) : atI l (i : Int) = some l[i] := atI_nat (by simp [h])
/-- the int at a place -/
def nth0 (l : List Int) (i : Nat) : Int := l.getD i 0
theorem nth0_get {l : List Int} {i : Nat} (h : i < l.length) : nth0 l i = l[i] := by simp [nth0, h]
theorem nth0_mem {l : List Int} {i : Nat} (h : i < l.length) : nth0 l i ∈ l := by rw [nth0_get h]; exact List.getElem_mem h
theorem atI_ints {l : List Int} {i : Nat} (h : i < l.length) : atI (l.map D.int) (i : Int) = some (.int (nth0 l i)) := atI_nat (by simp [h, nth0])
theorem exI_ints {l : List Int} {i : Nat} {C : D → Prop} (h : i < l.length) : (∃ d, atI (l.map D.int) (i : Int) = some d ∧ C d) = C (.int (nth0 l i)) := by
  rw [atI_ints h]; simp
theorem atI_is {l : List Int} {i : Nat} (h : i < l.length) : atI l (i : Int) = some (nth0 l i) := atI_nat (by simp [h, nth0])
/-- a loop over a state of one's own -/
theorem forW_st {α β : Type} {b : D → List Sl → En → Prop} {e : En} (S : α → List Sl) (g : β → D) (f : α → β → α) (P : Nat → α → Prop) {xs : List β} {a0 : α} (h0 : P 0 a0)
    (turn : ∀ i x a e', xs[i]? = some x → P i a → b (g x) (S a) e' = e'.nx (S (f a x)) ∧ P (i + 1) (f a x)) : forW b (xs.map g) (S a0) e = e.nx (S (xs.foldl f a0)) ∧ P xs.length (xs.foldl f a0) := by
  have key : ∀ (r : List β) (i : Nat) (a : α), xs.drop i = r → i + r.length = xs.length → P i a → forW b (r.map g) (S a) e = e.nx (S (r.foldl f a)) ∧ P xs.length (r.foldl f a) := by
    intro r
    induction r with
    | nil => intro i a h1 h2 h3; simp at h2; subst h2; exact ⟨rfl, h3⟩
    | cons x r ih =>
      intro i a h1 h2 h3
      have hd : xs[i]? = some x := by
        have : (xs.drop i)[0]? = some x := by rw [h1]; rfl
        simpa using this
      have hr : xs.drop (i + 1) = r := by
        rw [← List.drop_drop, h1]; rfl
      simp only [List.length_cons] at h2
      obtain ⟨t1, t2⟩ := turn i x a { nx := fun s => forW b (r.map g) s e, ct := fun s => forW b (r.map g) s e, bk := e.nx, rt := e.rt } hd h3
      obtain ⟨k1, k2⟩ := ih (i + 1) (f a x) hr (by omega) t2
      rw [List.map_cons, forW_cons, t1]
      exact ⟨k1, k2⟩
  exact key xs 0 a0 rfl (by simp) h0
/-- a loop that hands back at the first item of a kind -/
theorem forW_find {β σ : Type} {b : D → List Sl → En → Prop} {e : En} (S : σ → List Sl) (g : β → D) (p : β → Bool) (r : β → Sl) (n : β → σ) {xs : List β}
    (turn : ∀ x s e', x ∈ xs → b (g x) (S s) e' = if p x = true then e'.rt (r x) else e'.nx (S (n x))) : ∀ s0 : σ, forW b (xs.map g) (S s0) e = match xs.find? p with
      | some x => e.rt (r x)
      | none => e.nx (S (xs.foldl (fun _ x => n x) s0)) := by
  induction xs with
  | nil => intro s0; rfl
  | cons x xs ih =>
    intro s0
    rw [List.map_cons, forW_cons, turn x s0 _ List.mem_cons_self, List.find?_cons]
    cases hp : p x with
    | true => simp
    | false =>
      simp only [Bool.false_eq_true, if_false]
      rw [ih (fun y s e' m => turn y s e' (List.mem_cons_of_mem _ m))]
      rfl
@[simp] theorem ladle_F {B : Sc} {p : Addr} {n : Int} {C : D → Prop} {X : XP} : ladleF.F B [.cell p, .int n] C X = ((B p ∧ 0 < n ∧ n < 2 ^ 200) ∧ ∀ r, 0 ≤ r → r < n → C (.int r)) := rfl
@[simp] theorem mixed_lst {B : Sc} {p : Addr} {xs : List D} {C : D → Prop} {X : XP} : mixedF.F B [.cell p, .lst xs] C X = ((B p ∧ xs.length ≤ 100000) ∧ ∀ ys : List D, ys.Perm xs → C (.lst ys)) := by simp [mixedF, seqOf]
@[simp] theorem mixed_tup {B : Sc} {p : Addr} {xs : List D} {C : D → Prop} {X : XP} : mixedF.F B [.cell p, .tup xs] C X = ((B p ∧ xs.length ≤ 100000) ∧ ∀ ys : List D, ys.Perm xs → C (.lst ys)) := by simp [mixedF, seqOf]
theorem cmul1 {i j : Int} (h : -(2 ^ 64) < i ∧ i < 2 ^ 64) : CMul i j ∨ CMulW i j := .inl (.inl h)
theorem cmul2 {i j : Int} (h : -(2 ^ 64) < j ∧ j < 2 ^ 64) : CMul i j ∨ CMulW i j := .inl (.inr h)
theorem cdivw {i j : Int} (h : 0 < j) (h2 : j < 2 ^ 200) : CDivW i j := ⟨h, log_small h h2⟩
theorem enumD_map {β : Type} (e : β → D) : ∀ (l : List β) (k : Nat), enumD k (l.map e) = (l.zipIdx k).map fun p => D.tup [.int p.2, e p.1]
  | [], _ => rfl
  | x :: l, k => by
    rw [List.map_cons, List.zipIdx_cons, List.map_cons, ← enumD_map e l (k + 1)]; rfl
theorem forW_iff {α β : Type} {b : D → List Sl → En → Prop} {e : En} {Y : Prop} (S : α → List Sl) (g : β → D) (f : α → β → α) (P : Nat → α → Prop) {xs : List β} {a0 : α} (h0 : P 0 a0)
    (turn : ∀ i x a e', xs[i]? = some x → P i a → (b (g x) (S a) e' ↔ e'.nx (S (f a x))) ∧ P (i + 1) (f a x)) (fin : ∀ a, P xs.length a → (e.nx (S a) ↔ Y)) : forW b (xs.map g) (S a0) e ↔ Y := by
  obtain ⟨h1, h2⟩ := forW_st (b := b) (e := e) S g f P h0 fun i x a e' h p => ⟨propext (turn i x a e' h p).1, (turn i x a e' h p).2⟩
  rw [h1]
  exact fin _ h2
theorem forW_findI {β σ : Type} {b : D → List Sl → En → Prop} {e : En} {Y : Prop} (S : σ → List Sl) (g : β → D) (p : β → Bool) (r : β → Sl) (n : β → σ) {xs : List β} {s0 : σ}
    (turn : ∀ x s e', x ∈ xs → (b (g x) (S s) e' ↔ if p x = true then e'.rt (r x) else e'.nx (S (n x)))) (fin : ∀ s : σ, (match xs.find? p with
      | some x => e.rt (r x)
      | none => e.nx (S s)) ↔ Y) : forW b (xs.map g) (S s0) e ↔ Y := by
  rw [forW_find (b := b) (e := e) S g p r n (fun x s e' m => propext (turn x s e' m))]
  exact fin _
theorem range_get {n i c : Nat} (h : (List.range n)[i]? = some c) : c = i ∧ i < n := by
  obtain ⟨h, e⟩ := List.getElem?_eq_some_iff.mp h
  simp at h e
  exact ⟨e.symm, h⟩
end XQ
/-! xs.index(max(xs)), xs the def's own list -/
namespace SQ
open PySem PySem.Spec PyProof.Rows L2
section
variable {X : Cx} {K : PySem.W.Frag}
theorem mt_indexK (h : X.K = K := by rfl) : MtR X "list.index" (rIndex K) := by subst h; exact mt_index
theorem pe_bmR {o e : Expr} {es : List Expr} {to : TE} {t : TA} {name : Str} {apos cpos : Pos} {T id : String} {r : V → List V → Hp → VK → Prop}
    (hm : MtR X id r) (pa : PlainAttrs T) (slot : Slot T name id) (hty : typeOf (.builtin id) = pure (.type "method_descriptor")) (ho : PE X o to) (ha : PA X (e :: es) t) (h : X.K = K := by rfl)
    (hbase : attributeBase o name X.env (eval o X.env) = eval o X.env := by rfl)
    (hfew : ((backTo cpos (starEach (e :: es) X.env)).all (fun x => !x.1) && (backToKw cpos (keywordEach [] X.env)).all (fun x => x.1.isSome)
      && decide ((e :: es).length + ([] : List Keyword).length + (if ([] : List Keyword).isEmpty then 0 else 1) < 30)) = true := by rfl)
    (hline : (apos.endLine == cpos.line) = true := by rfl) (hs : starEach (e :: es) X.env = (false, eval e X.env) :: starEach es X.env := by rfl) (hplain : (backTo cpos (starEach es X.env)).any (·.1) = false := by rfl) :
    PE X (.Call (.Attribute o name apos) (e :: es) [] cpos) (tBM K T r to t) := pe_bmK pa slot hty hm ho ha h hbase hfew hline hs hplain
end
section
variable {K : PySem.W.Frag} {Γ : Cxt} {ss : List Sl} {xs : List D} {C : D → Prop} {i : Nat}
theorem wpE_idxMax {ns : List Int} (h : ss[i]? = some (.own (ns.map D.int))) (hn : 0 < ns.length)
    (k : ∀ (j : Nat) m, ns[j]? = some m → (∀ y, y ∈ ns → y ≤ m) → (∀ (l : Nat) y, l < j → ns[l]? = some y → y ≠ m) → C (.int j)) :
    wpE K Γ (tBM K "list" (rIndex K) (tVar i) (tCons (tCB (bMax4 K) (tCons (tVar i) tNil)) tNil)) ss C := fun H0 σ H τ hl I Q q => by
  obtain ⟨a, ha, _⟩ := Env.ownAt (qs := []) hl h I
  obtain ⟨vs, hv, rv⟩ := I.own (a := a) (xs := ns.map D.int) (List.mem_append_left _ (zip_get h ha))
  have hvs : vs = ns.map V.int := Reps.ints.mp rv
  subst hvs
  have hsq : SqL K H a (ns.map V.int) := .inl (.inl hv)
  refine ⟨.ref a, ha, .inl ⟨rfl, _, hsq⟩, .ref a, ha, .inl (.inr ⟨a, ns, rfl, hsq, hn, fun m hm hu => ?_⟩)⟩
  have key : ∀ (ns : List Int) (m : Int), m ∈ ns → ∃ j : Nat, ns[j]? = some m ∧ ∀ (l : Nat) y, l < j → ns[l]? = some y → y ≠ m := by
    intro ns m hm
    induction ns with
    | nil => cases hm
    | cons x r ih =>
      by_cases hx : x = m
      · exact ⟨0, by rw [hx]; rfl, fun l y hl => by omega⟩
      · obtain ⟨j, hj, hno⟩ := ih ((List.mem_cons.mp hm).resolve_left fun e => hx e.symm)
        refine ⟨j + 1, by simpa using hj, fun l y hl hy => ?_⟩
        cases l with
        | zero => simp at hy; rw [← hy]; exact hx
        | succ l => exact hno l y (by omega) (by simpa using hy)
  obtain ⟨j, hj, hno⟩ := key ns m hm
  refine ⟨a, ns.map V.int, .int m, j, .int m, rfl, rfl, hsq, rfl, ?_, by rw [List.getElem?_map, hj]; rfl, ?_, fun l z hlj hz => ?_, ?_⟩
  · rw [List.all_eq_true]
    intro v hv
    obtain ⟨n, _, rfl⟩ := List.mem_map.mp hv
    rfl
  · show (m == m) = true
    simp
  · rw [List.getElem?_map] at hz
    cases hq : ns[l]? with
    | none => rw [hq] at hz; cases hz
    | some y =>
      rw [hq] at hz
      obtain rfl : V.int y = z := Option.some.inj hz
      show (y == m) = false
      simpa using hno l y hlj hq
  · exact q _ (.int j) H (I.push (d := .int j) rfl) (k j m hj hu hno)
end
end SQ
/-! xs.index(max(xs)) of an own list -/
namespace XQ
open PySem PySem.Spec PyProof.Rows L2 SQ
variable {G : Fr → Prop}
def idxMax (i : Nat) : XE G where
  te K _ := tBM K "list" (rIndex K) (tVar i) (tCons (tCB (bMax4 K) (tCons (tVar i) tNil)) tNil)
  pre _ _ ss C := getO ss i fun xs => ∃ ns : List Int, xs = ns.map D.int ∧ 0 < ns.length ∧ ∀ (j : Nat) m, ns[j]? = some m → (∀ y, y ∈ ns → y ≤ m) → (∀ (l : Nat) y, l < j → ns[l]? = some y → y ≠ m) → C (.int j)
  ok g h := by
    obtain ⟨xs, e, ns, rfl, hn, h⟩ := getO_at h
    exact wpE_idxMax e hn h
  mono _ _ c h := getO_mono (fun _ h => by
    obtain ⟨ns, e, hn, h⟩ := h
    exact ⟨ns, e, hn, fun j m h1 h2 h3 => c _ (h j m h1 h2 h3)⟩) h
@[simp] theorem idxMax_pre {B : Sc} {X : XP} {ss : List Sl} (i : Nat) {C : D → Prop} : ((idxMax i) : XE G).pre B X ss C = (getO ss i fun xs => ∃ ns : List Int, xs = ns.map D.int ∧ 0 < ns.length ∧ ∀ (j : Nat) m, ns[j]? = some m → (∀ y, y ∈ ns → y ≤ m) → (∀ (l : Nat) y, l < j → ns[l]? = some y → y ≠ m) → C (.int j)) := rfl
end XQ
namespace XD
open PySem PySem.Spec PyProof.Rows L2 SQ XQ
def X_is_whole (V : Ve) : XS (Good V) :=
  (ret (andV (cb bisi (acons (var 0) (acons (ty "int") anil))) (notV (cb bisi (acons (var 0) (acons (ty "bool") anil))))))
def F_is_whole (V : Ve) : XF := xf 1 1 (X_is_whole V)
def X_is_entry (V : Ve) : XS (Good V) :=
  (ret (andV (call0 (F_is_whole V) (acons (var 0) anil)) (chain rle rlt (int 0) (var 0) (op rpow (int 10) (int 30)))))
def F_is_entry (V : Ve) : XF := xf 1 1 (X_is_entry V)
def X_is_row (V : Ve) : XS (Good V) :=
  (seq (ifS (orT (notT (tB' (cb bisi (acons (var 0) (acons (ty "tuple") anil))))) (notT (test (chain rle rle (int 1) (cb blen (acons (var 0) anil)) (int 64))))) (ret (bl false)) skip)
      (ret (cb ball (acons (frz (lc (iseq (var 0)) (gname 1) yes (call0 (F_is_entry V) (acons (var 1) anil)))) anil))))
def F_is_row (V : Ve) : XF := xf 1 2 (X_is_row V)
def X_check_row (V : Ve) : XS (Good V) :=
  (ifS (notT (tB' (call0 (F_is_row V) (acons (var 0) anil)))) (raise0 (V.cls .sums)) skip)
def F_check_row (V : Ve) : XF := xf 1 1 (X_check_row V)
def X_check_rows (V : Ve) : XS (Good V) :=
  (seq (drop (callE (F_check_row V) (acons (var 0) anil)))
      (drop (callE (F_check_row V) (acons (var 1) anil))))
def F_check_rows (V : Ve) : XF := xf 2 2 (X_check_rows V)
def X_have_equal_measures (V : Ve) : XS (Good V) :=
  (ret (andV (op req (cb blen (acons (var 0) anil)) (cb blen (acons (var 1) anil))) (op req (cb bsum (acons (var 0) anil)) (cb bsum (acons (var 1) anil)))))
def F_have_equal_measures (V : Ve) : XF := xf 2 2 (X_have_equal_measures V)
def X_descending (V : Ve) : XS (Good V) :=
  (ret (cb btup (acons (frz (srtR (acons (var 0) anil))) anil)))
def F_descending (V : Ve) : XF := xf 1 1 (X_descending V)
def X_sums_so_far_L1 (V : Ve) : XS (Good V) :=
  (seq (aug 2 (fun i j => i + j) (var 3))
      (app 1 (var 2)))
def X_sums_so_far (V : Ve) : XS (Good V) :=
  (seq (setO 1 (lst anil))
      (seq (set 2 (int 0))
      (seq (xfor (iseq (var 0)) (gname 3) (X_sums_so_far_L1 V))
      (freeze 1 (ret (cb btup (acons (var 1) anil)))))))
def F_sums_so_far (V : Ve) : XF := xf 1 4 (X_sums_so_far V)
def X_prefix_sums (V : Ve) : XS (Good V) :=
  (seq (drop (callE (F_check_row V) (acons (var 0) anil)))
      (ret (call0 (F_sums_so_far V) (acons (call0 (F_descending V) (acons (var 0) anil)) anil))))
def F_prefix_sums (V : Ve) : XF := xf 1 1 (X_prefix_sums V)
def X__first_bar_L1 (V : Ve) : XS (Good V) :=
  (ifS (test (op rgt (var 3) (var 4))) (ret (op radd (var 2) (int 1))) skip)
def X__first_bar (V : Ve) : XS (Good V) :=
  (seq (xfor (ienumZ (acons (callE (F_prefix_sums V) (acons (var 0) anil)) (acons (callE (F_prefix_sums V) (acons (var 1) anil)) anil))) (gtup 2 (gcons (gname 2) (gcons (gpair 3 4) gnil))) (X__first_bar_L1 V))
      (ret non))
def F__first_bar (V : Ve) : XF := xf 2 5 (X__first_bar V)
def X_is_under (V : Ve) : XS (Good V) :=
  (seq (drop (callE (F_check_rows V) (acons (var 0) (acons (var 1) anil))))
      (ret (andV (call0 (F_have_equal_measures V) (acons (var 0) (acons (var 1) anil))) (isN (callE (F__first_bar V) (acons (var 0) (acons (var 1) anil)))))))
def F_is_under (V : Ve) : XF := xf 2 2 (X_is_under V)
def X_check_equal_measures (V : Ve) : XS (Good V) :=
  (ifS (notT (tB' (call0 (F_have_equal_measures V) (acons (var 0) (acons (var 1) anil))))) (raise0 (V.cls .operation)) skip)
def F_check_equal_measures (V : Ve) : XF := xf 2 2 (X_check_equal_measures V)
def X_bar (V : Ve) : XS (Good V) :=
  (seq (drop (callE (F_check_rows V) (acons (var 0) (acons (var 1) anil))))
      (seq (drop (callE (F_check_equal_measures V) (acons (var 0) (acons (var 1) anil))))
      (ret (callE (F__first_bar V) (acons (var 0) (acons (var 1) anil))))))
def F_bar (V : Ve) : XF := xf 2 2 (X_bar V)
def X__law_down (V : Ve) : XS (Good V) :=
  (ret (cb btup (acons (frz (revL (cb bsrt (acons (var 0) anil)))) anil)))
def F__law_down (V : Ve) : XF := xf 1 1 (X__law_down V)
def X__law_pick (V : Ve) : XS (Good V) :=
  (ret (op rix (var 1) (call0 ladleF (acons (var 0) (acons (cb blen (acons (var 1) anil)) anil)))))
def F__law_pick (V : Ve) : XF := xf 2 2 (X__law_pick V)
def X__law_great (V : Ve) : XS (Good V) :=
  (seq (par 1 2 (acons (frz (lc (irng1 (acons (int 3) anil)) (gname 3) yes (call0 ladleF (acons (var 0) (acons (op rpow (int 10) (int 10)) anil))))) (acons (frz (lst (acons (op rpow (int 10) (int 28)) (acons (int 1000) (acons (op rpow (int 10) (int 12)) (acons (op rpow (int 10) (int 28)) anil)))))) anil)))
      (ret (op rmod (cb bint (acons (op radd (op radd (op rmul (op rix (var 1) (int 0)) (op rpow (int 10) (int 20))) (op rmul (op rix (var 1) (int 1)) (op rpow (int 10) (int 10)))) (op rix (var 1) (int 2))) anil)) (call0 (F__law_pick V) (acons (var 0) (acons (var 2) anil))))))
def F__law_great (V : Ve) : XF := xf 1 4 (X__law_great V)
def X__law_dealt_L1 (V : Ve) : XS (Good V) :=
  (seq (set 5 (call0 ladleF (acons (var 0) (acons (int 1001) anil))))
      (app 3 (cb bmin (acons (var 1) (acons (cb bmax (acons (int 0) (acons (op rsub (op radd (op rfdiv (op rmul (var 1) (var 5)) (int 1000)) (call0 ladleF (acons (var 0) (acons (int 5) anil)))) (int 2)) anil))) anil)))))
def X__law_dealt (V : Ve) : XS (Good V) :=
  (seq (setO 3 (lst anil))
      (seq (xfor (irng1 (acons (op rsub (var 2) (int 1)) anil)) (gname 4) (X__law_dealt_L1 V))
      (freeze 3 (seq (set 6 (frz (opO raddO (frz (opO raddO (frz (lst (acons (int 0) anil))) (cb bsrt (acons (var 3) anil)))) (frz (lst (acons (var 1) anil))))))
      (ret (cb btup (acons (frz (lc (izip (acons (var 6) (acons (slc (var 6) (psome (int 1)) pno) anil))) (gpair 7 8) yes (op rsub (var 8) (var 7)))) anil)))))))
def F__law_dealt (V : Ve) : XF := xf 3 9 (X__law_dealt V)
def X__law_drawn_row (V : Ve) : XS (Good V) :=
  (seq (asg (tup (acons (op radd (int 1) (call0 ladleF (acons (var 0) (acons (var 1) anil)))) (acons (call0 ladleF (acons (var 0) (acons (int 4) anil))) anil))) (gpair 2 3))
      (seq (ifS (test (op req (var 3) (int 0))) (ret (cb btup (acons (frz (lc (irng1 (acons (var 2) anil)) (gname 4) yes (call0 (F__law_great V) (acons (var 0) anil)))) anil))) skip)
      (seq (ifS (test (op req (var 3) (int 1))) (ret (call0 (F__law_dealt V) (acons (var 0) (acons (call0 (F__law_great V) (acons (var 0) anil)) (acons (var 2) anil))))) skip)
      (ret (cb btup (acons (frz (lc (irng1 (acons (var 2) anil)) (gname 4) yes (call0 ladleF (acons (var 0) (acons (op rix (frz (lst (acons (int 4) (acons (int 8) anil)))) (op rsub (var 3) (int 2))) anil))))) anil))))))
def F__law_drawn_row (V : Ve) : XF := xf 2 5 (X__law_drawn_row V)
def X__law_moved (V : Ve) : XS (Good V) :=
  (seq (setO 4 (cbO blst (acons (var 0) anil)))
      (seq (put 4 (op rsub (ixOwn 4 (var 1)) (var 3)) (var 1))
      (seq (put 4 (op radd (ixOwn 4 (var 2)) (var 3)) (var 2))
      (freeze 4 (ret (cb btup (acons (var 4) anil)))))))
def F__law_moved (V : Ve) : XF := xf 4 5 (X__law_moved V)
def X__law_near_row_L1 (V : Ve) : XS (Good V) :=
  (seq (par 5 6 (acons (call0 ladleF (acons (var 0) (acons (cb blen (acons (var 1) anil)) anil))) (acons (call0 ladleF (acons (var 0) (acons (cb blen (acons (var 1) anil)) anil))) anil)))
      (seq (set 7 (ifE (test (op req (var 2) (int 1))) (op rfdiv (op rmul (op rix (var 3) (var 5)) (call0 ladleF (acons (var 0) (acons (int 4) anil)))) (int 3)) (cb bmin (acons (int 1) (acons (op rix (var 3) (var 5)) anil)))))
      (set 3 (call0 (F__law_moved V) (acons (var 3) (acons (var 5) (acons (var 6) (acons (var 7) anil))))))))
def X__law_near_row (V : Ve) : XS (Good V) :=
  (seq (par 2 3 (acons (call0 ladleF (acons (var 0) (acons (int 5) anil))) (acons (var 1) anil)))
      (seq (ifS (test (op req (var 2) (int 0))) (ret (call0 (F__law_dealt V) (acons (var 0) (acons (cb bsum (acons (var 1) anil)) (acons (cb blen (acons (var 1) anil)) anil))))) skip)
      (seq (xfor (irng1 (acons (call0 (F__law_pick V) (acons (var 0) (acons (frz (lst (acons (int 1) (acons (int 1) (acons (int 2) (acons (int 3) anil)))))) anil))) anil)) (gname 4) (X__law_near_row_L1 V))
      (ret (ifE (test (op req (var 2) (int 2))) (cb btup (acons (call0 mixedF (acons (var 0) (acons (var 3) anil))) anil)) (var 3))))))
def F__law_near_row (V : Ve) : XF := xf 2 8 (X__law_near_row V)
def X_is_within (V : Ve) : XS (Good V) :=
  (ret (andV (call0 (F_is_whole V) (acons (var 0) anil)) (chain rle rle (var 1) (var 0) (var 2))))
def F_is_within (V : Ve) : XF := xf 3 3 (X_is_within V)
def X_is_bar (V : Ve) : XS (Good V) :=
  (seq (drop (callE (F_check_rows V) (acons (var 0) (acons (var 1) anil))))
      (seq (drop (callE (F_check_equal_measures V) (acons (var 0) (acons (var 1) anil))))
      (seq (ifS (notT (tB' (call0 (F_is_within V) (acons (var 2) (acons (int 1) (acons (cb blen (acons (var 0) anil)) anil)))))) (ret (bl false)) skip)
      (ret (op rgt (op rix (callE (F_prefix_sums V) (acons (var 0) anil)) (op rsub (var 2) (int 1))) (op rix (callE (F_prefix_sums V) (acons (var 1) anil)) (op rsub (var 2) (int 1))))))))
def F_is_bar (V : Ve) : XF := xf 3 3 (X_is_bar V)
def X__law_heads_L1 (V : Ve) : XS (Good V) :=
  (seq (set 2 (op radd (var 2) (var 3)))
      (app 1 (var 2)))
def X__law_heads (V : Ve) : XS (Good V) :=
  (seq (parOE 1 2 (lst anil) (int 0))
      (seq (xfor (iseq (call0 (F__law_down V) (acons (var 0) anil))) (gname 3) (X__law_heads_L1 V))
      (freeze 1 (ret (var 1)))))
def F__law_heads (V : Ve) : XF := xf 1 4 (X__law_heads V)
def X_check_entry (V : Ve) : XS (Good V) :=
  (ifS (notT (tB' (call0 (F_is_entry V) (acons (var 0) anil)))) (raise1 (V.cls .number) "value" (acons (var 0) anil)) skip)
def F_check_entry (V : Ve) : XF := xf 1 1 (X_check_entry V)
def X_excess (V : Ve) : XS (Good V) :=
  (seq (drop (callE (F_check_row V) (acons (var 0) anil)))
      (seq (drop (callE (F_check_entry V) (acons (var 1) anil)))
      (ret (cb bsum (acons (frz (lc (iseq (var 0)) (gname 2) (test (op rgt (var 2) (var 1))) (op rsub (var 2) (var 1)))) anil)))))
def F_excess (V : Ve) : XF := xf 2 3 (X_excess V)
def X__law_under (V : Ve) : XS (Good V) :=
  (seq (ifS (orT (test (op rne (cb blen (acons (var 0) anil)) (cb blen (acons (var 1) anil)))) (test (op rne (cb bsum (acons (var 0) anil)) (cb bsum (acons (var 1) anil))))) (ret (bl false)) skip)
      (ret (op req (frz (lc (izip (acons (call0 (F__law_heads V) (acons (var 0) anil)) (acons (call0 (F__law_heads V) (acons (var 1) anil)) anil))) (gpair 2 3) (test (op rgt (var 2) (var 3))) (int 1))) (frz (lst anil)))))
def F__law_under (V : Ve) : XF := xf 2 4 (X__law_under V)
def X__law_lots_L1 (V : Ve) : XS (Good V) :=
  (seq (set 4 (frz (lc (irng1 (acons (cb blen (acons (var 0) anil)) anil)) (gname 5) (test (op req (op rmod (op rfdiv (cb bint (acons (var 3) anil)) (op rix (var 2) (var 5))) (int 2)) (int 1))) (op rix (var 0) (var 5)))))
      (put 1 (cb bmax (acons (ixOwn 1 (cb blen (acons (var 4) anil))) (acons (cb bsum (acons (var 4) anil)) anil))) (cb blen (acons (var 4) anil))))
def X__law_lots (V : Ve) : XS (Good V) :=
  (seq (setO 1 (opO rmulO (frz (lst (acons (int 0) anil))) (op radd (cb blen (acons (var 0) anil)) (int 1))))
      (seq (set 2 (tup (acons (int 1) (acons (int 2) (acons (int 4) (acons (int 8) (acons (int 16) (acons (int 32) (acons (int 64) anil)))))))))
      (seq (xfor (irng1 (acons (op rix (var 2) (cb blen (acons (var 0) anil))) anil)) (gname 3) (X__law_lots_L1 V))
      (freeze 1 (ret (slc (var 1) (psome (int 1)) pno))))))
def F__law_lots (V : Ve) : XF := xf 1 6 (X__law_lots V)
def X__law_three_ways (V : Ve) : XS (Good V) :=
  (seq (set 2 (op req (frz (lc (izip (acons (call0 (F__law_lots V) (acons (var 0) anil)) (acons (call0 (F__law_heads V) (acons (var 1) anil)) anil))) (gpair 4 5) (test (op rgt (var 4) (var 5))) (int 1))) (frz (lst anil))))
      (seq (set 3 (op req (frz (lc (iseq (var 1)) (gname 6) (test (op rgt (call0 (F_excess V) (acons (var 0) (acons (var 6) anil))) (call0 (F_excess V) (acons (var 1) (acons (var 6) anil))))) (int 1))) (frz (lst anil))))
      (ret (frz (lst (acons (call0 (F__law_under V) (acons (var 0) (acons (var 1) anil))) (acons (var 2) (acons (var 3) anil))))))))
def F__law_three_ways (V : Ve) : XF := xf 2 7 (X__law_three_ways V)
def X__law_pair_right_L1 (V : Ve) : XS (Good V) :=
  (seq (set 7 (andV (cb bisi (acons (var 6) (acons (ty "int") anil))) (notV (cb bisi (acons (var 6) (acons (ty "bool") anil))))))
      (ifS (test (op rneS (cb brepr (acons (call0 (F_is_bar V) (acons (var 0) (acons (var 1) (acons (var 6) anil)))) anil)) (cb brepr (acons (andV (var 7) (op (rinA false) (var 6) (var 3))) anil)))) (ret (bl false)) skip))
def X__law_pair_right (V : Ve) : XS (Good V) :=
  (seq (set 2 (call0 (F__law_three_ways V) (acons (var 0) (acons (var 1) anil))))
      (seq (ifS (test (op rneS (cb brepr (acons (frz (opO rmulO (frz (lst (acons (call0 (F_is_under V) (acons (var 0) (acons (var 1) anil))) anil))) (int 3))) anil)) (cb brepr (acons (var 2) anil)))) (ret (bl false)) skip)
      (seq (set 3 (frz (lc (irng1 (acons (cb blen (acons (var 0) anil)) anil)) (gname 8) (test (op rgt (op rix (call0 (F__law_heads V) (acons (var 0) anil)) (var 8)) (op rix (call0 (F__law_heads V) (acons (var 1) anil)) (var 8)))) (op radd (var 8) (int 1)))))
      (seq (set 4 (call0 (F_bar V) (acons (var 0) (acons (var 1) anil))))
      (seq (ifS (orT (andT (test (op req (var 3) (frz (lst anil)))) (tB' (notN (var 4)))) (andT (test (op rne (var 3) (frz (lst anil)))) (orT (tB' (cb bisi (acons (var 4) (acons (ty "bool") anil)))) (test (op (rinA true) (var 4) (var 3)))))) (ret (bl false)) skip)
      (seq (set 5 (frz (lst (acons non (acons (int 0) (acons (bl true) (acons (bl false) (acons (str "1") (acons (tup (acons (int 1) anil)) (acons (frz (lst (acons (int 1) anil))) (acons dnew (acons (op rpow (int 10) (int 39)) anil))))))))))))
      (seq (xfor (iseq (frz (opO raddO (frz (lstRg2 (neg (int 1)) (op radd (cb blen (acons (var 0) anil)) (int 3)))) (var 5)))) (gname 6) (X__law_pair_right_L1 V))
      (ret (bl true)))))))))
def F__law_pair_right (V : Ve) : XF := xf 2 9 (X__law_pair_right V)
def cl__law_outcome : List Cl := [(.sums, none, "sums"), (.operation, none, "operation"), (.number, some "value", "number"), (.many, some "limit", "many")]
def X__law_odd_row (V : Ve) : XS (Good V) :=
  (seq (set 1 (frz (lst (acons non (acons (int 0) (acons (tup anil) (acons (frz (lst (acons (int 1) (acons (int 2) anil)))) (acons (tup (acons (int 1) (acons (neg (int 1)) anil))) (acons (tup (acons (bl true) (acons (int 0) anil))) (acons (tup (acons (int 1) (acons non anil))) (acons (tup (acons (str "1") anil)) (acons (tup (acons (int 1) (acons (tup (acons (int 0) anil)) anil))) (acons (str "") (acons dnew (acons (tup (acons (op rpow (int 10) (int 30)) anil)) (acons (op rmul (tup (acons (int 0) anil)) (int 65)) anil))))))))))))))))
      (ret (call0 (F__law_pick V) (acons (var 0) (acons (frz (opO raddO (var 1) (frz (lst (acons (ddisp1 0 1) (acons (tup (acons (tup (acons (int 1) (acons (int 0) anil))) anil)) (acons (tup (acons (int 1) (acons (int 0) (acons (op rpow (int 10) (int 39)) anil)))) (acons (bl false) (acons (frz (lst (acons (tup anil) anil))) (acons (tup (acons (int 0) (acons (bl false) anil))) anil)))))))))) anil)))))
def F__law_odd_row (V : Ve) : XF := xf 1 2 (X__law_odd_row V)
def X__law_unlike_right (V : Ve) (hn : ∀ c ∈ cl__law_outcome, c.1 ∈ V.names) : XS (Good V) :=
  (seq (ifS (andT (test (op req (cb bsum (acons (var 1) anil)) (cb bsum (acons (var 2) anil)))) (test (op req (cb blen (acons (var 1) anil)) (cb blen (acons (var 2) anil))))) (ret (bl true)) skip)
      (seq (ifS (orT (test (op rnotB (call0 (F_is_under V) (acons (var 1) (acons (var 2) anil))) (bl false))) (test (op rnotB (call0 (F_is_under V) (acons (var 2) (acons (var 1) anil))) (bl false)))) (ret (bl false)) skip)
      (seq (set 3 (call0 (F__law_odd_row V) (acons (var 0) anil)))
      (seq (setO 4 (lst (acons (outc V cl__law_outcome hn (callE (F_bar V) (acons (var 1) (acons (var 2) anil)))) anil)))
      (seq (app 4 (outc V cl__law_outcome hn (callE (F_is_bar V) (acons (var 2) (acons (var 1) (acons non anil))))))
      (seq (app 4 (outc V cl__law_outcome hn (callE (F_is_bar V) (acons (var 3) (acons (var 1) (acons (int 1) anil))))))
      (seq (app 4 (outc V cl__law_outcome hn (callE (F_bar V) (acons (var 2) (acons (var 3) anil)))))
      (seq (app 4 (outc V cl__law_outcome hn (callE (F_is_under V) (acons (var 2) (acons (var 3) anil)))))
      (freeze 4 (ret (op req (var 4) (frz (opO raddO (frz (opO rmulO (frz (lst (acons (frz (lst (acons (str "operation") anil))) anil))) (int 2))) (frz (opO rmulO (frz (lst (acons (frz (lst (acons (str "sums") anil))) anil))) (int 3))))))))))))))))
def F__law_unlike_right (V : Ve) (hn : ∀ c ∈ cl__law_outcome, c.1 ∈ V.names) : XF := xf 3 5 (X__law_unlike_right V hn)
def X__law_right_2_L1 (V : Ve) (hn : ∀ c ∈ cl__law_outcome, c.1 ∈ V.names) : XS (Good V) :=
  (ifS (notT (tB' (call0 (F__law_pair_right V) (acons (op rix (var 4) (int 0)) (acons (op rix (var 4) (int 1)) anil))))) (ret (bl false)) skip)
def X__law_right_2 (V : Ve) (hn : ∀ c ∈ cl__law_outcome, c.1 ∈ V.names) : XS (Good V) :=
  (seq (set 1 (call0 (F__law_drawn_row V) (acons (var 0) (acons (int 6) anil))))
      (seq (set 2 (call0 (F__law_near_row V) (acons (var 0) (acons (var 1) anil))))
      (seq (set 3 (call0 (F__law_near_row V) (acons (var 0) (acons (var 2) anil))))
      (seq (xfor (iseq (frz (lst (acons (tup (acons (var 1) (acons (var 2) anil))) (acons (tup (acons (var 2) (acons (var 1) anil))) (acons (tup (acons (var 1) (acons (var 3) anil))) (acons (tup (acons (var 3) (acons (var 3) anil))) (acons (tup (acons (var 1) (acons (call0 (F__law_down V) (acons (var 1) anil)) anil))) anil)))))))) (gname 4) (X__law_right_2_L1 V hn))
      (seq (ifS (andT (tB' (call0 (F_is_under V) (acons (var 1) (acons (var 2) anil)))) (andT (tB' (call0 (F_is_under V) (acons (var 2) (acons (var 3) anil)))) (notT (tB' (call0 (F_is_under V) (acons (var 1) (acons (var 3) anil))))))) (ret (bl false)) skip)
      (seq (ifS (test (op rne (andV (call0 (F_is_under V) (acons (var 1) (acons (var 2) anil))) (call0 (F_is_under V) (acons (var 2) (acons (var 1) anil)))) (op req (call0 (F__law_down V) (acons (var 1) anil)) (call0 (F__law_down V) (acons (var 2) anil))))) (ret (bl false)) skip)
      (ret (call0 (F__law_unlike_right V hn) (acons (var 0) (acons (var 1) (acons (call0 (F__law_drawn_row V) (acons (var 0) (acons (int 6) anil))) anil)))))))))))
def F__law_right_2 (V : Ve) (hn : ∀ c ∈ cl__law_outcome, c.1 ∈ V.names) : XF := xf 1 5 (X__law_right_2 V hn)
def X_law_2_L1 (V : Ve) (hn : ∀ c ∈ cl__law_outcome, c.1 ∈ V.names) : XS (Good V) :=
  (ifS (notT (tB' (callBowl (F__law_right_2 V hn) (acons (var 0) (acons (var 1) anil))))) (ret (bl false)) skip)
def X_law_2 (V : Ve) (hn : ∀ c ∈ cl__law_outcome, c.1 ∈ V.names) : XS (Good V) :=
  (seq (xfor (irng1 (acons (cb bmax (acons (int 1) (acons (cb bmin (acons (int 10) (acons (cb blen (acons (var 0) anil)) anil))) anil))) anil)) (gname 1) (X_law_2_L1 V hn))
      (seq (set 2 (frz (lst (acons (call0 (F_is_under V) (acons (tup (acons (int 2) (acons (int 2) (acons (int 2) anil)))) (acons (tup (acons (int 0) (acons (int 5) (acons (int 1) anil)))) anil))) (acons (call0 (F_bar V) (acons (tup (acons (int 3) (acons (int 3) (acons (int 0) anil)))) (acons (tup (acons (int 4) (acons (int 1) (acons (int 1) anil)))) anil))) (acons (call0 (F_is_under V) (acons (tup (acons (int 1) (acons (int 2) anil))) (acons (tup (acons (int 2) (acons (int 1) anil))) anil))) (acons (call0 (F_bar V) (acons (tup (acons (int 1) (acons (int 2) anil))) (acons (tup (acons (int 2) (acons (int 1) anil))) anil))) anil)))))))
      (ret (op req (frz (opO raddO (var 2) (frz (lst (acons (call0 (F_is_under V) (acons (tup (acons (int 1) (acons (int 1) anil))) (acons (tup (acons (int 2) (acons (int 0) (acons (int 0) anil)))) anil))) (acons (call0 (F_is_under V) (acons (tup (acons (int 0) anil)) (acons (tup (acons (int 0) anil)) anil))) anil)))))) (frz (lst (acons (bl true) (acons (int 2) (acons (bl true) (acons non (acons (bl false) (acons (bl true) anil))))))))))))
def F_law_2 (V : Ve) (hn : ∀ c ∈ cl__law_outcome, c.1 ∈ V.names) : XF := xf 1 3 (X_law_2 V hn)
end XD
namespace XD
open PySem PySem.Spec PyProof.Rows L2 SQ XQ
def X_check_within (V : Ve) : XS (Good V) :=
  (ifS (notT (tB' (call0 (F_is_within V) (acons (var 0) (acons (var 1) (acons (var 2) anil)))))) (raise1 (V.cls .number) "value" (acons (var 0) anil)) skip)
def F_check_within (V : Ve) : XF := xf 3 3 (X_check_within V)
def X_level (V : Ve) : XS (Good V) :=
  (ret (cb btup (acons (frz (lc (iseq (var 0)) (gname 3) yes (cb bmin (acons (var 2) (acons (cb bmax (acons (int 0) (acons (op rsub (var 3) (op rmul (var 2) (var 1))) anil))) anil))))) anil)))
def F_level (V : Ve) : XF := xf 3 4 (X_level V)
def X_levels (V : Ve) : XS (Good V) :=
  (ret (cb btup (acons (frz (lc (irng1 (acons (var 1) anil)) (gname 3) yes (cb bsum (acons (call0 (F_level V) (acons (var 0) (acons (var 3) (acons (var 2) anil)))) anil)))) anil)))
def F_levels (V : Ve) : XF := xf 3 4 (X_levels V)
def X_turned (V : Ve) : XS (Good V) :=
  (seq (drop (callE (F_check_row V) (acons (var 0) anil)))
      (seq (drop (callE (F_check_within V) (acons (var 1) (acons (int 1) (acons (int 64) anil)))))
      (seq (drop (callE (F_check_within V) (acons (var 2) (acons (int 1) (acons (op rsub (op rpow (int 10) (int 30)) (int 1)) anil)))))
      (seq (ifS (test (op rgt (cb bmax (acons (var 0) anil)) (op rmul (var 2) (var 1)))) (raise0 (V.cls .operation)) skip)
      (ret (call0 (F_levels V) (acons (var 0) (acons (var 1) (acons (var 2) anil)))))))))
def F_turned (V : Ve) : XF := xf 3 3 (X_turned V)
def X__law_turned_L1 (V : Ve) : XS (Good V) :=
  (app 3 (cb bsum (acons (frz (lc (iseq (var 0)) (gname 5) yes (cb bmax (acons (int 0) (acons (cb bmin (acons (var 2) (acons (op rsub (var 5) (op rmul (var 2) (var 4))) anil))) anil))))) anil)))
def X__law_turned (V : Ve) : XS (Good V) :=
  (seq (setO 3 (lst anil))
      (seq (xfor (irng1 (acons (var 1) anil)) (gname 4) (X__law_turned_L1 V))
      (freeze 3 (ret (cb btup (acons (var 3) anil))))))
def F__law_turned (V : Ve) : XF := xf 3 6 (X__law_turned V)
def X__law_capped_L1 (V : Ve) : XS (Good V) :=
  (app 3 (ifE (andT (test (op req (var 4) (int 2))) (test (op req (call0 ladleF (acons (var 0) (acons (int 2) anil))) (int 0)))) (var 2) (call0 ladleF (acons (var 0) (acons (op radd (var 2) (int 1)) anil)))))
def X__law_capped (V : Ve) : XS (Good V) :=
  (seq (parOE 3 4 (lst anil) (call0 ladleF (acons (var 0) (acons (int 3) anil))))
      (seq (xfor (irng1 (acons (var 1) anil)) (gname 5) (X__law_capped_L1 V))
      (freeze 3 (ret (cb btup (acons (var 3) anil))))))
def F__law_capped (V : Ve) : XF := xf 3 6 (X__law_capped V)
def X__law_near_turned_L1 (V : Ve) : XS (Good V) :=
  (seq (par 5 6 (acons (call0 ladleF (acons (var 0) (acons (cb blen (acons (var 1) anil)) anil))) (acons (call0 ladleF (acons (var 0) (acons (cb blen (acons (var 1) anil)) anil))) anil)))
      (seq (set 7 (cb bmin (acons (call0 (F__law_pick V) (acons (var 0) (acons (frz (lst (acons (int 1) (acons (int 1) (acons (op radd (int 1) (op rfdiv (op rix (var 3) (var 5)) (int 2))) anil))))) anil))) (acons (op rix (var 3) (var 5)) (acons (op rsub (var 2) (op rix (var 3) (var 6))) anil)))))
      (set 3 (call0 (F__law_moved V) (acons (var 3) (acons (var 5) (acons (var 6) (acons (var 7) anil))))))))
def X__law_near_turned (V : Ve) : XS (Good V) :=
  (seq (set 3 (var 1))
      (seq (xfor (irng1 (acons (call0 (F__law_pick V) (acons (var 0) (acons (frz (lst (acons (int 0) (acons (int 1) (acons (int 2) (acons (int 4) anil)))))) anil))) anil)) (gname 4) (X__law_near_turned_L1 V))
      (ret (cb btup (acons (call0 mixedF (acons (var 0) (acons (var 3) anil))) anil)))))
def F__law_near_turned (V : Ve) : XF := xf 3 8 (X__law_near_turned V)
def X__law_errors_right (V : Ve) (hn : ∀ c ∈ cl__law_outcome, c.1 ∈ V.names) : XS (Good V) :=
  (seq (set 3 (call0 (F__law_odd_row V) (acons (var 0) anil)))
      (seq (set 4 (call0 (F__law_pick V) (acons (var 0) (acons (frz (lst (acons (int 0) (acons (neg (int 1)) (acons (int 65) (acons non (acons (bl true) (acons (str "1") (acons (tup (acons (int 1) anil)) (acons (frz (lst anil)) (acons dnew (acons (op rpow (int 10) (int 39)) anil)))))))))))) anil))))
      (seq (set 5 (call0 (F__law_pick V) (acons (var 0) (acons (frz (lst (acons (int 0) (acons (neg (int 1)) (acons non (acons (bl true) (acons (str "1") (acons (tup (acons (int 1) anil)) (acons (frz (lst anil)) (acons dnew (acons (op rpow (int 10) (int 30)) anil))))))))))) anil))))
      (seq (setO 6 (lst (acons (outc V cl__law_outcome hn (callE (F_turned V) (aapp 2 1 (acons (var 3) (acons (var 4) anil)) (acons (var 5) anil)))) anil)))
      (seq (app 6 (outc V cl__law_outcome hn (callE (F_turned V) (aapp 2 1 (acons (var 1) (acons (var 4) anil)) (acons (var 5) anil)))))
      (seq (app 6 (outc V cl__law_outcome hn (callE (F_turned V) (aapp 2 1 (acons (var 1) (acons (var 4) anil)) (acons (var 2) anil)))))
      (seq (app 6 (outc V cl__law_outcome hn (callE (F_turned V) (aapp 2 1 (acons (var 1) (acons (int 1) anil)) (acons (var 5) anil)))))
      (freeze 6 (ret (op reqS (cb brepr (acons (var 6) anil)) (cb brepr (acons (frz (lst (acons (frz (lst (acons (str "sums") anil))) (acons (frz (lst (acons (str "number") (acons (var 4) anil)))) (acons (frz (lst (acons (str "number") (acons (var 4) anil)))) (acons (frz (lst (acons (str "number") (acons (var 5) anil)))) anil)))))) anil))))))))))))
def F__law_errors_right (V : Ve) (hn : ∀ c ∈ cl__law_outcome, c.1 ∈ V.names) : XF := xf 3 7 (X__law_errors_right V hn)
def X__law_right_8 (V : Ve) (hn : ∀ c ∈ cl__law_outcome, c.1 ∈ V.names) : XS (Good V) :=
  (seq (set 1 (call0 (F__law_pick V) (acons (var 0) (acons (frz (lst (acons (int 1) (acons (int 2) (acons (int 1) (acons (int 3) (acons (int 4) (acons (op radd (int 1) (op rfdiv (call0 (F__law_great V) (acons (var 0) anil)) (int 100))) anil)))))))) anil))))
      (seq (asg (tup (acons (op radd (int 1) (call0 ladleF (acons (var 0) (acons (int 5) anil)))) (acons (op radd (int 1) (call0 ladleF (acons (var 0) (acons (int 5) anil)))) anil))) (gpair 2 3))
      (seq (set 4 (call0 (F__law_capped V) (acons (var 0) (acons (var 3) (acons (op rmul (var 1) (var 2)) anil)))))
      (seq (set 5 (call0 (F_turned V) (aapp 2 1 (acons (var 4) (acons (var 2) anil)) (acons (var 1) anil))))
      (seq (ifS (orT (test (op rneS (cb brepr (acons (var 5) anil)) (cb brepr (acons (call0 (F__law_turned V) (acons (var 4) (acons (var 2) (acons (var 1) anil)))) anil)))) (orT (test (op rne (cb bsum (acons (var 5) anil)) (cb bsum (acons (var 4) anil)))) (test (op rne (var 5) (call0 (F__law_down V) (acons (var 5) anil)))))) (ret (bl false)) skip)
      (seq (ifS (orT (andT (test (op req (var 1) (int 1))) (test (op rne (call0 (F_turned V) (adef 1 (acons (var 4) (acons (var 2) anil)))) (var 5)))) (test (op rne (call0 (F_turned V) (aapp 2 1 (acons (cb btup (acons (call0 mixedF (acons (var 0) (acons (var 4) anil))) anil)) (acons (var 2) anil)) (acons (var 1) anil))) (var 5)))) (ret (bl false)) skip)
      (seq (set 6 (call0 (F__law_near_turned V) (acons (var 0) (acons (var 5) (acons (op rmul (var 1) (var 3)) anil)))))
      (seq (ifS (test (op rne (call0 (F_is_under V) (acons (var 6) (acons (var 5) anil))) (call0 (F_is_under V) (acons (var 4) (acons (call0 (F_turned V) (aapp 2 1 (acons (var 6) (acons (var 3) anil)) (acons (var 1) anil))) anil))))) (ret (bl false)) skip)
      (seq (ifS (notT (tB' (call0 (F__law_under V) (acons (var 4) (acons (call0 (F_turned V) (aapp 2 1 (acons (var 5) (acons (var 3) anil)) (acons (var 1) anil))) anil))))) (ret (bl false)) skip)
      (seq (ifS (test (op rne (call0 (F_turned V) (aapp 2 1 (acons (var 4) (acons (op radd (var 2) (int 2)) anil)) (acons (var 1) anil))) (op radd (var 5) (tup (acons (int 0) (acons (int 0) anil)))))) (ret (bl false)) skip)
      (seq (set 7 (op radd (var 4) (tup (acons (op radd (op rmul (var 1) (var 2)) (int 1)) anil))))
      (ret (andV (op req (outc V cl__law_outcome hn (callE (F_turned V) (aapp 2 1 (acons (var 7) (acons (var 2) anil)) (acons (var 1) anil)))) (frz (lst (acons (str "operation") anil)))) (call0 (F__law_errors_right V hn) (acons (var 0) (acons (var 4) (acons (var 1) anil)))))))))))))))))
def F__law_right_8 (V : Ve) (hn : ∀ c ∈ cl__law_outcome, c.1 ∈ V.names) : XF := xf 1 8 (X__law_right_8 V hn)
def X_law_9_L1 (V : Ve) (hn : ∀ c ∈ cl__law_outcome, c.1 ∈ V.names) : XS (Good V) :=
  (ifS (notT (tB' (callBowl (F__law_right_8 V hn) (acons (var 0) (acons (var 1) anil))))) (ret (bl false)) skip)
def X_law_9 (V : Ve) (hn : ∀ c ∈ cl__law_outcome, c.1 ∈ V.names) : XS (Good V) :=
  (seq (xfor (irng1 (acons (cb bmax (acons (int 1) (acons (cb bmin (acons (int 8) (acons (cb blen (acons (var 0) anil)) anil))) anil))) anil)) (gname 1) (X_law_9_L1 V hn))
      (seq (set 2 (frz (lst (acons (call0 (F_turned V) (adef 1 (acons (tup (acons (int 3) (acons (int 1) anil))) (acons (int 4) anil)))) (acons (call0 (F_turned V) (aapp 2 1 (acons (tup (acons (int 1) (acons (int 1) anil))) (acons (int 2) anil)) (acons (int 2) anil))) (acons (call0 (F_turned V) (aapp 2 1 (acons (tup (acons (int 2) (acons (int 0) anil))) (acons (int 2) anil)) (acons (int 2) anil))) (acons (call0 (F_turned V) (aapp 2 1 (acons (tup (acons (int 7) (acons (int 0) (acons (int 5) anil)))) (acons (int 3) anil)) (acons (op rpow (int 10) (int 29)) anil))) anil)))))))
      (ret (andV (op req (var 2) (frz (lst (acons (tup (acons (int 2) (acons (int 1) (acons (int 1) (acons (int 0) anil))))) (acons (tup (acons (int 2) (acons (int 0) anil))) (acons (tup (acons (int 2) (acons (int 0) anil))) (acons (tup (acons (int 12) (acons (int 0) (acons (int 0) anil)))) anil))))))) (op req (call0 (F_turned V) (aapp 2 1 (acons (tup (acons (int 5) (acons (int 1) anil))) (acons (int 1) anil)) (acons (op rsub (op rpow (int 10) (int 30)) (int 1)) anil))) (tup (acons (int 6) anil)))))))
def F_law_9 (V : Ve) (hn : ∀ c ∈ cl__law_outcome, c.1 ∈ V.names) : XF := xf 1 3 (X_law_9 V hn)
end XD
namespace XD
open PySem PySem.Spec PyProof.Rows L2 SQ XQ
def X_is_arranged_alike (V : Ve) : XS (Good V) :=
  (seq (drop (callE (F_check_rows V) (acons (var 0) (acons (var 1) anil))))
      (seq (ifS (test (op rne (cb blen (acons (var 0) anil)) (cb blen (acons (var 1) anil)))) (ret (bl false)) skip)
      (seq (set 2 (frz (lc (iseq (cb bsrt (acons (frz (lstZ (acons (var 0) (acons (var 1) anil)))) anil))) (gpair 3 4) yes (var 4))))
      (ret (cb ball (acons (frz (lc (izip (acons (var 2) (acons (slc (var 2) (psome (int 1)) pno) anil))) (gpair 4 5) yes (op rle (var 4) (var 5)))) anil))))))
def F_is_arranged_alike (V : Ve) : XF := xf 2 6 (X_is_arranged_alike V)
def X_places_by_entry (V : Ve) : XS (Good V) :=
  (ret (frz (lc (iseq (cb bsrt (acons (frz (lc (ienumT (acons (var 0) anil)) (gpair 3 4) yes (tup (acons (neg (var 4)) (acons (var 3) anil))))) anil))) (gpair 1 2) yes (var 2))))
def F_places_by_entry (V : Ve) : XF := xf 1 5 (X_places_by_entry V)
def X_arranged_L1 (V : Ve) : XS (Good V) :=
  (put 2 (var 4) (var 3))
def X_arranged (V : Ve) : XS (Good V) :=
  (seq (drop (callE (F_check_rows V) (acons (var 0) (acons (var 1) anil))))
      (seq (ifS (test (op rne (cb blen (acons (var 0) anil)) (cb blen (acons (var 1) anil)))) (raise0 (V.cls .operation)) skip)
      (seq (setO 2 (cbO blst (acons (var 0) anil)))
      (seq (xfor (izip (acons (call0 (F_places_by_entry V) (acons (var 1) anil)) (acons (call0 (F_descending V) (acons (var 0) anil)) anil))) (gpair 3 4) (X_arranged_L1 V))
      (freeze 2 (ret (cb btup (acons (var 2) anil))))))))
def F_arranged (V : Ve) : XF := xf 2 5 (X_arranged V)
def X__is_step (V : Ve) : XS (Good V) :=
  (seq (ifS (orT (notT (tB' (cb bisi (acons (var 0) (acons (ty "tuple") anil))))) (test (op rne (cb blen (acons (var 0) anil)) (int 3)))) (ret (bl false)) skip)
      (seq (ifS (orT (notT (tB' (call0 (F_is_within V) (acons (op rix (var 0) (int 0)) (acons (int 0) (acons (op rsub (var 1) (int 1)) anil)))))) (notT (tB' (call0 (F_is_within V) (acons (op rix (var 0) (int 1)) (acons (int 0) (acons (op rsub (var 1) (int 1)) anil))))))) (ret (bl false)) skip)
      (ret (andV (op rne (op rix (var 0) (int 0)) (op rix (var 0) (int 1))) (andV (call0 (F_is_entry V) (acons (op rix (var 0) (int 2)) anil)) (op rge (op rix (var 0) (int 2)) (int 1)))))))
def F__is_step (V : Ve) : XF := xf 2 2 (X__is_step V)
def X__row_behind_L1 (V : Ve) : XS (Good V) :=
  (seq (ifS (notT (tB' (call0 (F__is_step V) (acons (var 3) (acons (cb blen (acons (var 0) anil)) anil))))) (ret non) skip)
      (seq (asg (var 3) (gtup 3 (gcons (gname 4) (gcons (gname 5) (gcons (gname 6) gnil)))))
      (seq (ifS (test (op rlt (ixOwn 2 (var 4)) (op radd (ixOwn 2 (var 5)) (op rmul (int 2) (var 6))))) (ret non) skip)
      (seq (augO 2 (fun i j => i - j) (var 6) (var 4))
      (augO 2 (fun i j => i + j) (var 6) (var 5))))))
def X__row_behind (V : Ve) : XS (Good V) :=
  (seq (ifS (notT (tB' (cb bisi (acons (var 1) (acons (ty "tuple") anil))))) (ret non) skip)
      (seq (setO 2 (cbO blst (acons (var 0) anil)))
      (seq (xfor (iseq (var 1)) (gname 3) (X__row_behind_L1 V))
      (freeze 2 (ret (cb btup (acons (var 2) anil)))))))
def F__row_behind (V : Ve) : XF := xf 2 7 (X__row_behind V)
def X_after (V : Ve) : XS (Good V) :=
  (seq (drop (callE (F_check_row V) (acons (var 0) anil)))
      (seq (set 2 (call0 (F__row_behind V) (acons (var 0) (acons (var 1) anil))))
      (seq (ifS (tB' (isN (var 2))) (raise0 (V.cls .operation)) skip)
      (ret (var 2)))))
def F_after (V : Ve) : XF := xf 2 3 (X_after V)
def X_units (V : Ve) : XS (Good V) :=
  (seq (ifS (orT (notT (tB' (cb bisi (acons (var 0) (acons (ty "tuple") anil))))) (notT (tB' (cb ball (acons (frz (lc (iseq (var 0)) (gname 1) yes (call0 (F__is_step V) (acons (var 1) (acons (int 64) anil))))) anil))))) (raise0 (V.cls .operation)) skip)
      (ret (cb bsum (acons (frz (lc (iseq (var 0)) (gname 1) yes (op rix (var 1) (int 2)))) anil))))
def F_units (V : Ve) : XF := xf 1 2 (X_units V)
def X_is_road (V : Ve) : XS (Good V) :=
  (seq (drop (callE (F_check_rows V) (acons (var 0) (acons (var 1) anil))))
      (ret (op req (call0 (F__row_behind V) (acons (var 0) (acons (var 2) anil))) (var 1))))
def F_is_road (V : Ve) : XF := xf 3 3 (X_is_road V)
def X__law_alike_L1 (V : Ve) : XS (Good V) :=
  (ifS (test (op rne (frz (lc (irng1 (acons (cb blen (acons (var 0) anil)) anil)) (gname 3) (andT (test (op rgt (op rix (var 0) (var 2)) (op rix (var 0) (var 3)))) (test (op rlt (op rix (var 1) (var 2)) (op rix (var 1) (var 3))))) (int 1))) (frz (lst anil)))) (ret (bl false)) skip)
def X__law_alike (V : Ve) : XS (Good V) :=
  (seq (xfor (irng1 (acons (cb blen (acons (var 0) anil)) anil)) (gname 2) (X__law_alike_L1 V))
      (ret (bl true)))
def F__law_alike (V : Ve) : XF := xf 2 4 (X__law_alike V)
def X__law_arranged_L1 (V : Ve) : XS (Good V) :=
  (put 3 (var 5) (op rix (var 4) (int 1)))
def X__law_arranged (V : Ve) : XS (Good V) :=
  (seq (set 2 (cb bsrt (acons (frz (lc (ienumT (acons (var 1) anil)) (gpair 6 5) yes (tup (acons (op rsub (int 0) (var 5)) (acons (var 6) anil))))) anil)))
      (seq (setO 3 (opO rmulO (frz (lst (acons (int 0) anil))) (cb blen (acons (var 0) anil))))
      (seq (xfor (izip (acons (var 2) (acons (call0 (F__law_down V) (acons (var 0) anil)) anil))) (gpair 4 5) (X__law_arranged_L1 V))
      (freeze 3 (ret (cb btup (acons (var 3) anil)))))))
def F__law_arranged (V : Ve) : XF := xf 2 7 (X__law_arranged V)
def X__law_fits (V : Ve) : XS (Good V) :=
  (seq (asg (var 1) (gtup 3 (gcons (gname 2) (gcons (gname 3) (gcons (gname 4) gnil)))))
      (seq (ifS (orT (test (op req (var 2) (var 3))) (orT (notT (test (chain rle rlt (int 0) (var 2) (cb blen (acons (var 0) anil))))) (notT (test (chain rle rlt (int 0) (var 3) (cb blen (acons (var 0) anil))))))) (ret (bl false)) skip)
      (ret (andV (op rge (var 4) (int 1)) (op rge (op rix (var 0) (var 2)) (op radd (op rix (var 0) (var 3)) (op rmul (int 2) (var 4))))))))
def F__law_fits (V : Ve) : XF := xf 2 5 (X__law_fits V)
def X__law_drawn_step (V : Ve) : XS (Good V) :=
  (seq (par 2 3 (acons (call0 ladleF (acons (var 0) (acons (cb blen (acons (var 1) anil)) anil))) (acons (call0 ladleF (acons (var 0) (acons (op radd (cb blen (acons (var 1) anil)) (cb bint (acons (op req (call0 ladleF (acons (var 0) (acons (int 9) anil))) (int 0)) anil))) anil))) anil)))
      (seq (set 4 (op rfdiv (op rsub (op rix (var 1) (var 2)) (op rix (var 1) (cb bmin (acons (var 3) (acons (op rsub (cb blen (acons (var 1) anil)) (int 1)) anil))))) (int 2)))
      (ret (tup (acons (var 2) (acons (var 3) (acons (cb bmax (acons (call0 (F__law_pick V) (acons (var 0) (acons (frz (lst (acons (int 1) (acons (int 1) (acons (int 1) (acons (int 0) anil)))))) anil))) (acons (call0 (F__law_pick V) (acons (var 0) (acons (frz (lst (acons (int 1) (acons (var 4) (acons (op rfdiv (var 4) (int 2)) (acons (op radd (var 4) (int 1)) anil)))))) anil))) anil))) anil)))))))
def F__law_drawn_step (V : Ve) : XF := xf 2 5 (X__law_drawn_step V)
def X__law_walked_L1 (V : Ve) : XS (Good V) :=
  (seq (set 5 (call0 (F__law_drawn_step V) (acons (var 0) (acons (ifE (tB' (notN (var 3))) (var 3) (var 1)) anil))))
      (seq (app 2 (var 5))
      (ifS (tB' (notN (var 3))) (set 3 (ifE (tB' (call0 (F__law_fits V) (acons (var 3) (acons (var 5) anil)))) (call0 (F__law_moved V) (acons (var 3) (acons (op rix (var 5) (int 0)) (acons (op rix (var 5) (int 1)) (acons (op rix (var 5) (int 2)) anil))))) non)) skip)))
def X__law_walked (V : Ve) : XS (Good V) :=
  (seq (parOE 2 3 (lst anil) (var 1))
      (seq (xfor (irng1 (acons (call0 ladleF (acons (var 0) (acons (int 5) anil))) anil)) (gname 4) (X__law_walked_L1 V))
      (freeze 2 (ret (frz (lst (acons (cb btup (acons (var 2) anil)) (acons (var 3) anil))))))))
def F__law_walked (V : Ve) : XF := xf 2 6 (X__law_walked V)
def X__law_steps_right (V : Ve) (hn : ∀ c ∈ cl__law_outcome, c.1 ∈ V.names) : XS (Good V) :=
  (seq (asg (call0 (F__law_walked V) (acons (var 0) (acons (var 1) anil))) (gpair 2 3))
      (seq (set 4 (outc V cl__law_outcome hn (callE (F_after V) (acons (var 1) (acons (var 2) anil)))))
      (seq (ifS (test (op rneS (cb brepr (acons (var 4) anil)) (cb brepr (acons (ifE (tB' (isN (var 3))) (frz (lst (acons (str "operation") anil))) (var 3)) anil)))) (ret (bl false)) skip)
      (seq (ifS (andT (tB' (notN (var 3))) (test (op rne (call0 (F_units V) (acons (var 2) anil)) (cb bsum (acons (frz (lc (iseq (var 2)) (gname 6) yes (op rix (var 6) (int 2)))) anil))))) (ret (bl false)) skip)
      (seq (set 5 (call0 (F__law_near_row V) (acons (var 0) (acons (ifE (tB' (isN (var 3))) (var 1) (var 3)) anil))))
      (seq (ifS (test (op rneS (cb brepr (acons (call0 (F_is_road V) (acons (var 1) (acons (var 5) (acons (var 2) anil)))) anil)) (cb brepr (acons (op req (var 5) (var 3)) anil)))) (ret (bl false)) skip)
      (ret (orV (isN (var 3)) (op risB (call0 (F_is_road V) (acons (var 1) (acons (var 3) (acons (var 2) anil)))) (bl true))))))))))
def F__law_steps_right (V : Ve) (hn : ∀ c ∈ cl__law_outcome, c.1 ∈ V.names) : XF := xf 2 7 (X__law_steps_right V hn)
def X__law_odd_right (V : Ve) (hn : ∀ c ∈ cl__law_outcome, c.1 ∈ V.names) : XS (Good V) :=
  (seq (set 2 (frz (lst (acons non (acons (int 0) (acons (frz (lst anil)) (acons (str "") (acons dnew (acons (tup (acons (int 1) anil)) (acons (tup (acons (tup (acons (int 0) (acons (int 0) (acons (int 1) anil)))) anil)) (acons (tup (acons (tup (acons (int 0) (acons (int 1) anil))) anil)) (acons (tup (acons (tup (acons (int 0) (acons (int 1) (acons (int 0) anil)))) anil)) (acons (tup (acons (tup (acons (int 0) (acons (int 1) (acons (neg (int 1)) anil)))) anil)) (acons (tup (acons (frz (lst (acons (int 0) (acons (int 1) (acons (int 1) anil))))) anil)) anil))))))))))))))
      (seq (set 2 (frz (opO raddO (var 2) (frz (lst (acons (tup (acons (tup (acons (bl true) (acons (int 1) (acons (int 1) anil)))) anil)) (acons (tup (acons (tup (acons (int 0) (acons (int 64) (acons (int 1) anil)))) anil)) (acons (tup (acons (tup (acons (neg (int 1)) (acons (int 1) (acons (int 1) anil)))) anil)) (acons (tup (acons (tup (acons (int 0) (acons (int 1) (acons non anil)))) anil)) (acons (tup (acons (tup (acons (int 0) (acons (int 1) (acons (op rpow (int 10) (int 30)) anil)))) anil)) (acons (tup (acons (int 0) (acons (int 1) (acons (int 1) anil)))) anil)))))))))))
      (seq (set 3 (call0 (F__law_pick V) (acons (var 0) (acons (var 2) anil))))
      (seq (set 4 (call0 (F__law_odd_row V) (acons (var 0) anil)))
      (seq (setO 5 (lst (acons (outc V cl__law_outcome hn (callE (F_units V) (acons (var 3) anil))) anil)))
      (seq (app 5 (outc V cl__law_outcome hn (callE (F_after V) (acons (var 1) (acons (var 3) anil)))))
      (seq (app 5 (outc V cl__law_outcome hn (callE (F_after V) (acons (var 4) (acons (var 3) anil)))))
      (seq (app 5 (outc V cl__law_outcome hn (callE (F_is_road V) (acons (var 4) (acons (var 1) (acons (var 3) anil))))))
      (seq (app 5 (outc V cl__law_outcome hn (callE (F_is_road V) (acons (var 1) (acons (var 4) (acons (tup anil) anil))))))
      (freeze 5 (seq (ifS (test (op rne (var 5) (frz (opO raddO (frz (opO rmulO (frz (lst (acons (frz (lst (acons (str "operation") anil))) anil))) (int 2))) (frz (opO rmulO (frz (lst (acons (frz (lst (acons (str "sums") anil))) anil))) (int 3))))))) (ret (bl false)) skip)
      (ret (andV (op risB (call0 (F_is_road V) (acons (var 1) (acons (var 1) (acons (var 3) anil)))) (bl false)) (op risB (call0 (F_is_road V) (acons (var 1) (acons (var 1) (acons (tup anil) anil)))) (bl true)))))))))))))))
def F__law_odd_right (V : Ve) (hn : ∀ c ∈ cl__law_outcome, c.1 ∈ V.names) : XF := xf 2 6 (X__law_odd_right V hn)
def X__law_right_6_L1 (V : Ve) (hn : ∀ c ∈ cl__law_outcome, c.1 ∈ V.names) : XS (Good V) :=
  (ifS (test (op rneS (cb brepr (acons (call0 (F_is_arranged_alike V) (acons (var 4) (acons (var 5) anil))) anil)) (cb brepr (acons (call0 (F__law_alike V) (acons (var 4) (acons (var 5) anil))) anil)))) (ret (bl false)) skip)
def X__law_right_6 (V : Ve) (hn : ∀ c ∈ cl__law_outcome, c.1 ∈ V.names) : XS (Good V) :=
  (seq (set 1 (call0 (F__law_drawn_row V) (acons (var 0) (acons (int 7) anil))))
      (seq (set 2 (call0 (F__law_pick V) (acons (var 0) (acons (frz (lst (acons (call0 (F__law_near_row V) (acons (var 0) (acons (var 1) anil))) (acons (cb btup (acons (frz (lc (iseq (var 1)) (gname 8) yes (call0 ladleF (acons (var 0) (acons (int 5) anil))))) anil)) anil)))) anil))))
      (seq (set 3 (call0 (F_arranged V) (acons (var 1) (acons (var 2) anil))))
      (seq (ifS (orT (test (op rneS (cb brepr (acons (var 3) anil)) (cb brepr (acons (call0 (F__law_arranged V) (acons (var 1) (acons (var 2) anil))) anil)))) (notT (tB' (call0 (F_is_arranged_alike V) (acons (var 3) (acons (var 2) anil)))))) (ret (bl false)) skip)
      (seq (xfor (iseq (frz (lst (acons (tup (acons (var 1) (acons (var 2) anil))) (acons (tup (acons (var 2) (acons (var 1) anil))) (acons (tup (acons (var 3) (acons (var 1) anil))) (acons (tup (acons (var 1) (acons (revT (var 1)) anil))) anil))))))) (gpair 4 5) (X__law_right_6_L1 V hn))
      (seq (ifS (test (op rnotB (call0 (F_is_arranged_alike V) (acons (var 1) (acons (op radd (var 1) (tup (acons (int 0) anil))) anil))) (bl false))) (ret (bl false)) skip)
      (seq (ifS (test (op rne (outc V cl__law_outcome hn (callE (F_arranged V) (acons (var 1) (acons (op radd (var 1) (tup (acons (int 0) anil))) anil)))) (frz (lst (acons (str "operation") anil))))) (ret (bl false)) skip)
      (seq (set 6 (call0 (F__law_odd_row V) (acons (var 0) anil)))
      (seq (setO 7 (lst (acons (outc V cl__law_outcome hn (callE (F_arranged V) (acons (var 6) (acons (var 1) anil)))) anil)))
      (seq (app 7 (outc V cl__law_outcome hn (callE (F_arranged V) (acons (var 1) (acons (var 6) anil)))))
      (seq (app 7 (outc V cl__law_outcome hn (callE (F_is_arranged_alike V) (acons (var 1) (acons (var 6) anil)))))
      (freeze 7 (ret (andV (op req (var 7) (frz (opO rmulO (frz (lst (acons (frz (lst (acons (str "sums") anil))) anil))) (int 3)))) (andV (call0 (F__law_steps_right V hn) (acons (var 0) (acons (var 1) anil))) (call0 (F__law_odd_right V hn) (acons (var 0) (acons (var 1) anil))))))))))))))))))
def F__law_right_6 (V : Ve) (hn : ∀ c ∈ cl__law_outcome, c.1 ∈ V.names) : XF := xf 1 9 (X__law_right_6 V hn)
def X_law_7_L1 (V : Ve) (hn : ∀ c ∈ cl__law_outcome, c.1 ∈ V.names) : XS (Good V) :=
  (ifS (notT (tB' (callBowl (F__law_right_6 V hn) (acons (var 0) (acons (var 1) anil))))) (ret (bl false)) skip)
def X_law_7 (V : Ve) (hn : ∀ c ∈ cl__law_outcome, c.1 ∈ V.names) : XS (Good V) :=
  (seq (xfor (irng1 (acons (cb bmax (acons (int 1) (acons (cb bmin (acons (int 10) (acons (cb blen (acons (var 0) anil)) anil))) anil))) anil)) (gname 1) (X_law_7_L1 V hn))
      (seq (set 2 (frz (lst (acons (call0 (F_arranged V) (acons (tup (acons (int 5) (acons (int 1) (acons (int 0) anil)))) (acons (tup (acons (int 2) (acons (int 2) (acons (int 3) anil)))) anil))) (acons (call0 (F_is_arranged_alike V) (acons (tup (acons (int 1) (acons (int 0) (acons (int 5) anil)))) (acons (tup (acons (int 2) (acons (int 2) (acons (int 3) anil)))) anil))) (acons (call0 (F_after V) (acons (tup (acons (int 5) (acons (int 1) (acons (int 0) anil)))) (acons (tup (acons (tup (acons (int 0) (acons (int 2) (acons (int 2) anil)))) anil)) anil))) anil))))))
      (seq (set 2 (frz (opO raddO (var 2) (frz (lst (acons (call0 (F_is_road V) (acons (tup (acons (int 2) (acons (int 0) anil))) (acons (tup (acons (int 1) (acons (int 1) anil))) (acons (tup (acons (tup (acons (int 0) (acons (int 1) (acons (int 1) anil)))) anil)) anil)))) (acons (call0 (F_is_road V) (acons (tup (acons (int 2) (acons (int 0) anil))) (acons (tup (acons (int 0) (acons (int 2) anil))) (acons (tup (acons (tup (acons (int 0) (acons (int 1) (acons (int 2) anil)))) anil)) anil)))) (acons (call0 (F_units V) (acons (tup anil) anil)) anil))))))))
      (ret (op req (var 2) (frz (lst (acons (tup (acons (int 1) (acons (int 0) (acons (int 5) anil)))) (acons (bl true) (acons (tup (acons (int 3) (acons (int 1) (acons (int 2) anil)))) (acons (bl true) (acons (bl false) (acons (int 0) anil)))))))))))))
def F_law_7 (V : Ve) (hn : ∀ c ∈ cl__law_outcome, c.1 ∈ V.names) : XF := xf 1 3 (X_law_7 V hn)
end XD
namespace XD
open PySem PySem.Spec PyProof.Rows L2 SQ XQ
def X_greatest_places (V : Ve) : XS (Good V) :=
  (ret (cb btup (acons (cb bsrt (acons (slc (call0 (F_places_by_entry V) (acons (var 0) anil)) pno (psome (var 1))) anil)) anil)))
def F_greatest_places (V : Ve) : XF := xf 2 2 (X_greatest_places V)
def X__lack (V : Ve) : XS (Good V) :=
  (seq (set 2 (cb blen (acons (var 1) anil)))
      (seq (set 3 (op rsub (cb bsum (acons (frz (lc (iseq (var 0)) (gname 4) yes (cb bmin (acons (var 2) (acons (var 4) anil))))) anil)) (cb bsum (acons (frz (lc (iseq (var 1)) (gname 5) yes (cb bmin (acons (var 2) (acons (op rix (var 0) (var 5)) anil))))) anil))))
      (ret (op rsub (op rsub (cb bsum (acons (frz (lc (iseq (var 1)) (gname 5) yes (op rix (var 0) (var 5)))) anil)) (op rmul (var 2) (op rsub (var 2) (int 1)))) (var 3)))))
def F__lack (V : Ve) : XF := xf 2 6 (X__lack V)
def X__lacks (V : Ve) : XS (Good V) :=
  (ret (frz (lc (irng1 (acons (op radd (cb blen (acons (var 0) anil)) (int 1)) anil)) (gname 1) yes (call0 (F__lack V) (acons (var 0) (acons (call0 (F_greatest_places V) (acons (var 0) (acons (var 1) anil))) anil))))))
def F__lacks (V : Ve) : XF := xf 1 2 (X__lacks V)
def X_greatest_lack (V : Ve) : XS (Good V) :=
  (seq (drop (callE (F_check_row V) (acons (var 0) anil)))
      (ret (cb bmax (acons (call0 (F__lacks V) (acons (var 0) anil)) anil))))
def F_greatest_lack (V : Ve) : XF := xf 1 1 (X_greatest_lack V)
def X_fewest_away (V : Ve) : XS (Good V) :=
  (seq (set 1 (callE (F_greatest_lack V) (acons (var 0) anil)))
      (ret (op radd (var 1) (op rmod (op rsub (cb bsum (acons (var 0) anil)) (var 1)) (int 2)))))
def F_fewest_away (V : Ve) : XF := xf 1 2 (X_fewest_away V)
def X_evenly_dealt (V : Ve) : XS (Good V) :=
  (seq (asg (cb bdivmod (acons (var 0) (acons (var 1) anil))) (gpair 2 3))
      (ret (op radd (op rtmul (tup (acons (op radd (var 2) (int 1)) anil)) (var 3)) (op rtmul (tup (acons (var 2) anil)) (op rsub (var 1) (var 3))))))
def F_evenly_dealt (V : Ve) : XF := xf 2 4 (X_evenly_dealt V)
def X__cut_L1 (V : Ve) : XS (Good V) :=
  (aug 2 (fun i j => i + j) (int 1))
def X__cut (V : Ve) : XS (Good V) :=
  (seq (set 2 (int 1))
      (seq (xwhile (andT (test (op rlt (var 2) (cb blen (acons (var 0) anil)))) (test (op rlt (op rsub (cb bsum (acons (slc (var 0) pno (psome (var 2))) anil)) (var 1)) (op rmul (op rix (var 0) (var 2)) (var 2))))) (X__cut_L1 V))
      (ret (op radd (call0 (F_evenly_dealt V) (acons (op rsub (cb bsum (acons (slc (var 0) pno (psome (var 2))) anil)) (var 1)) (acons (var 2) anil))) (slc (var 0) (psome (var 2)) pno)))))
def F__cut (V : Ve) : XF := xf 2 3 (X__cut V)
def X_nearest (V : Ve) : XS (Good V) :=
  (seq (set 1 (callE (F_fewest_away V) (acons (var 0) anil)))
      (ret (callE (F_arranged V) (acons (call0 (F__cut V) (acons (call0 (F_descending V) (acons (var 0) anil)) (acons (var 1) anil))) (acons (var 0) anil)))))
def F_nearest (V : Ve) : XF := xf 1 2 (X_nearest V)
def X_has_web (V : Ve) : XS (Good V) :=
  (ret (andV (op req (callE (F_greatest_lack V) (acons (var 0) anil)) (int 0)) (op req (op rmod (cb bsum (acons (var 0) anil)) (int 2)) (int 0))))
def F_has_web (V : Ve) : XF := xf 1 1 (X_has_web V)
def X_is_nearest (V : Ve) : XS (Good V) :=
  (seq (drop (callE (F_check_row V) (acons (var 0) anil)))
      (seq (ifS (orT (notT (tB' (call0 (F_is_row V) (acons (var 1) anil)))) (test (op rne (cb blen (acons (var 1) anil)) (cb blen (acons (var 0) anil))))) (ret (bl false)) skip)
      (seq (ifS (notT (tB' (cb ball (acons (frz (lc (izip (acons (var 1) (acons (var 0) anil))) (gpair 2 3) yes (op rle (var 2) (var 3)))) anil)))) (ret (bl false)) skip)
      (ret (andV (op req (op rsub (cb bsum (acons (var 0) anil)) (cb bsum (acons (var 1) anil))) (callE (F_fewest_away V) (acons (var 0) anil))) (callE (F_has_web V) (acons (var 1) anil)))))))
def F_is_nearest (V : Ve) : XF := xf 2 4 (X_is_nearest V)
def X__law_row (V : Ve) : XS (Good V) :=
  (ret (cb btup (acons (frz (lc (irng1 (acons (op radd (int 1) (call0 ladleF (acons (var 0) (acons (var 1) anil)))) anil)) (gname 3) yes (call0 ladleF (acons (var 0) (acons (op radd (var 2) (int 1)) anil))))) anil)))
def F__law_row (V : Ve) : XF := xf 3 4 (X__law_row V)
def X__law_greatest_3_L1 (V : Ve) : XS (Good V) :=
  (seq (set 4 (cb bsum (acons (frz (lc (iseq (slc (var 1) (psome (var 3)) pno)) (gname 5) yes (cb bmin (acons (var 3) (acons (var 5) anil))))) anil)))
      (app 2 (op rsub (op rsub (cb bsum (acons (slc (var 1) pno (psome (var 3))) anil)) (op rmul (var 3) (op rsub (var 3) (int 1)))) (var 4))))
def X__law_greatest_3 (V : Ve) : XS (Good V) :=
  (seq (parEO 1 2 (frz (srtR (acons (var 0) anil))) (lst (acons (int 0) anil)))
      (seq (xfor (irng2 (acons (int 1) (acons (op radd (cb blen (acons (var 1) anil)) (int 1)) anil))) (gname 3) (X__law_greatest_3_L1 V))
      (freeze 2 (ret (cb bmax (acons (var 2) anil))))))
def F__law_greatest_3 (V : Ve) : XF := xf 1 6 (X__law_greatest_3 V)
def X__law_is_possible_2 (V : Ve) : XS (Good V) :=
  (ret (andV (op req (op rmod (cb bsum (acons (var 0) anil)) (int 2)) (int 0)) (op req (call0 (F__law_greatest_3 V) (acons (var 0) anil)) (int 0))))
def F__law_is_possible_2 (V : Ve) : XF := xf 1 1 (X__law_is_possible_2 V)
def X__law_below_L1 (V : Ve) : XS (Good V) :=
  (ext 3 (frz (lc (irng1 (acons (op radd (var 2) (int 1)) anil)) (gname 5) yes (op radd (var 4) (tup (acons (var 5) anil))))))
def X__law_below_L2 (V : Ve) : XS (Good V) :=
  (seq (setO 3 (lst anil))
      (seq (xfor (iseq (var 1)) (gname 4) (X__law_below_L1 V))
      (freeze 3 (set 1 (var 3)))))
def X__law_below (V : Ve) : XS (Good V) :=
  (seq (set 1 (frz (lst (acons (tup anil) anil))))
      (seq (xfor (iseq (var 0)) (gname 2) (X__law_below_L2 V))
      (ret (var 1))))
def F__law_below (V : Ve) : XF := xf 1 6 (X__law_below V)
def X__law_fewest_2 (V : Ve) : XS (Good V) :=
  (seq (set 1 (call0 (F__law_greatest_3 V) (acons (var 0) anil)))
      (ret (op radd (var 1) (op rmod (op rsub (cb bsum (acons (var 0) anil)) (var 1)) (int 2)))))
def F__law_fewest_2 (V : Ve) : XF := xf 1 2 (X__law_fewest_2 V)
def X__law_taken_L1 (V : Ve) : XS (Good V) :=
  (seq (set 4 (idxMax 2))
      (put 2 (op rsub (ixOwn 2 (var 4)) (int 1)) (var 4)))
def X__law_taken (V : Ve) : XS (Good V) :=
  (seq (setO 2 (cbO blst (acons (var 0) anil)))
      (seq (xfor (irng1 (acons (var 1) anil)) (gname 3) (X__law_taken_L1 V))
      (freeze 2 (ret (cb btup (acons (var 2) anil))))))
def F__law_taken (V : Ve) : XF := xf 2 5 (X__law_taken V)
def X__law_small_right_4 (V : Ve) : XS (Good V) :=
  (seq (set 1 (call0 (F__law_row V) (acons (var 0) (acons (int 4) (acons (int 4) anil)))))
      (seq (set 2 (frz (lc (iseq (call0 (F__law_below V) (acons (var 1) anil))) (gname 5) (tB' (call0 (F__law_is_possible_2 V) (acons (var 5) anil))) (var 5))))
      (seq (set 3 (cb bmin (acons (frz (lc (iseq (var 2)) (gname 5) yes (op rsub (cb bsum (acons (var 1) anil)) (cb bsum (acons (var 5) anil))))) anil)))
      (seq (ifS (orT (test (op rne (call0 (F_fewest_away V) (acons (var 1) anil)) (var 3))) (test (op rne (call0 (F__law_fewest_2 V) (acons (var 1) anil)) (var 3)))) (ret (bl false)) skip)
      (seq (set 2 (frz (lc (iseq (var 2)) (gname 5) (test (op req (op rsub (cb bsum (acons (var 1) anil)) (cb bsum (acons (var 5) anil))) (var 3))) (var 5))))
      (seq (ifS (orT (test (op (rinA true) (call0 (F_nearest V) (acons (var 1) anil)) (var 2))) (notT (tB' (call0 (F_is_nearest V) (acons (var 1) (acons (call0 (F__law_taken V) (acons (var 1) (acons (var 3) anil))) anil)))))) (ret (bl false)) skip)
      (seq (set 4 (frz (opO raddO (slc (call0 mixedF (acons (var 0) (acons (call0 (F__law_below V) (acons (var 1) anil)) anil))) pno (psome (int 12))) (slc (var 2) pno (psome (int 3))))))
      (ret (op req (frz (lc (iseq (var 4)) (gname 5) (test (op rne (call0 (F_is_nearest V) (acons (var 1) (acons (var 5) anil))) (op (rinA false) (var 5) (var 2)))) (var 5))) (frz (lst anil)))))))))))
def F__law_small_right_4 (V : Ve) : XF := xf 1 6 (X__law_small_right_4 V)
def X__law_pick_3 (V : Ve) : XS (Good V) :=
  (ret (op rix (var 1) (call0 ladleF (acons (var 0) (acons (cb blen (acons (var 1) anil)) anil)))))
def F__law_pick_3 (V : Ve) : XF := xf 2 2 (X__law_pick_3 V)
def X__law_long_right (V : Ve) : XS (Good V) :=
  (seq (setO 1 (cbO blst (acons (call0 (F__law_row V) (acons (var 0) (acons (int 20) (acons (int 25) anil)))) anil)))
      (seq (ifS (test (op req (call0 ladleF (acons (var 0) (acons (int 3) anil))) (int 0))) (put 1 (call0 (F__law_pick_3 V) (acons (var 0) (acons (frz (lst (acons (op rsub (op rpow (int 10) (int 30)) (int 1)) (acons (op rpow (int 10) (int 12)) (acons (int 19) (acons (int 20) anil)))))) anil))) (int 0)) skip)
      (freeze 1 (seq (par 1 2 (acons (cb btup (acons (var 1) anil)) (acons (call0 (F__law_fewest_2 V) (acons (var 1) anil)) anil)))
      (seq (set 3 (call0 (F_nearest V) (acons (var 1) anil)))
      (seq (ifS (orT (test (op rne (call0 (F_fewest_away V) (acons (var 1) anil)) (var 2))) (orT (test (op rne (op rsub (cb bsum (acons (var 1) anil)) (cb bsum (acons (var 3) anil))) (var 2))) (notT (tB' (call0 (F__law_is_possible_2 V) (acons (var 3) anil)))))) (ret (bl false)) skip)
      (seq (ifS (orT (test (op rne (frz (lc (izip (acons (var 3) (acons (var 1) anil))) (gpair 5 6) (notT (test (chain rle rle (int 0) (var 5) (var 6)))) (int 1))) (frz (lst anil)))) (notT (tB' (call0 (F_is_nearest V) (acons (var 1) (acons (var 3) anil)))))) (ret (bl false)) skip)
      (seq (set 4 (frz (lst (acons non (acons (int 0) (acons (tup anil) (acons (frz (cbO blst (acons (var 3) anil))) (acons (op radd (var 3) (tup (acons (int 0) anil))) (acons (slc (var 3) (psome (int 1)) pno) (acons (op rtmul (tup (acons non anil)) (cb blen (acons (var 1) anil))) (acons (ifE (test (op rgt (var 2) (int 0))) (var 1) (op radd (var 1) (var 1))) (acons dnew anil))))))))))))
      (ret (notV (call0 (F_is_nearest V) (acons (var 1) (acons (call0 (F__law_pick_3 V) (acons (var 0) (acons (var 4) anil))) anil)))))))))))))
def F__law_long_right (V : Ve) : XF := xf 1 7 (X__law_long_right V)
def X_law_34_L1 (V : Ve) : XS (Good V) :=
  (bowlS 2 (acons (var 0) (acons (var 1) anil))
      (ifS (orT (notT (tB' (call0 (F__law_small_right_4 V) (acons (var 2) anil)))) (notT (tB' (call0 (F__law_long_right V) (acons (var 2) anil))))) (ret (bl false)) skip))
def X_law_34 (V : Ve) : XS (Good V) :=
  (seq (xfor (irng1 (acons (cb bmax (acons (int 1) (acons (cb bmin (acons (int 4) (acons (cb blen (acons (var 0) anil)) anil))) anil))) anil)) (gname 1) (X_law_34_L1 V))
      (seq (set 3 (frz (lst (acons (call0 (F_fewest_away V) (acons (tup (acons (int 3) (acons (int 3) (acons (int 1) (acons (int 1) anil))))) anil)) (acons (call0 (F_fewest_away V) (acons (tup (acons (int 5) (acons (int 2) (acons (int 2) (acons (int 2) anil))))) anil)) (acons (call0 (F_fewest_away V) (acons (tup (acons (int 1) (acons (int 1) (acons (int 1) anil)))) anil)) (acons (call0 (F_fewest_away V) (acons (tup (acons (int 6) (acons (int 2) (acons (int 2) anil)))) anil)) anil)))))))
      (seq (set 3 (frz (opO raddO (var 3) (frz (lst (acons (call0 (F_is_nearest V) (acons (tup (acons (int 5) (acons (int 2) (acons (int 2) (acons (int 2) anil))))) (acons (tup (acons (int 3) (acons (int 2) (acons (int 2) (acons (int 1) anil))))) anil))) (acons (call0 (F_is_nearest V) (acons (tup (acons (int 5) (acons (int 2) (acons (int 2) (acons (int 2) anil))))) (acons (tup (acons (int 2) (acons (int 2) (acons (int 2) (acons (int 2) anil))))) anil))) (acons (call0 (F_nearest V) (acons (tup (acons (int 0) (acons (int 0) anil))) anil)) anil))))))))
      (seq (set 3 (frz (opO raddO (var 3) (frz (lst (acons (call0 (F_is_nearest V) (acons (tup (acons (int 6) (acons (int 2) (acons (int 2) anil)))) (acons (tup (acons (int 2) (acons (int 2) (acons (int 2) anil)))) anil))) (acons (call0 (F_is_nearest V) (acons (tup (acons (int 1) (acons (int 1) (acons (int 1) anil)))) (acons (tup (acons (int 0) (acons (int 0) (acons (int 0) anil)))) anil))) anil)))))))
      (ret (op req (var 3) (frz (lst (acons (int 2) (acons (int 3) (acons (int 1) (acons (int 4) (acons (bl true) (acons (bl true) (acons (tup (acons (int 0) (acons (int 0) anil))) (acons (bl true) (acons (bl false) anil)))))))))))))))))
def F_law_34 (V : Ve) : XF := xf 1 4 (X_law_34 V)
end XD
namespace Y
open PySem PySem.Spec PyProof.Rows L2 SQ XQ XD
def topS (i : Nat) : Stmt := PySem.Challenge.pw_sumsalone_k33_whole_nearest_rows.main.body.getD i (.Pass ⟨0, 0, 0, 0⟩)
structure Txt (K : Fr) (mg : Str → Option Value) (V : Ve) : Prop where
  b_abs : mg "abs" = none
  b_all : mg "all" = none
  b_bool : mg "bool" = none
  b_divmod : mg "divmod" = none
  b_enumerate : mg "enumerate" = none
  b_int : mg "int" = none
  b_isinstance : mg "isinstance" = none
  b_len : mg "len" = none
  b_list : mg "list" = none
  b_max : mg "max" = none
  b_min : mg "min" = none
  b_range : mg "range" = none
  b_sorted : mg "sorted" = none
  b_sum : mg "sum" = none
  b_tuple : mg "tuple" = none
  b_zip : mg "zip" = none
  k_MAX_LENGTH : ∃ u, mg "MAX_LENGTH" = some u ∧ RelV (.int 64) u
  x_InvalidOperation : Own0 K mg "InvalidOperation" (V.cls .operation)
  x_InvalidSums : Own0 K mg "InvalidSums" (V.cls .sums)
section
variable {P : Program} {w : World} {K : PySem.W.Frag} {mg : Str → Option Value} {base : Heap} {V : Ve}
abbrev s__law_vat : Stmt := topS 29
abbrev N__law_vat : List Str := ["_law_script", "_law_spot", "_law_cell", "_law_great", "_law_seed"]
theorem sc__law_vat : FnScope N__law_vat ["_law_script", "_law_spot"] (defScope s__law_vat) := ⟨rfl, rfl, rfl, by decide +kernel, rfl, by decide +kernel, by decide +kernel⟩
theorem cf__law_vat {f : Addr} {fd : FuncData} (T : Txt K mg V) (Df : Fun K "_law_vat" "_law_vat" s__law_vat f fd) (hm : mg "_law_vat" = some (.ref f)) (hb : Binds K fd ["_law_script", "_law_spot"] []) : CalN P w K mg base 1 "_law_vat" (spO K FB) := by
  refine cfo_of Df hm hb sc__law_vat (fun B ds C X h => by obtain ⟨d, n, rfl, _⟩ := h; rfl) fun cdv A outer s H E hr => ?_
  refine ⟨_, (pss_cons (ps_set (i := 2) sc__law_vat.nd rfl (Or.inl rfl) (pe_ifExp (pt_cmpR op_lt (pv 1) (pe_callB cr_len (by rfl) T.b_len PySem.boot_len (pa_cons (pv 0) pa_nil)) (nomark _)) (pe_ix ix_seq (pv 0) (pv 1) (fun _ _ => rfl)) (pe_op op_addA (pe_op op_mulA pe_int (pv 1)) pe_int)))
      (pss_cons (ps_set (i := 3) sc__law_vat.nd rfl (Or.inl rfl) (pe_op op_mod (pe_callTy cr_int (by rfl) T.b_int PyProof.Rows.boot_int (pa_cons (pe_callB cr_abs (by rfl) T.b_abs PyProof.Rows.boot_abs (pa_cons (pv 2) pa_nil)) pa_nil)) (pe_op op_powW (pe_op op_powW pe_int pe_int) pe_int)))
      (pss_cons (ps_set (i := 4) sc__law_vat.nd rfl (Or.inl rfl) (pe_op op_mod (pe_callTy cr_int (by rfl) T.b_int PyProof.Rows.boot_int (pa_cons (pe_op op_addA (pe_op op_addA (pe_op op_addA (pe_op op_mulA (pv 3) pe_int) (pe_op op_mulA pe_int (pv 1))) (pe_op op_mulA pe_int (pe_callTy cr_int (by rfl) T.b_int PyProof.Rows.boot_int (pa_cons (pe_cmpR op_lt (pv 2) pe_int (nomark _)) pa_nil)))) pe_int) pa_nil)) pe_int))
      (pss_one (ps_ret (pe_lst (pa_cons (pe_callB (cr_maxA rfl) (by rfl) T.b_max PyProof.Rows.boot_max (pa_cons pe_int (pa_cons (pe_op op_sub (pv 3) (pe_op op_powW pe_int pe_int)) pa_nil))) (pa_cons (pv 4) (pa_cons pe_int pa_nil))))))))), ?_⟩
  dsimp only [cxOf, Cx.nox]
  intro Γ ds C hF
  obtain ⟨ns, i, rfl, hi, c⟩ := hF
  refine wpS_seq (wpS_set (Nat.le_of_ble_eq_true rfl) (wpE.mono (C := fun d => ∃ z : Int, d = .int z) ?_ ?_))
  · walk_at "wk"
    split
    · walk_at "wk"
      rename_i h
      have h : i < ns.length := by simpa using h
      refine wpR_ixS (z := ns[i]) (atI_nat (by simp [h])) ?_
      exact ⟨_, rfl⟩
    · walk_at "wk"
      exact ⟨_, rfl⟩
  · rintro d ⟨z, rfl⟩
    walk_at "wk"
    first | exact c _ _ | exact ⟨Nat.le_of_ble_eq_true rfl, c _ _⟩
abbrev s__law_dip : Stmt := topS 30
abbrev N__law_dip : List Str := ["_law_vat_here", "_law_size", "_law_found", "_law_one", "_law_two"]
theorem sc__law_dip : FnScope N__law_dip ["_law_vat_here", "_law_size"] (defScope s__law_dip) := ⟨rfl, rfl, rfl, by decide +kernel, rfl, by decide +kernel, by decide +kernel⟩
theorem cf__law_dip {f : Addr} {fd : FuncData} (T : Txt K mg V) (Df : Fun K "_law_dip" "_law_dip" s__law_dip f fd) (hm : mg "_law_dip" = some (.ref f)) (hb : Binds K fd ["_law_vat_here", "_law_size"] []) : CF P w K mg base 1 "_law_dip" ladleF.F := by
  refine cf_of Df hm hb sc__law_dip (fun B ds C X h => by obtain ⟨d, n, rfl, _⟩ := old_ladle h; rfl) fun cdv A outer s H E hr => ?_
  refine ⟨_, (pss_cons (ps_if (pt_cmpR op_gt (pe_ix ix_seq (pv 0) pe_int (fun _ _ => rfl)) pe_int (nomark _)) (pss_cons (ps_set (i := 2) sc__law_dip.nd rfl (Or.inl rfl) (pe_op op_mod (pe_callTy cr_int (by rfl) T.b_int PyProof.Rows.boot_int (pa_cons (pe_ix ix_seq (pv 0) pe_int (fun _ _ => rfl)) pa_nil)) (pv 1)))
      (pss_cons (ps_asg (pe_op op_fdivW (pe_ix ix_seq (pv 0) pe_int (fun _ _ => rfl)) (pv 1)) (pg_sub (pv 0) pe_int set_list))
      (pss_one (ps_ret (pv 2))))) pss_nil)
      (pss_cons (ps_asg (pe_op op_addA (pe_ix ix_seq (pv 0) pe_int (fun _ _ => rfl)) pe_int) (pg_sub (pv 0) pe_int set_list))
      (pss_cons (ps_set (i := 3) sc__law_dip.nd rfl (Or.inl rfl) (pe_op op_mod (pe_callTy cr_int (by rfl) T.b_int PyProof.Rows.boot_int (pa_cons (pe_op op_addA (pe_ix ix_seq (pv 0) pe_int (fun _ _ => rfl)) (pe_op op_mulA pe_int (pe_ix ix_seq (pv 0) pe_int (fun _ _ => rfl)))) pa_nil)) pe_int))
      (pss_cons (ps_set (i := 4) sc__law_dip.nd rfl (Or.inl rfl) (pe_op op_addA (pe_op op_mulA (pe_op op_mod (pe_callTy cr_int (by rfl) T.b_int PyProof.Rows.boot_int (pa_cons (pe_op op_mulA (pv 3) (pv 3)) pa_nil)) pe_int) (pv 3)) (pe_op op_mulA pe_int (pe_ix ix_seq (pv 0) pe_int (fun _ _ => rfl)))))
      (pss_one (ps_ret (pe_op op_mod (pe_callTy cr_int (by rfl) T.b_int PyProof.Rows.boot_int (pa_cons (pe_op op_fdivW (pe_op op_mod (pe_callTy cr_int (by rfl) T.b_int PyProof.Rows.boot_int (pa_cons (pe_op op_addA (pv 4) (pe_ix ix_seq (pv 0) pe_int (fun _ _ => rfl))) pa_nil)) pe_int) pe_int) pa_nil)) (pv 1)))))))), ?_⟩
  dsimp only [cxOf, Cx.nox]
  intro Γ ds C hF
  obtain ⟨p, n, rfl, b, hn, hl, c⟩ := old_ladle hF
  have hl := log_small hn hl
  walk_at "wk"
  split
  · walk_at "wk"
    exact c _ (Int.emod_nonneg _ (by omega)) (Int.emod_lt_of_pos _ hn)
  · walk_at "wk"
    exact c _ (Int.emod_nonneg _ (by omega)) (Int.emod_lt_of_pos _ hn)

abbrev s__law_mixed : Stmt := topS 32
abbrev N__law_mixed : List Str := ["_law_vat_here", "_law_items", "_law_left", "_law_turn"]
theorem sc__law_mixed : FnScope N__law_mixed ["_law_vat_here", "_law_items"] (defScope s__law_mixed) := ⟨rfl, rfl, rfl, by decide +kernel, rfl, by decide +kernel, by decide +kernel⟩

theorem cf__law_mixed {f : Addr} {fd : FuncData} (T : Txt K mg V) (f__law_dip : CF P w K mg base 1 "_law_dip" ladleF.F) (Df : Fun K "_law_mixed" "_law_mixed" s__law_mixed f fd) (hm : mg "_law_mixed" = some (.ref f)) (hb : Binds K fd ["_law_vat_here", "_law_items"] []) : CF P w K mg base 2 "_law_mixed" mixedF.F := by
  refine cf_of Df hm hb sc__law_mixed (fun B ds C X h => by obtain ⟨d, n, e, _⟩ := old_mixed h; rcases e with rfl | rfl <;> rfl) fun cdv A outer s H E hr => ?_
  refine ⟨_, (pss_cons (ps_set (i := 2) sc__law_mixed.nd rfl (Or.inr rfl) (pe_callTy (cr_lstK (K := K)) (by rfl) T.b_list PyProof.Rows.boot_list (pa_cons (pv 1) pa_nil)))
      (pss_one (ps_ret (pe_lc (own := [("_law_turn", 3)])  rfl sc__law_mixed.nd  (pi_range1 (by rfl) T.b_range (pa_cons (pe_callB (cr_lenK (K := K)) (by rfl) T.b_len PySem.boot_len (pa_cons (pv 1) pa_nil)) pa_nil)) (blkOk_by (N := N__law_mixed) (sc := defScope s__law_mixed) (by decide +kernel)) (fun _ _ _ _ _ => (pg_name (i := 3) sc__law_mixed.nd rfl (Or.inl rfl))) (fun _ _ _ _ _ => pts_nil) (fun _ _ _ _ _ => (pe_bmK (K := K) PySem.F.plainAttrs_list PySem.F.slot_list_pop PySem.F.type_list_pop mt_popAt (pv 2) (pa_cons (pe_f f__law_dip hr (by decide) (by rfl) (pa_cons (pv 0) (pa_cons (pe_callB (cr_lenK (K := K)) (by rfl) T.b_len PySem.boot_len (pa_cons (pv 2) pa_nil)) pa_nil))) pa_nil))))))), ?_⟩
  intro Γ ds C hF
  obtain ⟨p, xs, e, b, hz, c⟩ := old_mixed hF
  rcases e with rfl | rfl
  · refine wpS_seq (wpS_setO (Nat.le_of_ble_eq_true rfl) (wpO_cb (wpA_cons (wpE_var rfl (wpA_nil (wpBO_lstL ?_))))))
    refine wpS_apart (i := 2) rfl fun a => wpS_retXV (wpO_lcX (wpI_rng1 ?_))
    walk_at "wk"
    refine ⟨by omega, by simp [rngD]; omega, fun n acc X => ∃ left, X = [(.own left, some (.ref a))] ∧ acc.length = n ∧ (acc ++ left).Perm xs, ⟨xs, rfl, rfl, List.Perm.refl _⟩, ?_, ?_⟩
    · rintro n d acc X hd ⟨left, rfl, hl, hp⟩
      have hn : n < xs.length := by
        have := (List.getElem?_eq_some_iff.mp hd).1
        simpa [rngD] using this
      have hlen := hp.length_eq
      rw [List.length_append] at hlen
      refine wpG_name (Nat.le_of_ble_eq_true rfl) (by decide) ?_
      refine wpEX_popDraw (p := p) mono_ladle rfl rfl b (fun B n C hb h1 h2 h => new_ladle hb (by omega) (by omega) h) (by omega) (by omega) fun k d hk => ?_
      refine ⟨left.eraseIdx k, rfl, by simp [hl], ?_⟩
      rw [List.append_assoc]
      exact (List.Perm.append_left _ (pull_perm hk)).trans hp
    · rintro acc X ⟨left, rfl, hl, hp⟩
      have h2 := hp.length_eq
      rw [List.length_append, hl] at h2
      simp [rngD] at h2
      subst h2
      exact c acc (by simpa using hp)
  · refine wpS_seq (wpS_setO (Nat.le_of_ble_eq_true rfl) (wpO_cb (wpA_cons (wpE_var rfl (wpA_nil (wpBO_lstT ?_))))))
    refine wpS_apart (i := 2) rfl fun a => wpS_retXV (wpO_lcX (wpI_rng1 ?_))
    walk_at "wk"
    refine ⟨by omega, by simp [rngD]; omega, fun n acc X => ∃ left, X = [(.own left, some (.ref a))] ∧ acc.length = n ∧ (acc ++ left).Perm xs, ⟨xs, rfl, rfl, List.Perm.refl _⟩, ?_, ?_⟩
    · rintro n d acc X hd ⟨left, rfl, hl, hp⟩
      have hn : n < xs.length := by
        have := (List.getElem?_eq_some_iff.mp hd).1
        simpa [rngD] using this
      have hlen := hp.length_eq
      rw [List.length_append] at hlen
      refine wpG_name (Nat.le_of_ble_eq_true rfl) (by decide) ?_
      refine wpEX_popDraw (p := p) mono_ladle rfl rfl b (fun B n C hb h1 h2 h => new_ladle hb (by omega) (by omega) h) (by omega) (by omega) fun k d hk => ?_
      refine ⟨left.eraseIdx k, rfl, by simp [hl], ?_⟩
      rw [List.append_assoc]
      exact (List.Perm.append_left _ (pull_perm hk)).trans hp
    · rintro acc X ⟨left, rfl, hl, hp⟩
      have h2 := hp.length_eq
      rw [List.length_append, hl] at h2
      simp [rngD] at h2
      subst h2
      exact c acc (by simpa using hp)

abbrev s_is_whole : Stmt := topS 5
abbrev N_is_whole : List Str := ["value"]
theorem sc_is_whole : FnScope N_is_whole ["value"] (defScope s_is_whole) := ⟨rfl, rfl, rfl, by decide +kernel, rfl, by decide +kernel, by decide +kernel⟩
theorem cf_is_whole {f : Addr} {fd : FuncData} (T : Txt K mg V) (gd : Good V K) (Df : Fun K "is_whole" "is_whole" s_is_whole f fd) (hm : mg "is_whole" = some (.ref f)) (hb : Binds K fd ["value"] []) : CF P w K mg base 1 "is_whole" (F_is_whole V).F := by
  refine cf_of Df hm hb sc_is_whole (fun B ds C X h => h.1) fun cdv A outer s H E hr => ?_
  refine ⟨_, (pss_one (ps_ret (pe_and (pe_callB (cr_isiK (K := K)) (by rfl) T.b_isinstance PyProof.Rows.boot_isinstance (pa_cons (pv 0) (pa_cons (pe_bltn (v := .ty "int") (by rfl) T.b_int PyProof.Rows.boot_int rfl) pa_nil))) (pe_one (pe_not (pe_callB (cr_isiK (K := K)) (by rfl) T.b_isinstance PyProof.Rows.boot_isinstance (pa_cons (pv 0) (pa_cons (pe_bltn (v := .ty "bool") (by rfl) T.b_bool PyProof.Rows.boot_bool rfl) pa_nil)))))))), ?_⟩
  intro Γ ds C hF
  exact (X_is_whole V).ok gd hF.2
abbrev s_is_entry : Stmt := topS 6
abbrev N_is_entry : List Str := ["value"]
theorem sc_is_entry : FnScope N_is_entry ["value"] (defScope s_is_entry) := ⟨rfl, rfl, rfl, by decide +kernel, rfl, by decide +kernel, by decide +kernel⟩
theorem cf_is_entry {f : Addr} {fd : FuncData} (T : Txt K mg V) (gd : Good V K) (f_is_whole : CF P w K mg base 1 "is_whole" (F_is_whole V).F) (Df : Fun K "is_entry" "is_entry" s_is_entry f fd) (hm : mg "is_entry" = some (.ref f)) (hb : Binds K fd ["value"] []) : CF P w K mg base 2 "is_entry" (F_is_entry V).F := by
  refine cf_of Df hm hb sc_is_entry (fun B ds C X h => h.1) fun cdv A outer s H E hr => ?_
  refine ⟨_, (pss_one (ps_ret (pe_and (pe_f f_is_whole hr (by decide) (by rfl) (pa_cons (pv 0) pa_nil)) (pe_one (pe_chain op_le op_lt pe_int (pv 0) (pe_op op_powW pe_int pe_int)))))), ?_⟩
  intro Γ ds C hF
  exact (X_is_entry V).ok gd hF.2
abbrev s_is_row : Stmt := topS 9
abbrev N_is_row : List Str := ["value", "entry"]
theorem sc_is_row : FnScope N_is_row ["value"] (defScope s_is_row) := ⟨rfl, rfl, rfl, by decide +kernel, rfl, by decide +kernel, by decide +kernel⟩
theorem cf_is_row {f : Addr} {fd : FuncData} (T : Txt K mg V) (gd : Good V K) (f_is_entry : CF P w K mg base 2 "is_entry" (F_is_entry V).F) (Df : Fun K "is_row" "is_row" s_is_row f fd) (hm : mg "is_row" = some (.ref f)) (hb : Binds K fd ["value"] []) : CF P w K mg base 3 "is_row" (F_is_row V).F := by
  refine cf_of Df hm hb sc_is_row (fun B ds C X h => h.1) fun cdv A outer s H E hr => ?_
  refine ⟨_, (pss_cons (ps_if (PW.pt (pw_or (pt_not (pt_val (pe_callB (cr_isiK (K := K)) (by rfl) T.b_isinstance PyProof.Rows.boot_isinstance (pa_cons (pv 0) (pa_cons (pe_bltn (v := .ty "tuple") (by rfl) T.b_tuple PyProof.Rows.boot_tuple rfl) pa_nil))) (fun _ => rfl))) (pw_or1 (pt_not (pt_chain op_le op_le pe_int (pe_callB (cr_lenK (K := K)) (by rfl) T.b_len PySem.boot_len (pa_cons (pv 0) pa_nil)) (C8.pe_gc (by rfl) T.k_MAX_LENGTH)))))) (pss_one (ps_ret pe_bl)) pss_nil)
      (pss_one (ps_ret (pe_callB (cr_allK (K := K) rfl) (by rfl) T.b_all PyProof.Rows.boot_all (pa_cons (pe_lc (own := [("entry", 1)])  rfl sc_is_row.nd  (pi_seqK (K := K) (pv 0)) (blkOk_by (N := N_is_row) (sc := defScope s_is_row) (by decide +kernel)) (fun _ _ _ _ _ => (pg_name (i := 1) sc_is_row.nd rfl (Or.inl rfl))) (fun _ _ _ _ _ => pts_nil) (fun _ _ _ _ _ => (pe_f f_is_entry hr (by decide) (by rfl) (pa_cons (pv 1) pa_nil)))) pa_nil))))), ?_⟩
  intro Γ ds C hF
  exact (X_is_row V).ok gd hF.2
abbrev s_check_row : Stmt := topS 10
abbrev N_check_row : List Str := ["value"]
theorem sc_check_row : FnScope N_check_row ["value"] (defScope s_check_row) := ⟨rfl, rfl, rfl, by decide +kernel, rfl, by decide +kernel, by decide +kernel⟩
theorem cf_check_row {f : Addr} {fd : FuncData} (T : Txt K mg V) (gd : Good V K) (f_is_row : CF P w K mg base 3 "is_row" (F_is_row V).F) (Df : Fun K "check_row" "check_row" s_check_row f fd) (hm : mg "check_row" = some (.ref f)) (hb : Binds K fd ["value"] []) : CFX P w K mg base 4 "check_row" (F_check_row V).F := by
  refine cfx_of Df hm hb sc_check_row (fun B ds C X h => h.1) fun cdv A outer s H E hr => ?_
  refine ⟨_, (pss_one (ps_if (pt_not (pt_val (pe_f f_is_row hr (by decide) (by rfl) (pa_cons (pv 0) pa_nil)) (fun _ => rfl))) (pss_one (ps_raiseO rfl (takes_of rfl rfl rfl rfl) T.x_InvalidSums (by rfl))) pss_nil)), ?_⟩
  intro Γ ds C hE hF
  subst hE
  exact (X_check_row V).ok gd hF.2
abbrev s_places_by_entry : Stmt := topS 13
abbrev N_places_by_entry : List Str := ["row", "_", "place", "index", "entry"]
theorem sc_places_by_entry : FnScope N_places_by_entry ["row"] (defScope s_places_by_entry) := ⟨rfl, rfl, rfl, by decide +kernel, rfl, by decide +kernel, by decide +kernel⟩
theorem cf_places_by_entry {f : Addr} {fd : FuncData} (T : Txt K mg V) (gd : Good V K) (Df : Fun K "places_by_entry" "places_by_entry" s_places_by_entry f fd) (hm : mg "places_by_entry" = some (.ref f)) (hb : Binds K fd ["row"] []) : CF P w K mg base 1 "places_by_entry" (F_places_by_entry V).F := by
  refine cf_of Df hm hb sc_places_by_entry (fun B ds C X h => h.1) fun cdv A outer s H E hr => ?_
  refine ⟨_, (pss_one (ps_ret (pe_lc (own := [("_", 1), ("place", 2)])  rfl sc_places_by_entry.nd  (pi_seqK (K := K) (pe_callB (cr_srt2K (K := K)) (by rfl) T.b_sorted PyProof.Rows.boot_sorted (pa_cons (pe_lc (own := [("index", 3), ("entry", 4)])  rfl sc_places_by_entry.nd  (pi_enumTK (K := K) (by rfl) T.b_enumerate (pa_cons (pv 0) pa_nil)) (blkOk_by (N := N_places_by_entry) (sc := defScope s_places_by_entry) (by decide +kernel)) (fun _ _ _ _ _ => (pg_seqK (K := K) (n := 2) rfl (pgs_cons (pg_name (i := 3) sc_places_by_entry.nd rfl (Or.inl rfl)) (pgs_cons (pg_name (i := 4) sc_places_by_entry.nd rfl (Or.inl rfl)) pgs_nil)))) (fun _ _ _ _ _ => pts_nil) (fun _ _ _ _ _ => (pe_tup (pa_cons (pe_un un_neg (pv 4)) (pa_cons (pv 3) pa_nil))))) pa_nil))) (blkOk_by (N := N_places_by_entry) (sc := defScope s_places_by_entry) (by decide +kernel)) (fun _ _ _ _ _ => (pg_seqK (K := K) (n := 2) rfl (pgs_cons (pg_name (i := 1) sc_places_by_entry.nd rfl (Or.inl rfl)) (pgs_cons (pg_name (i := 2) sc_places_by_entry.nd rfl (Or.inl rfl)) pgs_nil)))) (fun _ _ _ _ _ => pts_nil) (fun _ _ _ _ _ => (pv 2))))), ?_⟩
  intro Γ ds C hF
  exact (X_places_by_entry V).ok gd hF.2
abbrev s_greatest_places : Stmt := topS 14
abbrev N_greatest_places : List Str := ["row", "many"]
theorem sc_greatest_places : FnScope N_greatest_places ["row", "many"] (defScope s_greatest_places) := ⟨rfl, rfl, rfl, by decide +kernel, rfl, by decide +kernel, by decide +kernel⟩
theorem cf_greatest_places {f : Addr} {fd : FuncData} (T : Txt K mg V) (gd : Good V K) (f_places_by_entry : CF P w K mg base 1 "places_by_entry" (F_places_by_entry V).F) (Df : Fun K "greatest_places" "greatest_places" s_greatest_places f fd) (hm : mg "greatest_places" = some (.ref f)) (hb : Binds K fd ["row", "many"] []) : CF P w K mg base 2 "greatest_places" (F_greatest_places V).F := by
  refine cf_of Df hm hb sc_greatest_places (fun B ds C X h => h.1) fun cdv A outer s H E hr => ?_
  refine ⟨_, (pss_one (ps_ret (pe_callTy (cr_tupK (K := K)) (by rfl) T.b_tuple PyProof.Rows.boot_tuple (pa_cons (pe_callB (cr_srt2K (K := K)) (by rfl) T.b_sorted PyProof.Rows.boot_sorted (pa_cons (pe_slice (sl_anyK (K := K)) (pe_f f_places_by_entry hr (by decide) (by rfl) (pa_cons (pv 0) pa_nil)) po_none (po_some (pv 1))) pa_nil)) pa_nil)))), ?_⟩
  intro Γ ds C hF
  exact (X_greatest_places V).ok gd hF.2
abbrev s__lack : Stmt := topS 21
abbrev N__lack : List Str := ["degrees", "places", "many", "outside", "entry", "place"]
theorem sc__lack : FnScope N__lack ["degrees", "places"] (defScope s__lack) := ⟨rfl, rfl, rfl, by decide +kernel, rfl, by decide +kernel, by decide +kernel⟩
theorem cf__lack {f : Addr} {fd : FuncData} (T : Txt K mg V) (gd : Good V K) (Df : Fun K "_lack" "_lack" s__lack f fd) (hm : mg "_lack" = some (.ref f)) (hb : Binds K fd ["degrees", "places"] []) : CF P w K mg base 1 "_lack" (F__lack V).F := by
  refine cf_of Df hm hb sc__lack (fun B ds C X h => h.1) fun cdv A outer s H E hr => ?_
  refine ⟨_, (pss_cons (ps_set (i := 2) sc__lack.nd rfl (Or.inr rfl) (pe_callB (cr_lenK (K := K)) (by rfl) T.b_len PySem.boot_len (pa_cons (pv 1) pa_nil)))
      (pss_cons (ps_set (i := 3) sc__lack.nd rfl (Or.inl rfl) (pe_op op_sub (pe_callB (cr_sumK (K := K) rfl) (by rfl) T.b_sum PyProof.Rows.boot_sum (pa_cons (pe_lc (own := [("entry", 4)])  rfl sc__lack.nd  (pi_seqK (K := K) (pv 0)) (blkOk_by (N := N__lack) (sc := defScope s__lack) (by decide +kernel)) (fun _ _ _ _ _ => (pg_name (i := 4) sc__lack.nd rfl (Or.inl rfl))) (fun _ _ _ _ _ => pts_nil) (fun _ _ _ _ _ => (pe_callB (cr_min4K (K := K) rfl) (by rfl) T.b_min PyProof.Rows.boot_min (pa_cons (pv 2) (pa_cons (pv 4) pa_nil))))) pa_nil)) (pe_callB (cr_sumK (K := K) rfl) (by rfl) T.b_sum PyProof.Rows.boot_sum (pa_cons (pe_lc (own := [("place", 5)])  rfl sc__lack.nd  (pi_seqK (K := K) (pv 1)) (blkOk_by (N := N__lack) (sc := defScope s__lack) (by decide +kernel)) (fun _ _ _ _ _ => (pg_name (i := 5) sc__lack.nd rfl (Or.inl rfl))) (fun _ _ _ _ _ => pts_nil) (fun _ _ _ _ _ => (pe_callB (cr_min4K (K := K) rfl) (by rfl) T.b_min PyProof.Rows.boot_min (pa_cons (pv 2) (pa_cons (pe_ix (ix_seqK (K := K)) (pv 0) (pv 5) (fun _ _ => rfl)) pa_nil))))) pa_nil))))
      (pss_one (ps_ret (pe_op op_sub (pe_op op_sub (pe_callB (cr_sumK (K := K) rfl) (by rfl) T.b_sum PyProof.Rows.boot_sum (pa_cons (pe_lc (own := [("place", 5)])  rfl sc__lack.nd  (pi_seqK (K := K) (pv 1)) (blkOk_by (N := N__lack) (sc := defScope s__lack) (by decide +kernel)) (fun _ _ _ _ _ => (pg_name (i := 5) sc__lack.nd rfl (Or.inl rfl))) (fun _ _ _ _ _ => pts_nil) (fun _ _ _ _ _ => (pe_ix (ix_seqK (K := K)) (pv 0) (pv 5) (fun _ _ => rfl)))) pa_nil)) (pe_op (op_mulK (K := K)) (pv 2) (pe_op op_sub (pv 2) pe_int))) (pv 3)))))), ?_⟩
  intro Γ ds C hF
  exact (X__lack V).ok gd hF.2
abbrev s__lacks : Stmt := topS 22
abbrev N__lacks : List Str := ["degrees", "many"]
theorem sc__lacks : FnScope N__lacks ["degrees"] (defScope s__lacks) := ⟨rfl, rfl, rfl, by decide +kernel, rfl, by decide +kernel, by decide +kernel⟩
theorem cf__lacks {f : Addr} {fd : FuncData} (T : Txt K mg V) (gd : Good V K) (f_greatest_places : CF P w K mg base 2 "greatest_places" (F_greatest_places V).F) (f__lack : CF P w K mg base 1 "_lack" (F__lack V).F) (Df : Fun K "_lacks" "_lacks" s__lacks f fd) (hm : mg "_lacks" = some (.ref f)) (hb : Binds K fd ["degrees"] []) : CF P w K mg base 3 "_lacks" (F__lacks V).F := by
  refine cf_of Df hm hb sc__lacks (fun B ds C X h => h.1) fun cdv A outer s H E hr => ?_
  refine ⟨_, (pss_one (ps_ret (pe_lc (own := [("many", 1)])  rfl sc__lacks.nd  (pi_range1 (by rfl) T.b_range (pa_cons (pe_op (op_addK (K := K)) (pe_callB (cr_lenK (K := K)) (by rfl) T.b_len PySem.boot_len (pa_cons (pv 0) pa_nil)) pe_int) pa_nil)) (blkOk_by (N := N__lacks) (sc := defScope s__lacks) (by decide +kernel)) (fun _ _ _ _ _ => (pg_name (i := 1) sc__lacks.nd rfl (Or.inl rfl))) (fun _ _ _ _ _ => pts_nil) (fun _ _ _ _ _ => (pe_f f__lack hr (by decide) (by rfl) (pa_cons (pv 0) (pa_cons (pe_f f_greatest_places hr (by decide) (by rfl) (pa_cons (pv 0) (pa_cons (pv 1) pa_nil))) pa_nil))))))), ?_⟩
  intro Γ ds C hF
  exact (X__lacks V).ok gd hF.2
abbrev s_greatest_lack : Stmt := topS 19
abbrev N_greatest_lack : List Str := ["degrees"]
theorem sc_greatest_lack : FnScope N_greatest_lack ["degrees"] (defScope s_greatest_lack) := ⟨rfl, rfl, rfl, by decide +kernel, rfl, by decide +kernel, by decide +kernel⟩
theorem cf_greatest_lack {f : Addr} {fd : FuncData} (T : Txt K mg V) (gd : Good V K) (f_check_row : CFX P w K mg base 4 "check_row" (F_check_row V).F) (f__lacks : CF P w K mg base 3 "_lacks" (F__lacks V).F) (Df : Fun K "greatest_lack" "greatest_lack" s_greatest_lack f fd) (hm : mg "greatest_lack" = some (.ref f)) (hb : Binds K fd ["degrees"] []) : CFX P w K mg base 5 "greatest_lack" (F_greatest_lack V).F := by
  refine cfx_of Df hm hb sc_greatest_lack (fun B ds C X h => h.1) fun cdv A outer s H E hr => ?_
  refine ⟨_, (pss_cons (ps_expr (pe_cE (takes_of rfl rfl rfl rfl) (fun _ _ _ _ h => h) f_check_row hr (by decide) (by rfl) (pa_cons (pv 0) pa_nil)))
      (pss_one (ps_ret (pe_callB (cr_max4K (K := K) rfl) (by rfl) T.b_max PyProof.Rows.boot_max (pa_cons (pe_f f__lacks hr (by decide) (by rfl) (pa_cons (pv 0) pa_nil)) pa_nil))))), ?_⟩
  intro Γ ds C hE hF
  subst hE
  exact (X_greatest_lack V).ok gd hF.2
abbrev s_fewest_away : Stmt := topS 24
abbrev N_fewest_away : List Str := ["degrees", "away"]
theorem sc_fewest_away : FnScope N_fewest_away ["degrees"] (defScope s_fewest_away) := ⟨rfl, rfl, rfl, by decide +kernel, rfl, by decide +kernel, by decide +kernel⟩
theorem cf_fewest_away {f : Addr} {fd : FuncData} (T : Txt K mg V) (gd : Good V K) (f_greatest_lack : CFX P w K mg base 5 "greatest_lack" (F_greatest_lack V).F) (Df : Fun K "fewest_away" "fewest_away" s_fewest_away f fd) (hm : mg "fewest_away" = some (.ref f)) (hb : Binds K fd ["degrees"] []) : CFX P w K mg base 6 "fewest_away" (F_fewest_away V).F := by
  refine cfx_of Df hm hb sc_fewest_away (fun B ds C X h => h.1) fun cdv A outer s H E hr => ?_
  refine ⟨_, (pss_cons (ps_set (i := 1) sc_fewest_away.nd rfl (Or.inl rfl) (pe_cE (takes_of rfl rfl rfl rfl) (fun _ _ _ _ h => h) f_greatest_lack hr (by decide) (by rfl) (pa_cons (pv 0) pa_nil)))
      (pss_one (ps_ret (pe_op (op_addK (K := K)) (pv 1) (pe_op op_mod (pe_op op_sub (pe_callB (cr_sumK (K := K) rfl) (by rfl) T.b_sum PyProof.Rows.boot_sum (pa_cons (pv 0) pa_nil)) (pv 1)) pe_int))))), ?_⟩
  intro Γ ds C hE hF
  subst hE
  exact (X_fewest_away V).ok gd hF.2
abbrev s_descending : Stmt := topS 12
abbrev N_descending : List Str := ["row"]
theorem sc_descending : FnScope N_descending ["row"] (defScope s_descending) := ⟨rfl, rfl, rfl, by decide +kernel, rfl, by decide +kernel, by decide +kernel⟩
theorem cf_descending {f : Addr} {fd : FuncData} (T : Txt K mg V) (gd : Good V K) (Df : Fun K "descending" "descending" s_descending f fd) (hm : mg "descending" = some (.ref f)) (hb : Binds K fd ["row"] []) : CF P w K mg base 1 "descending" (F_descending V).F := by
  refine cf_of Df hm hb sc_descending (fun B ds C X h => h.1) fun cdv A outer s H E hr => ?_
  refine ⟨_, (pss_one (ps_ret (pe_callTy (cr_tupK (K := K)) (by rfl) T.b_tuple PyProof.Rows.boot_tuple (pa_cons (pe_callBK (cr_srtRK (K := K)) (by rfl) T.b_sorted PyProof.Rows.boot_sorted (pa_cons (pv 0) pa_nil) (pk_cons pe_bl pk_nil)) pa_nil)))), ?_⟩
  intro Γ ds C hF
  exact (X_descending V).ok gd hF.2
abbrev s_check_rows : Stmt := topS 11
abbrev N_check_rows : List Str := ["one", "other"]
theorem sc_check_rows : FnScope N_check_rows ["one", "other"] (defScope s_check_rows) := ⟨rfl, rfl, rfl, by decide +kernel, rfl, by decide +kernel, by decide +kernel⟩
theorem cf_check_rows {f : Addr} {fd : FuncData} (T : Txt K mg V) (gd : Good V K) (f_check_row : CFX P w K mg base 4 "check_row" (F_check_row V).F) (Df : Fun K "check_rows" "check_rows" s_check_rows f fd) (hm : mg "check_rows" = some (.ref f)) (hb : Binds K fd ["one", "other"] []) : CFX P w K mg base 5 "check_rows" (F_check_rows V).F := by
  refine cfx_of Df hm hb sc_check_rows (fun B ds C X h => h.1) fun cdv A outer s H E hr => ?_
  refine ⟨_, (pss_cons (ps_expr (pe_cE (takes_of rfl rfl rfl rfl) (fun _ _ _ _ h => h) f_check_row hr (by decide) (by rfl) (pa_cons (pv 0) pa_nil)))
      (pss_one (ps_expr (pe_cE (takes_of rfl rfl rfl rfl) (fun _ _ _ _ h => h) f_check_row hr (by decide) (by rfl) (pa_cons (pv 1) pa_nil))))), ?_⟩
  intro Γ ds C hE hF
  subst hE
  exact (X_check_rows V).ok gd hF.2
abbrev s_arranged : Stmt := topS 17
abbrev N_arranged : List Str := ["row", "like", "entries", "place", "entry"]
theorem sc_arranged : FnScope N_arranged ["row", "like"] (defScope s_arranged) := ⟨rfl, rfl, rfl, by decide +kernel, rfl, by decide +kernel, by decide +kernel⟩
theorem cf_arranged {f : Addr} {fd : FuncData} (T : Txt K mg V) (gd : Good V K) (f_check_rows : CFX P w K mg base 5 "check_rows" (F_check_rows V).F) (f_descending : CF P w K mg base 1 "descending" (F_descending V).F) (f_places_by_entry : CF P w K mg base 1 "places_by_entry" (F_places_by_entry V).F) (Df : Fun K "arranged" "arranged" s_arranged f fd) (hm : mg "arranged" = some (.ref f)) (hb : Binds K fd ["row", "like"] []) : CFX P w K mg base 6 "arranged" (F_arranged V).F := by
  refine cfx_of Df hm hb sc_arranged (fun B ds C X h => h.1) fun cdv A outer s H E hr => ?_
  refine ⟨_, (pss_cons (ps_expr (pe_cE (takes_of rfl rfl rfl rfl) (fun _ _ _ _ h => h) f_check_rows hr (by decide) (by rfl) (pa_cons (pv 0) (pa_cons (pv 1) pa_nil))))
      (pss_cons (ps_if (pt_cmpR (op_neK (K := K) hr.units) (pe_callB (cr_lenK (K := K)) (by rfl) T.b_len PySem.boot_len (pa_cons (pv 0) pa_nil)) (pe_callB (cr_lenK (K := K)) (by rfl) T.b_len PySem.boot_len (pa_cons (pv 1) pa_nil)) (nomark _)) (pss_one (ps_raiseO rfl (takes_of rfl rfl rfl rfl) T.x_InvalidOperation (by rfl))) pss_nil)
      (pss_cons (ps_set (i := 2) sc_arranged.nd rfl (Or.inl rfl) (pe_callTy (cr_lstK (K := K)) (by rfl) T.b_list PyProof.Rows.boot_list (pa_cons (pv 0) pa_nil)))
      (pss_cons (ps_for (passes_of rfl) rfl (pi_zipMK (K := K) (by rfl) T.b_zip (pa_cons (pe_f f_places_by_entry hr (by decide) (by rfl) (pa_cons (pv 1) pa_nil)) (pa_cons (pe_f f_descending hr (by decide) (by rfl) (pa_cons (pv 0) pa_nil)) pa_nil))) (pg_seqK (K := K) (n := 2) rfl (pgs_cons (pg_name (i := 3) sc_arranged.nd rfl (Or.inl rfl)) (pgs_cons (pg_name (i := 4) sc_arranged.nd rfl (Or.inl rfl)) pgs_nil))) (pss_one (ps_asg (pv 4) (pg_sub (pv 2) (pv 3) set_list))))
      (pss_one (ps_ret (pe_callTy (cr_tupK (K := K)) (by rfl) T.b_tuple PyProof.Rows.boot_tuple (pa_cons (pv 2) pa_nil)))))))), ?_⟩
  intro Γ ds C hE hF
  subst hE
  exact (X_arranged V).ok gd hF.2
abbrev s_evenly_dealt : Stmt := topS 15
abbrev N_evenly_dealt : List Str := ["total", "length", "share", "left"]
theorem sc_evenly_dealt : FnScope N_evenly_dealt ["total", "length"] (defScope s_evenly_dealt) := ⟨rfl, rfl, rfl, by decide +kernel, rfl, by decide +kernel, by decide +kernel⟩
theorem cf_evenly_dealt {f : Addr} {fd : FuncData} (T : Txt K mg V) (gd : Good V K) (Df : Fun K "evenly_dealt" "evenly_dealt" s_evenly_dealt f fd) (hm : mg "evenly_dealt" = some (.ref f)) (hb : Binds K fd ["total", "length"] []) : CF P w K mg base 1 "evenly_dealt" (F_evenly_dealt V).F := by
  refine cf_of Df hm hb sc_evenly_dealt (fun B ds C X h => h.1) fun cdv A outer s H E hr => ?_
  refine ⟨_, (pss_cons (ps_asg (pe_callB call_divmodW (by rfl) T.b_divmod PyProof.Rows.boot_divmod (pa_cons (pv 0) (pa_cons (pv 1) pa_nil))) (pg_seqK (K := K) (n := 2) rfl (pgs_cons (pg_name (i := 2) sc_evenly_dealt.nd rfl (Or.inl rfl)) (pgs_cons (pg_name (i := 3) sc_evenly_dealt.nd rfl (Or.inl rfl)) pgs_nil))))
      (pss_one (ps_ret (pe_op (op_addK (K := K)) (pe_op (op_tmulK (K := K)) (pe_tup (pa_cons (pe_op (op_addK (K := K)) (pv 2) pe_int) pa_nil)) (pv 3)) (pe_op (op_tmulK (K := K)) (pe_tup (pa_cons (pv 2) pa_nil)) (pe_op op_sub (pv 1) (pv 3))))))), ?_⟩
  intro Γ ds C hF
  exact (X_evenly_dealt V).ok gd hF.2
abbrev s__cut : Stmt := topS 27
abbrev N__cut : List Str := ["entries", "many", "high"]
theorem sc__cut : FnScope N__cut ["entries", "many"] (defScope s__cut) := ⟨rfl, rfl, rfl, by decide +kernel, rfl, by decide +kernel, by decide +kernel⟩
theorem cf__cut {f : Addr} {fd : FuncData} (T : Txt K mg V) (gd : Good V K) (f_evenly_dealt : CF P w K mg base 1 "evenly_dealt" (F_evenly_dealt V).F) (Df : Fun K "_cut" "_cut" s__cut f fd) (hm : mg "_cut" = some (.ref f)) (hb : Binds K fd ["entries", "many"] []) : CF P w K mg base 2 "_cut" (F__cut V).F := by
  refine cf_of Df hm hb sc__cut (fun B ds C X h => h.1) fun cdv A outer s H E hr => ?_
  refine ⟨_, (pss_cons (ps_set (i := 2) sc__cut.nd rfl (Or.inl rfl) pe_int)
      (pss_cons (ps_while PassesOwn.never (PW.pt (pw_and (pt_cmpR op_lt (pv 2) (pe_callB (cr_lenK (K := K)) (by rfl) T.b_len PySem.boot_len (pa_cons (pv 0) pa_nil)) (nomark _)) (pw_and1 (pt_cmpR op_lt (pe_op op_sub (pe_callB (cr_sumK (K := K) rfl) (by rfl) T.b_sum PyProof.Rows.boot_sum (pa_cons (pe_slice (sl_anyK (K := K)) (pv 0) po_none (po_some (pv 2))) pa_nil)) (pv 1)) (pe_op (op_mulK (K := K)) (pe_ix (ix_seqK (K := K)) (pv 0) (pv 2) (fun _ _ => rfl)) (pv 2)) (nomark _))))) (pss_one (ps_aug (i := 2) sc__cut.nd rfl (Or.inl rfl) pe_int ip_add)))
      (pss_one (ps_ret (pe_op (op_addK (K := K)) (pe_f f_evenly_dealt hr (by decide) (by rfl) (pa_cons (pe_op op_sub (pe_callB (cr_sumK (K := K) rfl) (by rfl) T.b_sum PyProof.Rows.boot_sum (pa_cons (pe_slice (sl_anyK (K := K)) (pv 0) po_none (po_some (pv 2))) pa_nil)) (pv 1)) (pa_cons (pv 2) pa_nil))) (pe_slice (sl_anyK (K := K)) (pv 0) (po_some (pv 2)) po_none)))))), ?_⟩
  intro Γ ds C hF
  exact (X__cut V).ok gd hF.2
abbrev s_nearest : Stmt := topS 25
abbrev N_nearest : List Str := ["degrees", "away"]
theorem sc_nearest : FnScope N_nearest ["degrees"] (defScope s_nearest) := ⟨rfl, rfl, rfl, by decide +kernel, rfl, by decide +kernel, by decide +kernel⟩
theorem cf_nearest {f : Addr} {fd : FuncData} (T : Txt K mg V) (gd : Good V K) (f_descending : CF P w K mg base 1 "descending" (F_descending V).F) (f_arranged : CFX P w K mg base 6 "arranged" (F_arranged V).F) (f_fewest_away : CFX P w K mg base 6 "fewest_away" (F_fewest_away V).F) (f__cut : CF P w K mg base 2 "_cut" (F__cut V).F) (Df : Fun K "nearest" "nearest" s_nearest f fd) (hm : mg "nearest" = some (.ref f)) (hb : Binds K fd ["degrees"] []) : CFX P w K mg base 7 "nearest" (F_nearest V).F := by
  refine cfx_of Df hm hb sc_nearest (fun B ds C X h => h.1) fun cdv A outer s H E hr => ?_
  refine ⟨_, (pss_cons (ps_set (i := 1) sc_nearest.nd rfl (Or.inl rfl) (pe_cE (takes_of rfl rfl rfl rfl) (fun _ _ _ _ h => h) f_fewest_away hr (by decide) (by rfl) (pa_cons (pv 0) pa_nil)))
      (pss_one (ps_ret (pe_cE (takes_of rfl rfl rfl rfl) (fun _ _ _ _ h => h) f_arranged hr (by decide) (by rfl) (pa_cons (pe_f f__cut hr (by decide) (by rfl) (pa_cons (pe_f f_descending hr (by decide) (by rfl) (pa_cons (pv 0) pa_nil)) (pa_cons (pv 1) pa_nil))) (pa_cons (pv 0) pa_nil)))))), ?_⟩
  intro Γ ds C hE hF
  subst hE
  exact (X_nearest V).ok gd hF.2
abbrev s_has_web : Stmt := topS 20
abbrev N_has_web : List Str := ["degrees"]
theorem sc_has_web : FnScope N_has_web ["degrees"] (defScope s_has_web) := ⟨rfl, rfl, rfl, by decide +kernel, rfl, by decide +kernel, by decide +kernel⟩
theorem cf_has_web {f : Addr} {fd : FuncData} (T : Txt K mg V) (gd : Good V K) (f_greatest_lack : CFX P w K mg base 5 "greatest_lack" (F_greatest_lack V).F) (Df : Fun K "has_web" "has_web" s_has_web f fd) (hm : mg "has_web" = some (.ref f)) (hb : Binds K fd ["degrees"] []) : CFX P w K mg base 6 "has_web" (F_has_web V).F := by
  refine cfx_of Df hm hb sc_has_web (fun B ds C X h => h.1) fun cdv A outer s H E hr => ?_
  refine ⟨_, (pss_one (ps_ret (pe_and (pe_cmpR (op_eqK (K := K) hr.units) (pe_cE (takes_of rfl rfl rfl rfl) (fun _ _ _ _ h => h) f_greatest_lack hr (by decide) (by rfl) (pa_cons (pv 0) pa_nil)) pe_int (nomark _)) (pe_one (pe_cmpR (op_eqK (K := K) hr.units) (pe_op op_mod (pe_callB (cr_sumK (K := K) rfl) (by rfl) T.b_sum PyProof.Rows.boot_sum (pa_cons (pv 0) pa_nil)) pe_int) pe_int (nomark _)))))), ?_⟩
  intro Γ ds C hE hF
  subst hE
  exact (X_has_web V).ok gd hF.2
abbrev s_is_nearest : Stmt := topS 26
abbrev N_is_nearest : List Str := ["degrees", "value", "entry", "most"]
theorem sc_is_nearest : FnScope N_is_nearest ["degrees", "value"] (defScope s_is_nearest) := ⟨rfl, rfl, rfl, by decide +kernel, rfl, by decide +kernel, by decide +kernel⟩
theorem cf_is_nearest {f : Addr} {fd : FuncData} (T : Txt K mg V) (gd : Good V K) (f_is_row : CF P w K mg base 3 "is_row" (F_is_row V).F) (f_check_row : CFX P w K mg base 4 "check_row" (F_check_row V).F) (f_has_web : CFX P w K mg base 6 "has_web" (F_has_web V).F) (f_fewest_away : CFX P w K mg base 6 "fewest_away" (F_fewest_away V).F) (Df : Fun K "is_nearest" "is_nearest" s_is_nearest f fd) (hm : mg "is_nearest" = some (.ref f)) (hb : Binds K fd ["degrees", "value"] []) : CFX P w K mg base 7 "is_nearest" (F_is_nearest V).F := by
  refine cfx_of Df hm hb sc_is_nearest (fun B ds C X h => h.1) fun cdv A outer s H E hr => ?_
  refine ⟨_, (pss_cons (ps_expr (pe_cE (takes_of rfl rfl rfl rfl) (fun _ _ _ _ h => h) f_check_row hr (by decide) (by rfl) (pa_cons (pv 0) pa_nil)))
      (pss_cons (ps_if (PW.pt (pw_or (pt_not (pt_val (pe_f f_is_row hr (by decide) (by rfl) (pa_cons (pv 1) pa_nil)) (fun _ => rfl))) (pw_or1 (pt_cmpR (op_neK (K := K) hr.units) (pe_callB (cr_lenK (K := K)) (by rfl) T.b_len PySem.boot_len (pa_cons (pv 1) pa_nil)) (pe_callB (cr_lenK (K := K)) (by rfl) T.b_len PySem.boot_len (pa_cons (pv 0) pa_nil)) (nomark _))))) (pss_one (ps_ret pe_bl)) pss_nil)
      (pss_cons (ps_if (pt_not (pt_val (pe_callB (cr_allK (K := K) rfl) (by rfl) T.b_all PyProof.Rows.boot_all (pa_cons (pe_lc (own := [("entry", 2), ("most", 3)])  rfl sc_is_nearest.nd  (pi_zipMK (K := K) (by rfl) T.b_zip (pa_cons (pv 1) (pa_cons (pv 0) pa_nil))) (blkOk_by (N := N_is_nearest) (sc := defScope s_is_nearest) (by decide +kernel)) (fun _ _ _ _ _ => (pg_seqK (K := K) (n := 2) rfl (pgs_cons (pg_name (i := 2) sc_is_nearest.nd rfl (Or.inl rfl)) (pgs_cons (pg_name (i := 3) sc_is_nearest.nd rfl (Or.inl rfl)) pgs_nil)))) (fun _ _ _ _ _ => pts_nil) (fun _ _ _ _ _ => (pe_cmpR op_le (pv 2) (pv 3) (nomark _)))) pa_nil)) (fun _ => rfl))) (pss_one (ps_ret pe_bl)) pss_nil)
      (pss_one (ps_ret (pe_and (pe_cmpR (op_eqK (K := K) hr.units) (pe_op op_sub (pe_callB (cr_sumK (K := K) rfl) (by rfl) T.b_sum PyProof.Rows.boot_sum (pa_cons (pv 0) pa_nil)) (pe_callB (cr_sumK (K := K) rfl) (by rfl) T.b_sum PyProof.Rows.boot_sum (pa_cons (pv 1) pa_nil))) (pe_cE (takes_of rfl rfl rfl rfl) (fun _ _ _ _ h => h) f_fewest_away hr (by decide) (by rfl) (pa_cons (pv 0) pa_nil)) (nomark _)) (pe_one (pe_cE (takes_of rfl rfl rfl rfl) (fun _ _ _ _ h => h) f_has_web hr (by decide) (by rfl) (pa_cons (pv 1) pa_nil))))))))), ?_⟩
  intro Γ ds C hE hF
  subst hE
  exact (X_is_nearest V).ok gd hF.2
abbrev s__law_row : Stmt := topS 33
abbrev N__law_row : List Str := ["_law_vat_here", "_law_most", "_law_high", "_law_place"]
theorem sc__law_row : FnScope N__law_row ["_law_vat_here", "_law_most", "_law_high"] (defScope s__law_row) := ⟨rfl, rfl, rfl, by decide +kernel, rfl, by decide +kernel, by decide +kernel⟩
theorem cf__law_row {f : Addr} {fd : FuncData} (T : Txt K mg V) (gd : Good V K) (f__law_dip : CF P w K mg base 1 "_law_dip" ladleF.F) (Df : Fun K "_law_row" "_law_row" s__law_row f fd) (hm : mg "_law_row" = some (.ref f)) (hb : Binds K fd ["_law_vat_here", "_law_most", "_law_high"] []) : CF P w K mg base 2 "_law_row" (F__law_row V).F := by
  refine cf_of Df hm hb sc__law_row (fun B ds C X h => h.1) fun cdv A outer s H E hr => ?_
  refine ⟨_, (pss_one (ps_ret (pe_callTy (cr_tupK (K := K)) (by rfl) T.b_tuple PyProof.Rows.boot_tuple (pa_cons (pe_lc (own := [("_law_place", 3)])  rfl sc__law_row.nd  (pi_range1 (by rfl) T.b_range (pa_cons (pe_op (op_addK (K := K)) pe_int (pe_f f__law_dip hr (by decide) (by rfl) (pa_cons (pv 0) (pa_cons (pv 1) pa_nil)))) pa_nil)) (blkOk_by (N := N__law_row) (sc := defScope s__law_row) (by decide +kernel)) (fun _ _ _ _ _ => (pg_name (i := 3) sc__law_row.nd rfl (Or.inl rfl))) (fun _ _ _ _ _ => pts_nil) (fun _ _ _ _ _ => (pe_f f__law_dip hr (by decide) (by rfl) (pa_cons (pv 0) (pa_cons (pe_op (op_addK (K := K)) (pv 2) pe_int) pa_nil))))) pa_nil)))), ?_⟩
  intro Γ ds C hF
  exact (X__law_row V).ok gd hF.2
abbrev s__law_greatest : Stmt := topS 34
abbrev N__law_greatest : List Str := ["_law_degrees", "_law_falling", "_law_found", "_law_size", "_law_others", "_law_entry"]
theorem sc__law_greatest : FnScope N__law_greatest ["_law_degrees"] (defScope s__law_greatest) := ⟨rfl, rfl, rfl, by decide +kernel, rfl, by decide +kernel, by decide +kernel⟩
theorem cf__law_greatest {f : Addr} {fd : FuncData} (T : Txt K mg V) (gd : Good V K) (Df : Fun K "_law_greatest" "_law_greatest" s__law_greatest f fd) (hm : mg "_law_greatest" = some (.ref f)) (hb : Binds K fd ["_law_degrees"] []) : CF P w K mg base 1 "_law_greatest" (F__law_greatest_3 V).F := by
  refine cf_of Df hm hb sc__law_greatest (fun B ds C X h => h.1) fun cdv A outer s H E hr => ?_
  refine ⟨_, (pss_cons (ps_par (i := 1) (j := 2) rfl sc__law_greatest.nd rfl rfl (by decide) rfl rfl (pa_cons (pe_callBK (cr_srtRK (K := K)) (by rfl) T.b_sorted PyProof.Rows.boot_sorted (pa_cons (pv 0) pa_nil) (pk_cons pe_bl pk_nil)) (pa_cons (pe_lst (pa_cons pe_int pa_nil)) pa_nil)) rfl)
      (pss_cons (ps_for PassesOwn.never rfl (pi_range2 (by rfl) T.b_range (pa_cons pe_int (pa_cons (pe_op (op_addK (K := K)) (pe_callB (cr_lenK (K := K)) (by rfl) T.b_len PySem.boot_len (pa_cons (pv 1) pa_nil)) pe_int) pa_nil))) (pg_name (i := 3) sc__law_greatest.nd rfl (Or.inr rfl)) (pss_cons (ps_set (i := 4) sc__law_greatest.nd rfl (Or.inl rfl) (pe_callB (cr_sumK (K := K) rfl) (by rfl) T.b_sum PyProof.Rows.boot_sum (pa_cons (pe_lc (own := [("_law_entry", 5)])  rfl sc__law_greatest.nd  (pi_seqK (K := K) (pe_slice (sl_anyK (K := K)) (pv 1) (po_some (pv 3)) po_none)) (blkOk_by (N := N__law_greatest) (sc := defScope s__law_greatest) (by decide +kernel)) (fun _ _ _ _ _ => (pg_name (i := 5) sc__law_greatest.nd rfl (Or.inl rfl))) (fun _ _ _ _ _ => pts_nil) (fun _ _ _ _ _ => (pe_callB (cr_min4K (K := K) rfl) (by rfl) T.b_min PyProof.Rows.boot_min (pa_cons (pv 3) (pa_cons (pv 5) pa_nil))))) pa_nil)))
      (pss_one (ps_expr (pe_bm PySem.F.plainAttrs_list PySem.F.slot_list_append PySem.F.type_list_append mt_append (pv 2) (pa_cons (pe_op op_sub (pe_op op_sub (pe_callB (cr_sumK (K := K) rfl) (by rfl) T.b_sum PyProof.Rows.boot_sum (pa_cons (pe_slice (sl_anyK (K := K)) (pv 1) po_none (po_some (pv 3))) pa_nil)) (pe_op (op_mulK (K := K)) (pv 3) (pe_op op_sub (pv 3) pe_int))) (pv 4)) pa_nil))))))
      (pss_one (ps_ret (pe_callB (cr_max4K (K := K) rfl) (by rfl) T.b_max PyProof.Rows.boot_max (pa_cons (pv 2) pa_nil)))))), ?_⟩
  intro Γ ds C hF
  exact (X__law_greatest_3 V).ok gd hF.2
abbrev s__law_is_possible : Stmt := topS 35
abbrev N__law_is_possible : List Str := ["_law_degrees"]
theorem sc__law_is_possible : FnScope N__law_is_possible ["_law_degrees"] (defScope s__law_is_possible) := ⟨rfl, rfl, rfl, by decide +kernel, rfl, by decide +kernel, by decide +kernel⟩
theorem cf__law_is_possible {f : Addr} {fd : FuncData} (T : Txt K mg V) (gd : Good V K) (f__law_greatest : CF P w K mg base 1 "_law_greatest" (F__law_greatest_3 V).F) (Df : Fun K "_law_is_possible" "_law_is_possible" s__law_is_possible f fd) (hm : mg "_law_is_possible" = some (.ref f)) (hb : Binds K fd ["_law_degrees"] []) : CF P w K mg base 2 "_law_is_possible" (F__law_is_possible_2 V).F := by
  refine cf_of Df hm hb sc__law_is_possible (fun B ds C X h => h.1) fun cdv A outer s H E hr => ?_
  refine ⟨_, (pss_one (ps_ret (pe_and (pe_cmpR (op_eqK (K := K) hr.units) (pe_op op_mod (pe_callB (cr_sumK (K := K) rfl) (by rfl) T.b_sum PyProof.Rows.boot_sum (pa_cons (pv 0) pa_nil)) pe_int) pe_int (nomark _)) (pe_one (pe_cmpR (op_eqK (K := K) hr.units) (pe_f f__law_greatest hr (by decide) (by rfl) (pa_cons (pv 0) pa_nil)) pe_int (nomark _)))))), ?_⟩
  intro Γ ds C hF
  exact (X__law_is_possible_2 V).ok gd hF.2
abbrev s__law_below : Stmt := topS 36
abbrev N__law_below : List Str := ["_law_row_here", "_law_found", "_law_entry", "_law_longer", "_law_one", "_law_less"]
theorem sc__law_below : FnScope N__law_below ["_law_row_here"] (defScope s__law_below) := ⟨rfl, rfl, rfl, by decide +kernel, rfl, by decide +kernel, by decide +kernel⟩
theorem cf__law_below {f : Addr} {fd : FuncData} (T : Txt K mg V) (gd : Good V K) (Df : Fun K "_law_below" "_law_below" s__law_below f fd) (hm : mg "_law_below" = some (.ref f)) (hb : Binds K fd ["_law_row_here"] []) : CF P w K mg base 1 "_law_below" (F__law_below V).F := by
  refine cf_of Df hm hb sc__law_below (fun B ds C X h => h.1) fun cdv A outer s H E hr => ?_
  refine ⟨_, (pss_cons (ps_set (i := 1) sc__law_below.nd rfl (Or.inl rfl) (pe_lst (pa_cons (pe_tup pa_nil) pa_nil)))
      (pss_cons (ps_for PassesOwn.never rfl (pi_seqK (K := K) (pv 0)) (pg_name (i := 2) sc__law_below.nd rfl (Or.inl rfl)) (pss_cons (ps_set (i := 3) sc__law_below.nd rfl (Or.inl rfl) (pe_lst pa_nil))
      (pss_cons (ps_for PassesOwn.never rfl (pi_seqK (K := K) (pv 1)) (pg_name (i := 4) sc__law_below.nd rfl (Or.inr rfl)) (pss_one (ps_expr (pe_bm PySem.F.plainAttrs_list PySem.F.slot_list_extend PySem.F.type_list_extend mt_extend (pv 3) (pa_cons (pe_lc (own := [("_law_less", 5)])  rfl sc__law_below.nd  (pi_range1 (by rfl) T.b_range (pa_cons (pe_op (op_addK (K := K)) (pv 2) pe_int) pa_nil)) (blkOk_by (N := N__law_below) (sc := defScope s__law_below) (by decide +kernel)) (fun _ _ _ _ _ => (pg_name (i := 5) sc__law_below.nd rfl (Or.inl rfl))) (fun _ _ _ _ _ => pts_nil) (fun _ _ _ _ _ => (pe_op (op_addK (K := K)) (pv 4) (pe_tup (pa_cons (pv 5) pa_nil))))) pa_nil)))))
      (pss_one (ps_set (i := 1) sc__law_below.nd rfl (Or.inl rfl) (pv 3))))))
      (pss_one (ps_ret (pv 1))))), ?_⟩
  intro Γ ds C hF
  exact (X__law_below V).ok gd hF.2
abbrev s__law_fewest : Stmt := topS 37
abbrev N__law_fewest : List Str := ["_law_row_here", "_law_most"]
theorem sc__law_fewest : FnScope N__law_fewest ["_law_row_here"] (defScope s__law_fewest) := ⟨rfl, rfl, rfl, by decide +kernel, rfl, by decide +kernel, by decide +kernel⟩
theorem cf__law_fewest {f : Addr} {fd : FuncData} (T : Txt K mg V) (gd : Good V K) (f__law_greatest : CF P w K mg base 1 "_law_greatest" (F__law_greatest_3 V).F) (Df : Fun K "_law_fewest" "_law_fewest" s__law_fewest f fd) (hm : mg "_law_fewest" = some (.ref f)) (hb : Binds K fd ["_law_row_here"] []) : CF P w K mg base 2 "_law_fewest" (F__law_fewest_2 V).F := by
  refine cf_of Df hm hb sc__law_fewest (fun B ds C X h => h.1) fun cdv A outer s H E hr => ?_
  refine ⟨_, (pss_cons (ps_set (i := 1) sc__law_fewest.nd rfl (Or.inl rfl) (pe_f f__law_greatest hr (by decide) (by rfl) (pa_cons (pv 0) pa_nil)))
      (pss_one (ps_ret (pe_op (op_addK (K := K)) (pv 1) (pe_op op_mod (pe_op op_sub (pe_callB (cr_sumK (K := K) rfl) (by rfl) T.b_sum PyProof.Rows.boot_sum (pa_cons (pv 0) pa_nil)) (pv 1)) pe_int))))), ?_⟩
  intro Γ ds C hF
  exact (X__law_fewest_2 V).ok gd hF.2
abbrev s__law_taken : Stmt := topS 38
abbrev N__law_taken : List Str := ["_law_row_here", "_law_units", "_law_found", "_law_turn", "_law_at"]
theorem sc__law_taken : FnScope N__law_taken ["_law_row_here", "_law_units"] (defScope s__law_taken) := ⟨rfl, rfl, rfl, by decide +kernel, rfl, by decide +kernel, by decide +kernel⟩
theorem cf__law_taken {f : Addr} {fd : FuncData} (T : Txt K mg V) (gd : Good V K) (Df : Fun K "_law_taken" "_law_taken" s__law_taken f fd) (hm : mg "_law_taken" = some (.ref f)) (hb : Binds K fd ["_law_row_here", "_law_units"] []) : CF P w K mg base 1 "_law_taken" (F__law_taken V).F := by
  refine cf_of Df hm hb sc__law_taken (fun B ds C X h => h.1) fun cdv A outer s H E hr => ?_
  refine ⟨_, (pss_cons (ps_set (i := 2) sc__law_taken.nd rfl (Or.inl rfl) (pe_callTy (cr_lstK (K := K)) (by rfl) T.b_list PyProof.Rows.boot_list (pa_cons (pv 0) pa_nil)))
      (pss_cons (ps_for PassesOwn.never rfl (pi_range1 (by rfl) T.b_range (pa_cons (pv 1) pa_nil)) (pg_name (i := 3) sc__law_taken.nd rfl (Or.inl rfl)) (pss_cons (ps_set (i := 4) sc__law_taken.nd rfl (Or.inl rfl) (pe_bmR (mt_indexK (K := K)) PySem.F.plainAttrs_list PySem.F.slot_list_index PySem.F.type_list_index (pv 2) (pa_cons (pe_callB (cr_max4K (K := K) rfl) (by rfl) T.b_max PyProof.Rows.boot_max (pa_cons (pv 2) pa_nil)) pa_nil)))
      (pss_one (ps_asg (pe_op op_sub (pe_ix (ix_seqK (K := K)) (pv 2) (pv 4) (fun _ _ => rfl)) pe_int) (pg_sub (pv 2) (pv 4) set_list)))))
      (pss_one (ps_ret (pe_callTy (cr_tupK (K := K)) (by rfl) T.b_tuple PyProof.Rows.boot_tuple (pa_cons (pv 2) pa_nil)))))), ?_⟩
  intro Γ ds C hF
  exact (X__law_taken V).ok gd hF.2
abbrev s__law_small_right : Stmt := topS 39
abbrev N__law_small_right : List Str := ["_law_vat_here", "_law_row_here", "_law_some", "_law_units", "_law_others", "_law_one"]
theorem sc__law_small_right : FnScope N__law_small_right ["_law_vat_here"] (defScope s__law_small_right) := ⟨rfl, rfl, rfl, by decide +kernel, rfl, by decide +kernel, by decide +kernel⟩
theorem cf__law_small_right {f : Addr} {fd : FuncData} (T : Txt K mg V) (gd : Good V K) (f_fewest_away : CFX P w K mg base 6 "fewest_away" (F_fewest_away V).F) (f_nearest : CFX P w K mg base 7 "nearest" (F_nearest V).F) (f_is_nearest : CFX P w K mg base 7 "is_nearest" (F_is_nearest V).F) (f__law_mixed : CF P w K mg base 2 "_law_mixed" mixedF.F) (f__law_row : CF P w K mg base 2 "_law_row" (F__law_row V).F) (f__law_is_possible : CF P w K mg base 2 "_law_is_possible" (F__law_is_possible_2 V).F) (f__law_below : CF P w K mg base 1 "_law_below" (F__law_below V).F) (f__law_fewest : CF P w K mg base 2 "_law_fewest" (F__law_fewest_2 V).F) (f__law_taken : CF P w K mg base 1 "_law_taken" (F__law_taken V).F) (Df : Fun K "_law_small_right" "_law_small_right" s__law_small_right f fd) (hm : mg "_law_small_right" = some (.ref f)) (hb : Binds K fd ["_law_vat_here"] []) : CF P w K mg base 8 "_law_small_right" (F__law_small_right_4 V).F := by
  refine cf_of Df hm hb sc__law_small_right (fun B ds C X h => h.1) fun cdv A outer s H E hr => ?_
  refine ⟨_, (pss_cons (ps_set (i := 1) sc__law_small_right.nd rfl (Or.inr rfl) (pe_f f__law_row hr (by decide) (by rfl) (pa_cons (pv 0) (pa_cons pe_int (pa_cons pe_int pa_nil)))))
      (pss_cons (ps_set (i := 2) sc__law_small_right.nd rfl (Or.inr rfl) (pe_lc (own := [("_law_one", 5)])  rfl sc__law_small_right.nd  (pi_seqK (K := K) (pe_f f__law_below hr (by decide) (by rfl) (pa_cons (pv 1) pa_nil))) (blkOk_by (N := N__law_small_right) (sc := defScope s__law_small_right) (by decide +kernel)) (fun _ _ _ _ _ => (pg_name (i := 5) sc__law_small_right.nd rfl (Or.inl rfl))) (fun _ _ _ _ _ => (pts_one (pt_val (pe_f f__law_is_possible hr (by decide) (by rfl) (pa_cons (pv 5) pa_nil)) (fun _ => rfl)))) (fun _ _ _ _ _ => (pv 5))))
      (pss_cons (ps_set (i := 3) sc__law_small_right.nd rfl (Or.inr rfl) (pe_callB (cr_min4K (K := K) rfl) (by rfl) T.b_min PyProof.Rows.boot_min (pa_cons (pe_lc (own := [("_law_one", 5)])  rfl sc__law_small_right.nd  (pi_seqK (K := K) (pv 2)) (blkOk_by (N := N__law_small_right) (sc := defScope s__law_small_right) (by decide +kernel)) (fun _ _ _ _ _ => (pg_name (i := 5) sc__law_small_right.nd rfl (Or.inl rfl))) (fun _ _ _ _ _ => pts_nil) (fun _ _ _ _ _ => (pe_op op_sub (pe_callB (cr_sumK (K := K) rfl) (by rfl) T.b_sum PyProof.Rows.boot_sum (pa_cons (pv 1) pa_nil)) (pe_callB (cr_sumK (K := K) rfl) (by rfl) T.b_sum PyProof.Rows.boot_sum (pa_cons (pv 5) pa_nil))))) pa_nil)))
      (pss_cons (ps_if (PW.pt (pw_or (pt_cmpR (op_neK (K := K) hr.units) (pe_c0 f_fewest_away hr (by decide) (by rfl) (pa_cons (pv 1) pa_nil)) (pv 3) (nomark _)) (pw_or1 (pt_cmpR (op_neK (K := K) hr.units) (pe_f f__law_fewest hr (by decide) (by rfl) (pa_cons (pv 1) pa_nil)) (pv 3) (nomark _))))) (pss_one (ps_ret pe_bl)) pss_nil)
      (pss_cons (ps_set (i := 2) sc__law_small_right.nd rfl (Or.inr rfl) (pe_lc (own := [("_law_one", 5)])  rfl sc__law_small_right.nd  (pi_seqK (K := K) (pv 2)) (blkOk_by (N := N__law_small_right) (sc := defScope s__law_small_right) (by decide +kernel)) (fun _ _ _ _ _ => (pg_name (i := 5) sc__law_small_right.nd rfl (Or.inl rfl))) (fun _ _ _ _ _ => (pts_one (pt_cmpR (op_eqK (K := K) hr.units) (pe_op op_sub (pe_callB (cr_sumK (K := K) rfl) (by rfl) T.b_sum PyProof.Rows.boot_sum (pa_cons (pv 1) pa_nil)) (pe_callB (cr_sumK (K := K) rfl) (by rfl) T.b_sum PyProof.Rows.boot_sum (pa_cons (pv 5) pa_nil))) (pv 3) (nomark _)))) (fun _ _ _ _ _ => (pv 5))))
      (pss_cons (ps_if (PW.pt (pw_or (pt_cmpR (op_notInK (K := K) hr) (pe_c0 f_nearest hr (by decide) (by rfl) (pa_cons (pv 1) pa_nil)) (pv 2) (by with_unfolding_all rfl)) (pw_or1 (pt_not (pt_val (pe_c0 f_is_nearest hr (by decide) (by rfl) (pa_cons (pv 1) (pa_cons (pe_f f__law_taken hr (by decide) (by rfl) (pa_cons (pv 1) (pa_cons (pv 3) pa_nil))) pa_nil))) (fun _ => rfl)))))) (pss_one (ps_ret pe_bl)) pss_nil)
      (pss_cons (ps_set (i := 4) sc__law_small_right.nd rfl (Or.inl rfl) (pe_op (op_addK (K := K)) (pe_slice (sl_anyK (K := K)) (pe_f f__law_mixed hr (by decide) (by rfl) (pa_cons (pv 0) (pa_cons (pe_f f__law_below hr (by decide) (by rfl) (pa_cons (pv 1) pa_nil)) pa_nil))) po_none (po_some pe_int)) (pe_slice (sl_anyK (K := K)) (pv 2) po_none (po_some pe_int))))
      (pss_one (ps_ret (pe_cmpR (op_eqK (K := K) hr.units) (pe_lc (own := [("_law_one", 5)])  rfl sc__law_small_right.nd  (pi_seqK (K := K) (pv 4)) (blkOk_by (N := N__law_small_right) (sc := defScope s__law_small_right) (by decide +kernel)) (fun _ _ _ _ _ => (pg_name (i := 5) sc__law_small_right.nd rfl (Or.inl rfl))) (fun _ _ _ _ _ => (pts_one (pt_cmpR (op_neK (K := K) hr.units) (pe_c0 f_is_nearest hr (by decide) (by rfl) (pa_cons (pv 1) (pa_cons (pv 5) pa_nil))) (pe_cmpR (op_inK (K := K) hr) (pv 5) (pv 2) (by with_unfolding_all rfl)) (nomark _)))) (fun _ _ _ _ _ => (pv 5))) (pe_lst pa_nil) (nomark _))))))))))), ?_⟩
  intro Γ ds C hF
  exact (X__law_small_right_4 V).ok gd hF.2
abbrev s__law_pick : Stmt := topS 31
abbrev N__law_pick : List Str := ["_law_vat_here", "_law_items"]
theorem sc__law_pick : FnScope N__law_pick ["_law_vat_here", "_law_items"] (defScope s__law_pick) := ⟨rfl, rfl, rfl, by decide +kernel, rfl, by decide +kernel, by decide +kernel⟩
theorem cf__law_pick {f : Addr} {fd : FuncData} (T : Txt K mg V) (gd : Good V K) (f__law_dip : CF P w K mg base 1 "_law_dip" ladleF.F) (Df : Fun K "_law_pick" "_law_pick" s__law_pick f fd) (hm : mg "_law_pick" = some (.ref f)) (hb : Binds K fd ["_law_vat_here", "_law_items"] []) : CF P w K mg base 2 "_law_pick" (F__law_pick_3 V).F := by
  refine cf_of Df hm hb sc__law_pick (fun B ds C X h => h.1) fun cdv A outer s H E hr => ?_
  refine ⟨_, (pss_one (ps_ret (pe_ix (ix_seqK (K := K)) (pv 1) (pe_f f__law_dip hr (by decide) (by rfl) (pa_cons (pv 0) (pa_cons (pe_callB (cr_lenK (K := K)) (by rfl) T.b_len PySem.boot_len (pa_cons (pv 1) pa_nil)) pa_nil))) (fun _ _ => rfl)))), ?_⟩
  intro Γ ds C hF
  exact (X__law_pick_3 V).ok gd hF.2
abbrev s__law_long_right : Stmt := topS 40
abbrev N__law_long_right : List Str := ["_law_vat_here", "_law_row_here", "_law_units", "_law_told", "_law_odd", "_law_less", "_law_more"]
theorem sc__law_long_right : FnScope N__law_long_right ["_law_vat_here"] (defScope s__law_long_right) := ⟨rfl, rfl, rfl, by decide +kernel, rfl, by decide +kernel, by decide +kernel⟩
theorem cf__law_long_right {f : Addr} {fd : FuncData} (T : Txt K mg V) (gd : Good V K) (f_fewest_away : CFX P w K mg base 6 "fewest_away" (F_fewest_away V).F) (f_nearest : CFX P w K mg base 7 "nearest" (F_nearest V).F) (f_is_nearest : CFX P w K mg base 7 "is_nearest" (F_is_nearest V).F) (f__law_dip : CF P w K mg base 1 "_law_dip" ladleF.F) (f__law_pick : CF P w K mg base 2 "_law_pick" (F__law_pick_3 V).F) (f__law_row : CF P w K mg base 2 "_law_row" (F__law_row V).F) (f__law_is_possible : CF P w K mg base 2 "_law_is_possible" (F__law_is_possible_2 V).F) (f__law_fewest : CF P w K mg base 2 "_law_fewest" (F__law_fewest_2 V).F) (Df : Fun K "_law_long_right" "_law_long_right" s__law_long_right f fd) (hm : mg "_law_long_right" = some (.ref f)) (hb : Binds K fd ["_law_vat_here"] []) : CF P w K mg base 8 "_law_long_right" (F__law_long_right V).F := by
  refine cf_of Df hm hb sc__law_long_right (fun B ds C X h => h.1) fun cdv A outer s H E hr => ?_
  refine ⟨_, (pss_cons (ps_set (i := 1) sc__law_long_right.nd rfl (Or.inl rfl) (pe_callTy (cr_lstK (K := K)) (by rfl) T.b_list PyProof.Rows.boot_list (pa_cons (pe_f f__law_row hr (by decide) (by rfl) (pa_cons (pv 0) (pa_cons pe_int (pa_cons pe_int pa_nil)))) pa_nil)))
      (pss_cons (ps_if (pt_cmpR (op_eqK (K := K) hr.units) (pe_f f__law_dip hr (by decide) (by rfl) (pa_cons (pv 0) (pa_cons pe_int pa_nil))) pe_int (nomark _)) (pss_one (ps_asg (pe_f f__law_pick hr (by decide) (by rfl) (pa_cons (pv 0) (pa_cons (pe_lst (pa_cons (pe_op op_sub (pe_op op_powW pe_int pe_int) pe_int) (pa_cons (pe_op op_powW pe_int pe_int) (pa_cons pe_int (pa_cons pe_int pa_nil))))) pa_nil))) (pg_sub (pv 1) pe_int set_list))) pss_nil)
      (pss_cons (ps_par (i := 1) (j := 2) rfl sc__law_long_right.nd rfl rfl (by decide) rfl rfl (pa_cons (pe_callTy (cr_tupK (K := K)) (by rfl) T.b_tuple PyProof.Rows.boot_tuple (pa_cons (pv 1) pa_nil)) (pa_cons (pe_f f__law_fewest hr (by decide) (by rfl) (pa_cons (pv 1) pa_nil)) pa_nil)) rfl)
      (pss_cons (ps_set (i := 3) sc__law_long_right.nd rfl (Or.inl rfl) (pe_c0 f_nearest hr (by decide) (by rfl) (pa_cons (pv 1) pa_nil)))
      (pss_cons (ps_if (PW.pt (pw_or (pt_cmpR (op_neK (K := K) hr.units) (pe_c0 f_fewest_away hr (by decide) (by rfl) (pa_cons (pv 1) pa_nil)) (pv 2) (nomark _)) (pw_or (pt_cmpR (op_neK (K := K) hr.units) (pe_op op_sub (pe_callB (cr_sumK (K := K) rfl) (by rfl) T.b_sum PyProof.Rows.boot_sum (pa_cons (pv 1) pa_nil)) (pe_callB (cr_sumK (K := K) rfl) (by rfl) T.b_sum PyProof.Rows.boot_sum (pa_cons (pv 3) pa_nil))) (pv 2) (nomark _)) (pw_or1 (pt_not (pt_val (pe_f f__law_is_possible hr (by decide) (by rfl) (pa_cons (pv 3) pa_nil)) (fun _ => rfl))))))) (pss_one (ps_ret pe_bl)) pss_nil)
      (pss_cons (ps_if (PW.pt (pw_or (pt_cmpR (op_neK (K := K) hr.units) (pe_lc (own := [("_law_less", 5), ("_law_more", 6)])  rfl sc__law_long_right.nd  (pi_zipMK (K := K) (by rfl) T.b_zip (pa_cons (pv 3) (pa_cons (pv 1) pa_nil))) (blkOk_by (N := N__law_long_right) (sc := defScope s__law_long_right) (by decide +kernel)) (fun _ _ _ _ _ => (pg_seqK (K := K) (n := 2) rfl (pgs_cons (pg_name (i := 5) sc__law_long_right.nd rfl (Or.inl rfl)) (pgs_cons (pg_name (i := 6) sc__law_long_right.nd rfl (Or.inl rfl)) pgs_nil)))) (fun _ _ _ _ _ => (pts_one (pt_not (pt_chain op_le op_le pe_int (pv 5) (pv 6))))) (fun _ _ _ _ _ => pe_int)) (pe_lst pa_nil) (nomark _)) (pw_or1 (pt_not (pt_val (pe_c0 f_is_nearest hr (by decide) (by rfl) (pa_cons (pv 1) (pa_cons (pv 3) pa_nil))) (fun _ => rfl)))))) (pss_one (ps_ret pe_bl)) pss_nil)
      (pss_cons (ps_set (i := 4) sc__law_long_right.nd rfl (Or.inl rfl) (pe_lst (pa_cons pe_non (pa_cons pe_int (pa_cons (pe_tup pa_nil) (pa_cons (pe_callTy (cr_lstK (K := K)) (by rfl) T.b_list PyProof.Rows.boot_list (pa_cons (pv 3) pa_nil)) (pa_cons (pe_op (op_addK (K := K)) (pv 3) (pe_tup (pa_cons pe_int pa_nil))) (pa_cons (pe_slice (sl_anyK (K := K)) (pv 3) (po_some pe_int) po_none) (pa_cons (pe_op (op_tmulK (K := K)) (pe_tup (pa_cons pe_non pa_nil)) (pe_callB (cr_lenK (K := K)) (by rfl) T.b_len PySem.boot_len (pa_cons (pv 1) pa_nil))) (pa_cons (pe_ifExp (pt_cmpR op_gt (pv 2) pe_int (nomark _)) (pv 1) (pe_op (op_addK (K := K)) (pv 1) (pv 1))) (pa_cons pe_dnewK pa_nil)))))))))))
      (pss_one (ps_ret (pe_not (pe_c0 f_is_nearest hr (by decide) (by rfl) (pa_cons (pv 1) (pa_cons (pe_f f__law_pick hr (by decide) (by rfl) (pa_cons (pv 0) (pa_cons (pv 4) pa_nil))) pa_nil))))))))))))), ?_⟩
  intro Γ ds C hF
  exact (X__law_long_right V).ok gd hF.2
abbrev s_law : Stmt := topS 41
abbrev N_law : List Str := ["_law_script", "_law_spot", "_law_vat_here", "_law_told"]
theorem sc_law : FnScope N_law ["_law_script"] (defScope s_law) := ⟨rfl, rfl, rfl, by decide +kernel, rfl, by decide +kernel, by decide +kernel⟩
theorem cf_law {f c : Addr} {fd : FuncData} (T : Txt K mg V) (gd : Good V K) (f_fewest_away : CFX P w K mg base 6 "fewest_away" (F_fewest_away V).F) (f_nearest : CFX P w K mg base 7 "nearest" (F_nearest V).F) (f_is_nearest : CFX P w K mg base 7 "is_nearest" (F_is_nearest V).F) (f__law_vat : CalN P w K mg base 1 "_law_vat" (spO K FB)) (f__law_small_right : CF P w K mg base 8 "_law_small_right" (F__law_small_right_4 V).F) (f__law_long_right : CF P w K mg base 8 "_law_long_right" (F__law_long_right V).F) (Df : FunC K "law" s_law f fd c) : FnG P w K mg base 9 f fd ["_law_script"] (spF K (F_law_34 V).F) := by
  refine fng_of Df sc_law (fun B ds C X h => h.1) fun A outer s H E hu hr => ?_
  refine ⟨_, (pss_cons (ps_for PassesOwn.never rfl (pi_range1 (by rfl) T.b_range (pa_cons (pe_callB (cr_max4K (K := K) rfl) (by rfl) T.b_max PyProof.Rows.boot_max (pa_cons pe_int (pa_cons (pe_callB (cr_min4K (K := K) rfl) (by rfl) T.b_min PyProof.Rows.boot_min (pa_cons pe_int (pa_cons (pe_callB (cr_lenK (K := K)) (by rfl) T.b_len PySem.boot_len (pa_cons (pv 0) pa_nil)) pa_nil))) pa_nil))) pa_nil)) (pg_name (i := 1) sc_law.nd rfl (Or.inl rfl)) (pss_cons (ps_set (i := 2) sc_law.nd rfl (Or.inl rfl) (pe_f f__law_vat hr (by decide) (by rfl) (pa_cons (pv 0) (pa_cons (pv 1) pa_nil))))
      (pss_one (ps_if (PW.pt (pw_or (pt_not (pt_val (pe_f f__law_small_right hr (by decide) (by rfl) (pa_cons (pv 2) pa_nil)) (fun _ => rfl))) (pw_or1 (pt_not (pt_val (pe_f f__law_long_right hr (by decide) (by rfl) (pa_cons (pv 2) pa_nil)) (fun _ => rfl)))))) (pss_one (ps_ret pe_bl)) pss_nil))))
      (pss_cons (ps_set (i := 3) sc_law.nd rfl (Or.inl rfl) (pe_lst (pa_cons (pe_c0 f_fewest_away hr (by decide) (by rfl) (pa_cons (pe_tup (pa_cons pe_int (pa_cons pe_int (pa_cons pe_int (pa_cons pe_int pa_nil))))) pa_nil)) (pa_cons (pe_c0 f_fewest_away hr (by decide) (by rfl) (pa_cons (pe_tup (pa_cons pe_int (pa_cons pe_int (pa_cons pe_int (pa_cons pe_int pa_nil))))) pa_nil)) (pa_cons (pe_c0 f_fewest_away hr (by decide) (by rfl) (pa_cons (pe_tup (pa_cons pe_int (pa_cons pe_int (pa_cons pe_int pa_nil)))) pa_nil)) (pa_cons (pe_c0 f_fewest_away hr (by decide) (by rfl) (pa_cons (pe_tup (pa_cons pe_int (pa_cons pe_int (pa_cons pe_int pa_nil)))) pa_nil)) pa_nil))))))
      (pss_cons (ps_set (i := 3) sc_law.nd rfl (Or.inl rfl) (pe_op (op_addK (K := K)) (pv 3) (pe_lst (pa_cons (pe_c0 f_is_nearest hr (by decide) (by rfl) (pa_cons (pe_tup (pa_cons pe_int (pa_cons pe_int (pa_cons pe_int (pa_cons pe_int pa_nil))))) (pa_cons (pe_tup (pa_cons pe_int (pa_cons pe_int (pa_cons pe_int (pa_cons pe_int pa_nil))))) pa_nil))) (pa_cons (pe_c0 f_is_nearest hr (by decide) (by rfl) (pa_cons (pe_tup (pa_cons pe_int (pa_cons pe_int (pa_cons pe_int (pa_cons pe_int pa_nil))))) (pa_cons (pe_tup (pa_cons pe_int (pa_cons pe_int (pa_cons pe_int (pa_cons pe_int pa_nil))))) pa_nil))) (pa_cons (pe_c0 f_nearest hr (by decide) (by rfl) (pa_cons (pe_tup (pa_cons pe_int (pa_cons pe_int pa_nil))) pa_nil)) pa_nil))))))
      (pss_cons (ps_set (i := 3) sc_law.nd rfl (Or.inl rfl) (pe_op (op_addK (K := K)) (pv 3) (pe_lst (pa_cons (pe_c0 f_is_nearest hr (by decide) (by rfl) (pa_cons (pe_tup (pa_cons pe_int (pa_cons pe_int (pa_cons pe_int pa_nil)))) (pa_cons (pe_tup (pa_cons pe_int (pa_cons pe_int (pa_cons pe_int pa_nil)))) pa_nil))) (pa_cons (pe_c0 f_is_nearest hr (by decide) (by rfl) (pa_cons (pe_tup (pa_cons pe_int (pa_cons pe_int (pa_cons pe_int pa_nil)))) (pa_cons (pe_tup (pa_cons pe_int (pa_cons pe_int (pa_cons pe_int pa_nil)))) pa_nil))) pa_nil)))))
      (pss_one (ps_ret (pe_cmpR (op_eqK (K := K) hr.units) (pv 3) (pe_lst (pa_cons pe_int (pa_cons pe_int (pa_cons pe_int (pa_cons pe_int (pa_cons pe_bl (pa_cons pe_bl (pa_cons (pe_tup (pa_cons pe_int (pa_cons pe_int pa_nil))) (pa_cons pe_bl (pa_cons pe_bl pa_nil)))))))))) (nomark _)))))))), ?_⟩
  intro Γ ds C hF
  exact (X_law_34 V).ok gd hF.2
end
end Y
namespace Sp
open PySem PySem.Spec PyProof.Rows L2 SQ XQ XD
variable {V : Ve} {B : Sc} {X : XP} {C : D → Prop}
def isWhole : D → Bool
  | .int _ => true
  | _ => false
def isEntry : D → Bool
  | .int i => decide (0 ≤ i ∧ i < 10 ^ 30)
  | _ => false
def isRow : D → Bool
  | .tup xs => decide (1 ≤ xs.length ∧ xs.length ≤ 64) && xs.all isEntry
  | _ => false
def Typed1 (d : D) : Prop := Typed d ∧ ∀ xs, d = .tup xs → ∀ x ∈ xs, Typed x
/-- a row of ints -/
abbrev row (ns : List Int) : D := .tup (ns.map D.int)
structure Row (ns : List Int) : Prop where
  l1 : 1 ≤ ns.length
  l2 : ns.length ≤ 64
  e : ∀ n ∈ ns, 0 ≤ n ∧ n < 10 ^ 30
theorem typed1_row (ns : List Int) : Typed1 (row ns) := ⟨⟨_, rfl⟩, fun xs e x m => by
  cases e
  obtain ⟨n, _, rfl⟩ := List.mem_map.mp m
  exact ⟨_, rfl⟩⟩
theorem isRow_row {ns : List Int} (h : Row ns) : isRow (row ns) = true := by
  simp only [isRow, List.length_map, h.l1, h.l2, and_self, decide_true, Bool.true_and, List.all_map, List.all_eq_true, Function.comp, isEntry, decide_eq_true_eq]
  exact h.e
theorem row_of {d : D} (h : isRow d = true) : ∃ ns, d = row ns ∧ Row ns := by
  cases d <;> simp [isRow] at h
  rename_i xs
  obtain ⟨⟨h1, h2⟩, h3⟩ := h
  obtain ⟨ns, rfl⟩ : ∃ ns : List Int, xs = ns.map D.int := by
    clear h1 h2
    induction xs with
    | nil => exact ⟨[], rfl⟩
    | cons x r ih =>
      obtain ⟨ns, e⟩ := ih fun y m => h3 y (List.mem_cons_of_mem _ m)
      have := h3 x List.mem_cons_self
      cases x <;> simp [isEntry] at this
      exact ⟨_ :: ns, by rw [e]; rfl⟩
  refine ⟨ns, rfl, by simpa using h1, by simpa using h2, fun n m => ?_⟩
  have := h3 (.int n) (List.mem_map.mpr ⟨n, m, rfl⟩)
  simpa [isEntry] using this
@[simp] theorem pow30 : (10 : Int) ^ Int.toNat 30 = 10 ^ 30 := rfl
@[simp] theorem cpow30 : CPowW 10 30 = True := eq_true ⟨by decide, by decide +kernel⟩
@[simp] theorem is_whole {d : D} (h : Typed d) : (F_is_whole V).F B [d] C X = C (.bl (isWhole d)) := by
  cases d <;> simp [F_is_whole, X_is_whole, xf_F, h, dInt, dBl, isWhole]
@[simp] theorem is_entry {d : D} (h : Typed d) : (F_is_entry V).F B [d] C X = C (.bl (isEntry d)) := by
  cases d <;> simp [F_is_entry, X_is_entry, xf_F, h, isWhole, isEntry]
  rename_i i
  by_cases h : 0 ≤ i <;> simp [h]
  · exact fun h => by omega
  · intro; omega
theorem is_row {d : D} (h : Typed1 d) : (F_is_row V).F B [d] C X = C (.bl (isRow d)) := by
  cases d <;> simp [F_is_row, X_is_row, xf_F, h.1, dTup, isRow]
  rename_i xs
  rw [lcW_mapD (f := fun d => .bl (isEntry d)) (fun d hd Q => by simp [h.2 _ rfl d hd])]
  rw [List.nil_append, blsM, allP_lst]
  by_cases h1 : 1 ≤ xs.length <;> by_cases h2 : xs.length ≤ 64
  · have e1 : (1 : Int) ≤ xs.length := by omega
    have e2 : (xs.length : Int) ≤ 64 := by omega
    simp [h1, h2, e1, e2, show ¬ ((xs.length : Int) < 1) by omega, show ¬ (64 < (xs.length : Int)) by omega, show xs.length ≤ 100000 by omega]
  · simp [h1, h2, show (64 < (xs.length : Int)) by omega, show ¬ ((xs.length : Int) < 1) by omega, show (1 : Int) ≤ xs.length by omega, show ¬ ((xs.length : Int) ≤ 64) by omega]
  · simp [h1, show ((xs.length : Int) < 1) by omega]
    intro h3; omega
  · omega
theorem check_row {d : D} (h : Typed1 d) : (F_check_row V).F B [d] C X = if isRow d = true then C .non else X ⟨V.cls .sums, [], []⟩ := by
  simp [F_check_row, X_check_row, xf_F, is_row h]
  cases isRow d <;> simp
theorem check_rows {d d' : D} (h : Typed1 d) (h' : Typed1 d') : (F_check_rows V).F B [d, d'] C X = if isRow d = true ∧ isRow d' = true then C .non else X ⟨V.cls .sums, [], []⟩ := by
  simp [F_check_rows, X_check_rows, xf_F, check_row h, check_row h']
  cases isRow d <;> simp
@[simp] theorem have_equal_measures {a b : List Int} : (F_have_equal_measures V).F B [row a, row b] C X = C (.bl (decide (a.length = b.length ∧ a.sum = b.sum))) := by
  simp [F_have_equal_measures, X_have_equal_measures, xf_F]
  by_cases h : a.length = b.length
  · have e : (a.length : Int) = b.length := by omega
    simp [h, e]
    by_cases h2 : a.sum = b.sum
    · simp [h2]
    · have e2 : (a.sum == b.sum) = false := by simpa using h2
      simp [h2, e2]
  · have e : ¬ (a.length : Int) = b.length := by omega
    simp [h, e]
@[simp] theorem descending {a : List Int} : (F_descending V).F B [row a] C X = C (row (down a)) := by
  simp [F_descending, X_descending, xf_F, seqOf]
theorem heads_end (r : List Int) (n t : Int) : heads t (r ++ [n]) = heads t r ++ [t + r.sum + n] := by
  rw [heads_app]; simp [heads]
theorem sums_so_far {a : List Int} (hl : a.length ≤ 99999) : (F_sums_so_far V).F B [row a] C X = C (row (heads 0 a)) := by
  simp [F_sums_so_far, X_sums_so_far, xf_F]
  refine forW_iff (S := fun q : List Int × Int × Sl => [.val (row a), .own (q.1.map D.int), .val (.int q.2.1), q.2.2]) (g := D.int) (f := fun q n => (q.1 ++ [q.2.1 + n], q.2.1 + n, .val (.int n)))
    (P := fun i q => q.1 = heads 0 (a.take i) ∧ q.2.1 = (a.take i).sum) (xs := a) (a0 := ([], 0, .un)) ⟨rfl, rfl⟩ (fun i n q e' hi h => ?_) fun q hq => ?_
  · obtain ⟨l, t, s⟩ := q
    obtain ⟨h1, h2⟩ := h
    simp at h1 h2
    subst h1 h2
    have : i < a.length := (List.getElem?_eq_some_iff.mp hi).1
    refine ⟨?_, ?_, ?_⟩
    · simp [X_sums_so_far_L1, heads_len, show min i a.length < 100000 by omega]
    · simp; rw [heads_take hi]
    · simp; rw [sum_take hi]
  · obtain ⟨l, t, s⟩ := q
    obtain ⟨h1, h2⟩ := hq
    simp at h1 h2
    subst h1 h2
    simp
theorem prefix_sums {a : List Int} (h : Row a) : (F_prefix_sums V).F B [row a] C X = C (row (heads 0 (down a))) := by
  simp [F_prefix_sums, X_prefix_sums, xf_F, check_row (typed1_row a), isRow_row h]
  rw [sums_so_far]
  have := h.l2
  rw [down_len]; omega
theorem prefix_sums_no {d : D} (h : Typed1 d) (h2 : isRow d = false) : (F_prefix_sums V).F B [d] C X = X ⟨V.cls .sums, [], []⟩ := by
  simp [F_prefix_sums, X_prefix_sums, xf_F, check_row h, h2]
/-- the first place where the sums of the greatest are greater -/
def firstB (a b : List Int) : D := match (((heads 0 (down a)).zip (heads 0 (down b))).zipIdx).find? (fun q => decide (q.1.2 < q.1.1)) with
  | some q => .int (q.2 + 1)
  | none => .non
theorem first_bar {a b : List Int} (ha : Row a) (hb : Row b) : (F__first_bar V).F B [row a, row b] C X = C (firstB a b) := by
  simp [F__first_bar, X__first_bar, xf_F, prefix_sums ha, prefix_sums hb, zipII]
  rw [enumD_map]
  refine Iff.trans (iff_of_eq (forW_find (β := (Int × Int) × Nat) (σ := Sl × Sl × Sl) (g := fun p => D.tup [.int p.2, .tup [.int p.1.1, .int p.1.2]]) (S := fun s => [.val (row a), .val (row b), s.1, s.2.1, s.2.2]) (p := fun q => decide (q.1.2 < q.1.1)) (r := fun q => .val (.int (q.2 + 1)))
    (n := fun q => (.val (.int q.2), .val (.int q.1.1), .val (.int q.1.2))) (fun q s e' _ => by
      by_cases h : q.1.2 < q.1.1
      · simp [X__first_bar_L1, h, show ¬ q.1.1 ≤ q.1.2 by omega]
      · simp [X__first_bar_L1, h, show q.1.1 ≤ q.1.2 by omega]) (.un, .un, .un))) ?_
  unfold firstB
  split <;> rename_i h <;> simp [h]
def leB (a b : List Int) : Bool := ((heads 0 (down a)).zip (heads 0 (down b))).all fun q => decide (q.1 ≤ q.2)
theorem firstB_iff (a b : List Int) : (firstB a b = .non) ↔ leB a b = true := by
  unfold firstB leB
  rw [List.all_eq_true]
  split
  · rename_i q h
    have h1 := List.find?_some h
    have h2 := List.mem_of_find?_eq_some h
    simp only [reduceCtorEq, false_iff]
    intro z
    have := z q.1 (List.fst_mem_of_mem_zipIdx h2)
    simp at h1 this
    omega
  · rename_i h
    simp only [true_iff]
    intro q m
    obtain ⟨i, hi, e⟩ := List.mem_iff_getElem.mp m
    have := List.find?_eq_none.mp h (q, i) (by rw [List.mem_zipIdx_iff_getElem?]; exact List.getElem?_eq_some_iff.mpr ⟨hi, e⟩)
    simp at this ⊢
    omega
theorem firstB_some {a b : List Int} (h : leB a b = false) : ∃ i : Nat, firstB a b = .int (i + 1) ∧ i < (heads 0 (down a)).length ∧ i < (heads 0 (down b)).length ∧ nth0 (heads 0 (down b)) i < nth0 (heads 0 (down a)) i := by
  have hn : ¬ firstB a b = .non := by rw [firstB_iff, h]; simp
  unfold firstB at hn ⊢
  split at hn
  · rename_i q hq
    have h1 := List.find?_some hq
    have h2 := List.mem_of_find?_eq_some hq
    rw [List.mem_zipIdx_iff_getElem?] at h2
    have h3 := List.getElem?_eq_some_iff.mp h2
    obtain ⟨h3, h4⟩ := h3
    rw [List.length_zip] at h3
    rw [List.getElem_zip] at h4
    refine ⟨q.2, rfl, by omega, by omega, ?_⟩
    simp at h1
    rw [nth0_get (by omega), nth0_get (by omega)]
    rw [← h4] at h1
    simpa using h1
  · exact absurd rfl hn
/-- whether a row is under another one -/
def undB (a b : List Int) : Bool := decide (a.length = b.length ∧ a.sum = b.sum) && leB a b
@[simp] theorem isNon_firstB (a b : List Int) : isNon (firstB a b) = leB a b := by
  cases h : leB a b with
  | true => rw [(firstB_iff a b).mpr h]; rfl
  | false => obtain ⟨i, e, _⟩ := firstB_some h; rw [e]; rfl
theorem is_under {a b : List Int} (ha : Row a) (hb : Row b) : (F_is_under V).F B [row a, row b] C X = C (.bl (undB a b)) := by
  simp [F_is_under, X_is_under, xf_F, check_rows (typed1_row a) (typed1_row b), isRow_row ha, isRow_row hb, first_bar ha hb]
  unfold undB
  by_cases h : a.length = b.length
  · by_cases h2 : a.sum = b.sum
    · simp [h, h2]
    · simp [h, h2]
  · simp [h]
theorem is_under_no {d d' : D} (h : Typed1 d) (h' : Typed1 d') (n : isRow d = false ∨ isRow d' = false) : (F_is_under V).F B [d, d'] C X = X ⟨V.cls .sums, [], []⟩ := by
  have : ¬ (isRow d = true ∧ isRow d' = true) := by rcases n with n | n <;> simp [n]
  simp only [F_is_under, X_is_under, xf_F]
  simp [check_rows h h', this]
end Sp
/-! a row is under another: by sums of the greatest, by what stands above each entry; plain mathematics -/
namespace MQ3
open SQ
/-- what stands above t -/
def ex (L : List Int) (t : Int) : Int := (L.map fun x => max 0 (x - t)).sum
theorem ex_cons (x : Int) (L : List Int) (t : Int) : ex (x :: L) t = max 0 (x - t) + ex L t := by simp [ex]
theorem ex_perm {a b : List Int} (t : Int) (h : a.Perm b) : ex a t = ex b t := by
  induction h with
  | nil => rfl
  | cons x _ ih => rw [ex_cons, ex_cons, ih]
  | swap x y l => simp only [ex_cons]; omega
  | trans _ _ h1 h2 => exact h1.trans h2
theorem ex_over (m : Int) : ∀ L : List Int, ((L.filter fun n => decide (n > m)).map fun n => n - m).sum = ex L m
  | [] => rfl
  | x :: r => by
    have ih := ex_over m r
    rw [ex_cons, ← ih]
    by_cases h : x > m
    · rw [List.filter_cons_of_pos (by simpa using h), List.map_cons, List.sum_cons]; omega
    · rw [List.filter_cons_of_neg (by simpa using h)]; omega
theorem ex_nn (t : Int) : ∀ L : List Int, 0 ≤ ex L t
  | [] => by simp [ex]
  | x :: r => by
    have := ex_nn t r
    rw [ex_cons]; omega
/-- so many of them reach no farther -/
theorem take_le (t : Int) : ∀ (L : List Int) (k : Nat), k ≤ L.length → (L.take k).sum - (k : Int) * t ≤ ex L t
  | L, 0, _ => by
    have := ex_nn t L
    simp; omega
  | [], k + 1, h => by simp at h
  | x :: r, k + 1, h => by
    have ih := take_le t r k (by simpa using h)
    rw [ex_cons, List.take_succ_cons, List.sum_cons, show ((k + 1 : Nat) : Int) = (k : Int) + 1 by omega, Int.add_mul, Int.one_mul]
    omega
/-- the first k from t on, the others not above t -/
theorem take_eq (t : Int) : ∀ (L : List Int) (k : Nat), k ≤ L.length → (∀ x ∈ L.take k, t ≤ x) → (∀ x ∈ L.drop k, x ≤ t) → ex L t = (L.take k).sum - (k : Int) * t
  | [], k, h, _, _ => by
    have : k = 0 := by simpa using h
    subst this; simp [ex]
  | x :: r, 0, _, _, h2 => by
    have hx := h2 x List.mem_cons_self
    have ih := take_eq t r 0 (Nat.zero_le _) (by simp) fun y hy => h2 y (List.mem_cons_of_mem _ hy)
    rw [ex_cons, ih]
    simp; omega
  | x :: r, k + 1, h, h1, h2 => by
    have hx := h1 x List.mem_cons_self
    have ih := take_eq t r k (by simpa using h) (fun y hy => h1 y (List.mem_cons_of_mem _ hy)) h2
    rw [ex_cons, ih, List.take_succ_cons, List.sum_cons, show ((k + 1 : Nat) : Int) = (k : Int) + 1 by omega, Int.add_mul, Int.one_mul]
    omega
/-- how many stand above t -/
theorem falls_cut {L : List Int} (h : L.Pairwise (· ≥ ·)) (t : Int) : ∃ k, k ≤ L.length ∧ (∀ x ∈ L.take k, t ≤ x) ∧ ∀ x ∈ L.drop k, x ≤ t := by
  induction L with
  | nil => exact ⟨0, Nat.le_refl _, by simp, by simp⟩
  | cons x r ih =>
    obtain ⟨h1, h2⟩ := List.pairwise_cons.mp h
    by_cases hx : t ≤ x
    · obtain ⟨k, a, b, c⟩ := ih h2
      refine ⟨k + 1, by simpa using a, fun y hy => ?_, c⟩
      rcases List.mem_cons.mp hy with rfl | hy
      · exact hx
      · exact b y hy
    · refine ⟨0, Nat.zero_le _, by simp, fun y hy => ?_⟩
      rcases List.mem_cons.mp hy with rfl | hy
      · omega
      · have := h1 y hy; omega
/-- under: by the sums of the greatest -/
def Und (a b : List Int) : Prop := ∀ k, k ≤ a.length → ((down a).take k).sum ≤ ((down b).take k).sum
theorem und_ex {a b : List Int} (hl : a.length = b.length) (h : Und a b) (t : Int) : ex a t ≤ ex b t := by
  rw [← ex_perm t (down_perm a), ← ex_perm t (down_perm b)]
  obtain ⟨k, k1, k2, k3⟩ := falls_cut (down_falls a) t
  have dl := down_len a
  have dm := down_len b
  rw [take_eq t _ k k1 k2 k3]
  have h1 := h k (by omega)
  have h2 := take_le t (down b) k (by omega)
  omega
theorem ex_und {a b : List Int} (hl : a.length = b.length) (h : ∀ t ∈ b, ex a t ≤ ex b t) : Und a b := by
  intro k hk
  have dl := down_len a
  have dm := down_len b
  cases k with
  | zero => simp
  | succ k =>
    have kb : k < (down b).length := by omega
    have tm : (down b)[k] ∈ b := (down_perm b).mem_iff.mp (List.getElem_mem kb)
    have h1 := h _ tm
    rw [← ex_perm _ (down_perm a), ← ex_perm _ (down_perm b)] at h1
    have fb := List.pairwise_iff_getElem.mp (down_falls b)
    rw [take_eq _ (down b) (k + 1) (by omega) (fun x hx => ?_) (fun x hx => ?_)] at h1
    · have h2 := take_le (down b)[k] (down a) (k + 1) (by omega)
      omega
    · obtain ⟨i, hi, rfl⟩ := List.mem_iff_getElem.mp hx
      rw [List.getElem_take]
      rw [List.length_take] at hi
      by_cases e : i = k
      · subst e; exact Int.le_refl _
      · exact fb i k (by omega) kb (by omega)
    · obtain ⟨i, hi, rfl⟩ := List.mem_iff_getElem.mp hx
      rw [List.getElem_drop]
      rw [List.length_drop] at hi
      exact fb k (k + 1 + i) kb (by omega) (by omega)
theorem und_iff {a b : List Int} (hl : a.length = b.length) : Und a b ↔ ∀ t ∈ b, ex a t ≤ ex b t := ⟨fun h t _ => und_ex hl h t, ex_und hl⟩
end MQ3
/-! the greatest sums of so many entries, by all lots; plain mathematics -/
namespace MQ4
open SQ MQ3
/-- the lot that a number's bits tell -/
def lotF : List Int → Nat → List Int
  | [], _ => []
  | x :: r, c => if c % 2 = 1 then x :: lotF r (c / 2) else lotF r (c / 2)
theorem lot_sub : ∀ (L : List Int) (c : Nat), (lotF L c).Sublist L
  | [], _ => List.Sublist.refl _
  | x :: r, c => by
    unfold lotF
    split
    · exact (lot_sub r (c / 2)).cons₂ x
    · exact (lot_sub r (c / 2)).cons x
theorem lot_all : ∀ {L s : List Int}, s.Sublist L → ∃ c, c < 2 ^ L.length ∧ lotF L c = s
  | [], s, h => by
    have : s = [] := by simpa using h
    subst this
    exact ⟨0, by simp, rfl⟩
  | x :: r, s, h => by
    cases h with
    | cons _ h =>
      obtain ⟨c, h1, h2⟩ := lot_all h
      refine ⟨2 * c, by rw [List.length_cons, Nat.pow_succ]; omega, ?_⟩
      unfold lotF
      rw [if_neg (by omega), show 2 * c / 2 = c by omega, h2]
    | cons_cons _ h =>
      obtain ⟨c, h1, h2⟩ := lot_all h
      refine ⟨2 * c + 1, by rw [List.length_cons, Nat.pow_succ]; omega, ?_⟩
      unfold lotF
      rw [if_pos (by omega), show (2 * c + 1) / 2 = c by omega, h2]
/-- the program's way to tell a lot -/
theorem lot_by (L : List Int) : ∀ c : Nat, (List.range L.length).filterMap (fun i => if c / 2 ^ i % 2 = 1 then L[i]? else none) = lotF L c := by
  induction L with
  | nil => intro c; rfl
  | cons x r ih =>
    intro c
    rw [List.length_cons, List.range_succ_eq_map, List.filterMap_cons, List.filterMap_map]
    have e : (fun i => if c / 2 ^ i % 2 = 1 then (x :: r)[i]? else none) ∘ Nat.succ = fun i => if (c / 2) / 2 ^ i % 2 = 1 then r[i]? else none := by
      funext i
      show (if c / 2 ^ (i + 1) % 2 = 1 then (x :: r)[i + 1]? else none) = _
      rw [Nat.pow_succ, Nat.mul_comm, ← Nat.div_div_eq_div_mul]
      rfl
    rw [e, ih]
    have eL : lotF (x :: r) c = if c % 2 = 1 then x :: lotF r (c / 2) else lotF r (c / 2) := rfl
    rw [eL]
    by_cases h : c % 2 = 1
    · simp [h]
    · simp [h]
theorem ex_sub {s L : List Int} (h : s.Sublist L) (t : Int) : ex s t ≤ ex L t := by
  induction h with
  | slnil => exact Int.le_refl _
  | cons a _ ih => rw [ex_cons]; omega
  | cons_cons a _ ih => rw [ex_cons, ex_cons]; omega
/-- the greatest sum of k entries -/
def best (L : List Int) (k : Nat) : Int := ((down L).take k).sum
theorem best_up {s L : List Int} (h : s.Sublist L) : s.sum ≤ best L s.length := by
  cases hk : s.length with
  | zero =>
    have : s = [] := List.eq_nil_of_length_eq_zero hk
    subst this; simp [best]
  | succ k =>
    have hl := h.length_le
    have dl := down_len L
    have kb : k < (down L).length := by omega
    have fb := List.pairwise_iff_getElem.mp (down_falls L)
    have h1 := ex_sub h (down L)[k]
    have h2 := take_le (down L)[k] s (k + 1) (by omega)
    rw [List.take_of_length_le (by omega)] at h2
    rw [← ex_perm _ (down_perm L), take_eq _ (down L) (k + 1) (by omega) (fun x hx => ?_) (fun x hx => ?_)] at h1
    · show s.sum ≤ ((down L).take (k + 1)).sum
      omega
    · obtain ⟨i, hi, rfl⟩ := List.mem_iff_getElem.mp hx
      rw [List.getElem_take]
      rw [List.length_take] at hi
      by_cases e : i = k
      · subst e; exact Int.le_refl _
      · exact fb i k (by omega) kb (by omega)
    · obtain ⟨i, hi, rfl⟩ := List.mem_iff_getElem.mp hx
      rw [List.getElem_drop]
      rw [List.length_drop] at hi
      exact fb k (k + 1 + i) kb (by omega) (by omega)
theorem perm_sum {a b : List Int} (h : a.Perm b) : a.sum = b.sum := by
  induction h with
  | nil => rfl
  | cons x _ ih => rw [List.sum_cons, List.sum_cons, ih]
  | swap x y l => simp only [List.sum_cons]; omega
  | trans _ _ h1 h2 => exact h1.trans h2
theorem best_is {L : List Int} {k : Nat} (hk : k ≤ L.length) : ∃ c, c < 2 ^ L.length ∧ (lotF L c).length = k ∧ (lotF L c).sum = best L k := by
  obtain ⟨s, p, h⟩ := List.exists_perm_sublist (List.take_sublist k (down L)) (down_perm L)
  obtain ⟨c, h1, h2⟩ := lot_all h
  refine ⟨c, h1, ?_, ?_⟩
  · rw [h2, p.length_eq, List.length_take, down_len]; omega
  · rw [h2]; exact perm_sum p
def stepF (L f : List Int) (c : Nat) : List Int := f.set (lotF L c).length (max (f.getD (lotF L c).length 0) (lotF L c).sum)
def fndF (L : List Int) (m : Nat) : List Int := (List.range m).foldl (stepF L) (List.replicate (L.length + 1) 0)
theorem fnd_succ (L : List Int) (m : Nat) : fndF L (m + 1) = stepF L (fndF L m) m := by
  unfold fndF
  rw [List.range_succ, List.foldl_append]; rfl
theorem fnd_len (L : List Int) : ∀ m, (fndF L m).length = L.length + 1
  | 0 => by simp [fndF]
  | m + 1 => by rw [fnd_succ]; simp [stepF, fnd_len L m]
theorem best_nn {L : List Int} (h : ∀ x ∈ L, 0 ≤ x) (k : Nat) : 0 ≤ best L k := by
  have key : ∀ M : List Int, (∀ x ∈ M, 0 ≤ x) → 0 ≤ M.sum := by
    intro M
    induction M with
    | nil => intro _; exact Int.le_refl _
    | cons x r ih =>
      intro h
      have h1 := h x List.mem_cons_self
      have h2 := ih fun y hy => h y (List.mem_cons_of_mem _ hy)
      rw [List.sum_cons]; omega
  exact key _ fun x hx => h x ((down_perm L).mem_iff.mp (List.mem_of_mem_take hx))
theorem getD_set {f : List Int} {i k : Nat} {v : Int} (hi : i < f.length) : (f.set i v).getD k 0 = if i = k then v else f.getD k 0 := by
  rw [List.getD_eq_getElem?_getD, List.getD_eq_getElem?_getD, List.getElem?_set]
  by_cases e : i = k
  · subst e; simp [hi]
  · simp [e]
theorem fnd_bounds {L : List Int} (h : ∀ x ∈ L, 0 ≤ x) : ∀ m, (∀ k, (fndF L m).getD k 0 ≤ best L k) ∧ ∀ c, c < m → (lotF L c).sum ≤ (fndF L m).getD (lotF L c).length 0
  | 0 => by
    refine ⟨fun k => ?_, fun c hc => by omega⟩
    have := best_nn h k
    have e : (fndF L 0).getD k 0 = 0 := by
      show (List.replicate (L.length + 1) (0 : Int)).getD k 0 = 0
      rw [List.getD_eq_getElem?_getD, List.getElem?_replicate]
      split <;> rfl
    rw [e]; exact this
  | m + 1 => by
    obtain ⟨h1, h2⟩ := fnd_bounds h m
    have hl := (lot_sub L m).length_le
    have hf := fnd_len L m
    have hi : (lotF L m).length < (fndF L m).length := by omega
    rw [fnd_succ]
    unfold stepF
    refine ⟨fun k => ?_, fun c hc => ?_⟩
    · rw [getD_set hi]
      split
      · rename_i e
        have a := h1 k
        have b := best_up (lot_sub L m)
        rw [e] at b ⊢
        omega
      · exact h1 k
    · rw [getD_set hi]
      split
      · rename_i e
        by_cases ec : c = m
        · subst ec; omega
        · have := h2 c (by omega)
          rw [← e] at this; omega
      · rename_i e
        by_cases ec : c = m
        · subst ec; exact absurd rfl e
        · exact h2 c (by omega)
theorem fnd_best {L : List Int} (h : ∀ x ∈ L, 0 ≤ x) {k : Nat} (hk : k ≤ L.length) : (fndF L (2 ^ L.length)).getD k 0 = best L k := by
  obtain ⟨c, h1, h2, h3⟩ := best_is hk
  obtain ⟨a, b⟩ := fnd_bounds h (2 ^ L.length)
  have := b c h1
  rw [h2, h3] at this
  have := a k
  omega
end MQ4
namespace Sp
open PySem PySem.Spec PyProof.Rows L2 SQ XQ XD
variable {V : Ve} {B : Sc} {X : XP} {C : D → Prop}
theorem check_equal_measures {a b : List Int} : (F_check_equal_measures V).F B [row a, row b] C X = if a.length = b.length ∧ a.sum = b.sum then C .non else X ⟨V.cls .operation, [], []⟩ := by
  simp [F_check_equal_measures, X_check_equal_measures, xf_F]
  by_cases h : a.length = b.length
  · by_cases h2 : a.sum = b.sum <;> simp [h, h2]
  · simp [h]
theorem bar {a b : List Int} (ha : Row a) (hb : Row b) : (F_bar V).F B [row a, row b] C X = if a.length = b.length ∧ a.sum = b.sum then C (firstB a b) else X ⟨V.cls .operation, [], []⟩ := by
  simp [F_bar, X_bar, xf_F, check_rows (typed1_row a) (typed1_row b), isRow_row ha, isRow_row hb, first_bar ha hb, check_equal_measures]
theorem bar_no {d d' : D} (h : Typed1 d) (h' : Typed1 d') (n : isRow d = false ∨ isRow d' = false) : (F_bar V).F B [d, d'] C X = X ⟨V.cls .sums, [], []⟩ := by
  have : ¬ (isRow d = true ∧ isRow d' = true) := by rcases n with n | n <;> simp [n]
  simp only [F_bar, X_bar, xf_F]
  simp [check_rows h h', this]
/-- whether a value is an int within -/
def isIn (d : D) (lo hi : Int) : Bool := match d with
  | .int i => decide (lo ≤ i ∧ i ≤ hi)
  | _ => false
theorem is_within {d : D} {lo hi : Int} (h : Typed d) : (F_is_within V).F B [d, .int lo, .int hi] C X = C (.bl (isIn d lo hi)) := by
  cases d <;> simp [F_is_within, X_is_within, xf_F, h, isWhole, isIn]
  rename_i i
  by_cases h : lo ≤ i
  · simp [h, show ¬ i < lo by omega]
  · simp [h, show i < lo by omega]
def isBarB (a b : List Int) (d : D) : Bool := match d with
  | .int i => decide (1 ≤ i ∧ i ≤ a.length) && decide (nth0 (heads 0 (down b)) (i - 1).toNat < nth0 (heads 0 (down a)) (i - 1).toNat)
  | _ => false
theorem is_bar {a b : List Int} {d : D} (ha : Row a) (hb : Row b) (h : Typed d) : (F_is_bar V).F B [row a, row b, d] C X = if a.length = b.length ∧ a.sum = b.sum then C (.bl (isBarB a b d)) else X ⟨V.cls .operation, [], []⟩ := by
  simp [F_is_bar, X_is_bar, xf_F, check_rows (typed1_row a) (typed1_row b), isRow_row ha, isRow_row hb, check_equal_measures, is_within h]
  by_cases e : a.length = b.length ∧ a.sum = b.sum
  · simp only [e, and_self, if_true]
    cases d <;> simp [isIn, isBarB]
    rename_i i
    by_cases h1 : 1 ≤ i ∧ i ≤ b.length
    · have e1 := down_len a
      have e2 := down_len b
      obtain ⟨k, rfl⟩ : ∃ k : Nat, i = (k : Int) + 1 := ⟨(i - 1).toNat, by omega⟩
      simp [prefix_sums ha, prefix_sums hb]
      rw [exI_ints (by rw [heads_len]; omega), exI_ints (by rw [heads_len]; omega)]
      simp [h1.1, h1.2, e.1, show ¬ (b.length : Int) < k + 1 by omega]
    · by_cases h2 : 1 ≤ i
      · simp [show ¬ i ≤ (b.length : Int) by omega, show (b.length : Int) < i by omega, e.1]
      · simp [h2, show i < 1 by omega]
  · simp only [e, if_false]
theorem is_bar_no {d d' x : D} (h : Typed1 d) (h' : Typed1 d') (n : isRow d = false ∨ isRow d' = false) : (F_is_bar V).F B [d, d', x] C X = X ⟨V.cls .sums, [], []⟩ := by
  have : ¬ (isRow d = true ∧ isRow d' = true) := by rcases n with n | n <;> simp [n]
  simp only [F_is_bar, X_is_bar, xf_F]
  simp [check_rows h h', this]
theorem check_entry {d : D} (h : Typed d) : (F_check_entry V).F B [d] C X = if isEntry d = true then C .non else X ⟨V.cls .number, ["value"], [d]⟩ := by
  simp [F_check_entry, X_check_entry, xf_F, h]
  cases isEntry d <;> simp
theorem excess {a : List Int} {t : Int} (ha : Row a) (ht : isEntry (.int t) = true) : (F_excess V).F B [row a, .int t] C X = C (.int (MQ3.ex a t)) := by
  simp [F_excess, X_excess, xf_F, check_row (typed1_row a), isRow_row ha, check_entry, ht]
  rw [lcW_fil (p := fun n => decide (t < n)) (f := fun n => .int (n - t)) (fun x _ Q => by by_cases h : t < x <;> simp [h] <;> omega)]
  have := ha.l2
  rw [← MQ3.ex_over t a]
  simp [show a.length ≤ 100000 by omega]
  rw [intsM, sumP_lst]
theorem excess_no {d x : D} (h : Typed1 d) (n : isRow d = false) : (F_excess V).F B [d, x] C X = X ⟨V.cls .sums, [], []⟩ := by
  simp [F_excess, X_excess, xf_F, check_row h, n]
/-! ### this law's own -/
@[simp] theorem law_down {a : List Int} : (F__law_down V).F B [row a] C X = C (row (down a)) := by
  simp [F__law_down, X__law_down, xf_F, ← List.map_reverse, up_rev]
@[simp] theorem law_heads {a : List Int} (hl : a.length ≤ 99999) : (F__law_heads V).F B [row a] C X = C (.lst ((heads 0 (down a)).map D.int)) := by
  simp [F__law_heads, X__law_heads, xf_F]
  have dl := down_len a
  refine forW_iff (S := fun q : List Int × Int × Sl => [.val (row a), .own (q.1.map D.int), .val (.int q.2.1), q.2.2]) (g := D.int) (f := fun q n => (q.1 ++ [q.2.1 + n], q.2.1 + n, .val (.int n)))
    (P := fun i q => q.1 = heads 0 ((down a).take i) ∧ q.2.1 = ((down a).take i).sum) (xs := down a) (a0 := ([], 0, .un)) ⟨rfl, rfl⟩ (fun i n q e' hi h => ?_) fun q hq => ?_
  · obtain ⟨l, t, s⟩ := q
    obtain ⟨h1, h2⟩ := h
    simp at h1 h2
    subst h1 h2
    have : i < (down a).length := (List.getElem?_eq_some_iff.mp hi).1
    refine ⟨?_, ?_, ?_⟩
    · simp [X__law_heads_L1, heads_len, show min i (down a).length < 100000 by omega]
    · simp; rw [heads_take hi]
    · simp; rw [sum_take hi]
  · obtain ⟨l, t, s⟩ := q
    obtain ⟨h1, h2⟩ := hq
    simp at h1 h2
    subst h1 h2
    simp
theorem leB_by (a b : List Int) : (((heads 0 (down a)).zip (heads 0 (down b))).filter fun q => decide (q.2 < q.1)) = [] ↔ leB a b = true := by
  unfold leB
  rw [List.filter_eq_nil_iff, List.all_eq_true]
  constructor
  · intro h q m
    have := h q m
    simp at this ⊢; omega
  · intro h q m
    have := h q m
    simp at this ⊢; omega
theorem eqDs_nil_map {β : Type} (l : List β) (f : β → D) : eqDs (l.map f) [] = decide (l = []) := by cases l <;> simp
theorem law_under {a b : List Int} (ha : a.length ≤ 99999) (hb : b.length ≤ 99999) : (F__law_under V).F B [row a, row b] C X = C (.bl (undB a b)) := by
  simp [F__law_under, X__law_under, xf_F, ha, hb, zipII]
  unfold undB
  by_cases h : a.length = b.length
  · by_cases h2 : a.sum = b.sum
    · simp [h, h2]
      rw [lcW_fil (p := fun q => decide (q.2 < q.1)) (f := fun _ => .int 1) (fun q _ Q => by by_cases h : q.2 < q.1 <;> simp [h] <;> intro <;> omega)]
      have dl := down_len a
      have e : min (heads 0 (down a)).length (heads 0 (down b)).length ≤ 100000 := by rw [heads_len, heads_len]; omega
      have e3 : decide ((((heads 0 (down a)).zip (heads 0 (down b))).filter fun q => decide (q.2 < q.1)) = []) = leB a b := by rw [Bool.eq_iff_iff, decide_eq_true_eq, leB_by]
      simp [e, eqDs_nil_map, e3]
    · simp [h, h2]
  · simp [h]
end Sp
namespace Sp
open PySem PySem.Spec PyProof.Rows L2 SQ XQ XD
variable {V : Ve} {B : Sc} {X : XP} {C : D → Prop}
theorem heads_nth : ∀ (l : List Int) (t : Int) (k : Nat), k < l.length → nth0 (heads t l) k = t + (l.take (k + 1)).sum
  | [], _, _, h => by simp at h
  | x :: l, t, 0, _ => by simp [heads, nth0]
  | x :: l, t, k + 1, h => by
    have ih := heads_nth l (t + x) k (by simpa using h)
    simp only [heads, nth0, List.getD_cons_succ, List.take_succ_cons, List.sum_cons] at ih ⊢
    rw [ih]; omega
theorem lot_fil (a : List Int) (c : Nat) : (((List.range a.length).filter fun i => decide (c / 2 ^ i % 2 = 1)).map fun i => nth0 a i) = MQ4.lotF a c := by
  rw [← MQ4.lot_by a c]
  have : ∀ l : List Nat, (∀ i ∈ l, i < a.length) → (l.filter fun i => decide (c / 2 ^ i % 2 = 1)).map (fun i => nth0 a i) = l.filterMap fun i => if c / 2 ^ i % 2 = 1 then a[i]? else none := by
    intro l
    induction l with
    | nil => intro _; rfl
    | cons i l ih =>
      intro h
      have hi := h i List.mem_cons_self
      have ih := ih fun j m => h j (List.mem_cons_of_mem _ m)
      by_cases e : c / 2 ^ i % 2 = 1
      · rw [List.filter_cons_of_pos (by simpa using e), List.map_cons, ih, List.filterMap_cons, if_pos e, List.getElem?_eq_getElem hi, nth0_get hi]
      · rw [List.filter_cons_of_neg (by simpa using e), ih, List.filterMap_cons, if_neg e]
  exact this _ fun i m => List.mem_range.mp m
theorem cut_tailD {x : D} {xs : List D} : cutD (x :: xs) (some 1) none = xs := by
  have z : HT.sIx (x :: xs).length 0 (some 1) = 1 := by
    have := HT.sIx_nat (x :: xs).length 0 1
    rw [show ((1 : Nat) : Int) = 1 from rfl] at this
    rw [this]; simp
  unfold SQ.cutD
  rw [z, HT.sIx_none]
  simp
def bits7 : List D := [.int 1, .int 2, .int 4, .int 8, .int 16, .int 32, .int 64]
theorem bits_at {i : Nat} (h : i ≤ 6) : atI bits7 (i : Int) = some (.int (2 ^ i)) := by
  refine atI_nat ?_
  have : i = 0 ∨ i = 1 ∨ i = 2 ∨ i = 3 ∨ i = 4 ∨ i = 5 ∨ i = 6 := by omega
  rcases this with rfl | rfl | rfl | rfl | rfl | rfl | rfl <;> rfl
theorem ixN_nat {n j : Nat} (h : j < n) : ixN n (j : Int) = some j := by
  unfold ixN
  rw [if_pos (by omega), if_pos (by omega)]; simp
theorem law_lots {a : List Int} (h1 : 1 ≤ a.length) (hl : a.length ≤ 6) (hn : ∀ n ∈ a, 0 ≤ n) : (F__law_lots V).F B [row a] C X = C (.lst ((heads 0 (down a)).map D.int)) := by
  have e7 : ([.int 1, .int 2, .int 4, .int 8, .int 16, .int 32, .int 64] : List D) = bits7 := rfl
  have p6 : 2 ^ a.length ≤ 64 := Nat.pow_le_pow_right (by decide) hl
  have p7 : (2 : Int) ^ a.length = ((2 ^ a.length : Nat) : Int) := by simp
  obtain ⟨M, hM⟩ : ∃ M : Nat, 2 ^ a.length = M := ⟨_, rfl⟩
  rw [hM] at p6 p7
  simp [F__law_lots, X__law_lots, xf_F, e7, bits_at hl, p7, show (0 : Int) ≤ a.length + 1 by omega, show (a.length : Int) + 1 ≤ 100000 by omega, show a.length ≤ 99999 by omega]
  simp only [show (-4611686018427387904 : Int) ≤ (M : Int) by omega, show (M : Int) < 4611686018427387904 by omega, and_self, true_and]
  rw [rng0, show List.replicate (a.length + 1) (D.int 0) = (List.replicate (a.length + 1) 0).map D.int by simp]
  refine forW_iff (S := fun q : List Int × Sl × Sl => [.val (row a), .own (q.1.map D.int), .val (.tup bits7), q.2.1, q.2.2, .un]) (g := fun i : Nat => D.int i)
    (f := fun q c => (MQ4.stepF a q.1 c, .val (.int c), .val (.lst ((MQ4.lotF a c).map D.int)))) (P := fun i q => q.1 = MQ4.fndF a i) (a0 := (List.replicate (a.length + 1) 0, .un, .un)) rfl ?_ ?_
  · intro i c q e' hc hP
    obtain ⟨f, s, t⟩ := q
    simp at hP
    subst hP
    obtain ⟨rfl, hc⟩ := range_get hc
    refine ⟨?_, (MQ4.fnd_succ a c).symm⟩
    have fl := MQ4.fnd_len a c
    have ll := (MQ4.lot_sub a c).length_le
    simp [X__law_lots_L1, rng0]
    rw [lcW_fil (p := fun i : Nat => decide (c / 2 ^ i % 2 = 1)) (f := fun i : Nat => .int (nth0 a i)) (fun i hi Q => by
      have hi := List.mem_range.mp hi
      have q1 : 2 ^ i ≤ 64 := Nat.pow_le_pow_right (by decide) (by omega : i ≤ 6)
      have q5 : 0 < 2 ^ i := Nat.two_pow_pos i
      have q6 : (2 : Int) ^ i = ((2 ^ i : Nat) : Int) := by simp
      obtain ⟨Z, hZ⟩ : ∃ Z : Nat, 2 ^ i = Z := ⟨_, rfl⟩
      rw [hZ] at q1 q5 q6
      have q7 : CDivW (c : Int) (Z : Int) := cdivw (by omega) (by omega)
      have q8 : ((c : Int) / (Z : Int) % 2 = 1) = (c / Z % 2 = 1) := propext (by
        have : ((c / Z : Nat) : Int) = (c : Int) / Z := by simp
        rw [← this]; omega)
      simp [bits_at (show i ≤ 6 by omega), q6, q7, exI_ints hi, hZ, q8]
      by_cases h : c / Z % 2 = 1
      · simp [h]
      · simp [h]; intro; omega)]
    have e9 : ([] : List D) ++ List.map (fun i => D.int (nth0 a i)) (List.filter (fun i => decide (c / 2 ^ i % 2 = 1)) (List.range a.length)) = (MQ4.lotF a c).map D.int := by
      rw [List.nil_append, intsM, lot_fil]
    rw [e9]
    simp only [len_map_int, sumP_lst]
    rw [atI_ints (by omega), ixN_nat (by omega)]
    simp [show (a.length : Int) < 4611686018427387904 by omega, show (a.length : Int) ≤ 100000 by omega, MQ4.stepF, nth0, List.map_set]
  · intro q hq
    obtain ⟨f, s, t⟩ := q
    simp at hq
    subst hq
    have fl := MQ4.fnd_len a M
    have dl := down_len a
    simp
    have e : cutD ((MQ4.fndF a M).map D.int) (some 1) none = (heads 0 (down a)).map D.int := by
      obtain ⟨x, r, hx⟩ : ∃ x r, MQ4.fndF a M = x :: r := by
        cases h : MQ4.fndF a M with
        | nil => rw [h] at fl; simp at fl
        | cons x r => exact ⟨x, r, rfl⟩
      rw [hx, List.map_cons, cut_tailD]
      congr 1
      rw [hx] at fl
      have rl : r.length = a.length := by simpa using fl
      refine List.ext_getElem (by rw [heads_len]; omega) fun k h1 h2 => ?_
      have h3 : k < (down a).length := by rw [heads_len] at h2; exact h2
      have b1 := MQ4.fnd_best (L := a) hn (k := k + 1) (by omega)
      rw [hM, hx, List.getD_cons_succ] at b1
      have b2 := heads_nth (down a) 0 k h3
      rw [nth0_get h2] at b2
      rw [b2]
      have b3 : r.getD k 0 = r[k] := by simp [h1]
      rw [← b3, b1]
      unfold MQ4.best
      omega
    rw [e]
end Sp
namespace Sp
open PySem PySem.Spec PyProof.Rows L2 SQ XQ XD
variable {V : Ve} {B : Sc} {X : XP} {C : D → Prop}
theorem leB_nth {a b : List Int} (hl : a.length = b.length) : leB a b = true ↔ ∀ k, k < a.length → nth0 (heads 0 (down a)) k ≤ nth0 (heads 0 (down b)) k := by
  have da := down_len a
  have db := down_len b
  unfold leB
  rw [List.all_eq_true]
  constructor
  · intro h k hk
    have ha : k < (heads 0 (down a)).length := by rw [heads_len]; omega
    have hb : k < (heads 0 (down b)).length := by rw [heads_len]; omega
    have hz : k < ((heads 0 (down a)).zip (heads 0 (down b))).length := by rw [List.length_zip]; omega
    have := h _ (List.getElem_mem hz)
    rw [List.getElem_zip] at this
    rw [nth0_get ha, nth0_get hb]
    simpa using this
  · intro h q m
    obtain ⟨k, hz, rfl⟩ := List.mem_iff_getElem.mp m
    rw [List.getElem_zip]
    have hz' := hz
    rw [List.length_zip, heads_len, heads_len] at hz'
    have := h k (by omega)
    rw [nth0_get (by rw [heads_len]; omega), nth0_get (by rw [heads_len]; omega)] at this
    simpa using this
theorem leB_und {a b : List Int} (hl : a.length = b.length) : leB a b = true ↔ MQ3.Und a b := by
  have da := down_len a
  have db := down_len b
  rw [leB_nth hl]
  constructor
  · intro h k hk
    cases k with
    | zero => simp
    | succ k =>
      have := h k (by omega)
      rw [heads_nth _ _ _ (by omega), heads_nth _ _ _ (by omega)] at this
      omega
  · intro h k hk
    have := h (k + 1) (by omega)
    rw [heads_nth _ _ _ (by omega), heads_nth _ _ _ (by omega)]
    omega
theorem row_nn {a : List Int} (h : Row a) : ∀ n ∈ a, 0 ≤ n := fun n m => (h.e n m).1
theorem row_entry {a : List Int} (h : Row a) {n : Int} (m : n ∈ a) : isEntry (.int n) = true := by
  have := h.e n m
  simp only [isEntry, decide_eq_true_eq]; exact this
theorem law_three_ways {a b : List Int} (ha : Row a) (hb : Row b) (h6 : a.length ≤ 6) (hl : a.length = b.length) (hs : a.sum = b.sum) : (F__law_three_ways V).F B [row a, row b] C X = C (.lst [.bl (undB a b), .bl (undB a b), .bl (undB a b)]) := by
  have l1 := ha.l1
  have eu : undB a b = leB a b := by simp [undB, hl, hs]
  have da := down_len a
  have db := down_len b
  simp [F__law_three_ways, X__law_three_ways, xf_F, law_lots ha.l1 h6 (row_nn ha), show b.length ≤ 99999 by omega, show a.length ≤ 99999 by omega, zipII, law_under]
  rw [lcW_fil (p := fun q => decide (q.2 < q.1)) (f := fun _ => .int 1) (fun q _ Q => by
    by_cases h : q.2 < q.1 <;> simp [h] <;> intro <;> omega)]
  rw [lcW_fil (p := fun t => decide (MQ3.ex b t < MQ3.ex a t)) (f := fun _ => .int 1) (fun t m Q => by
    have := row_entry hb m
    by_cases h : MQ3.ex b t < MQ3.ex a t <;> simp [h, excess ha this, excess hb this] <;> intro <;> omega)]
  have e3 : decide ((((heads 0 (down a)).zip (heads 0 (down b))).filter fun q => decide (q.2 < q.1)) = []) = leB a b := by rw [Bool.eq_iff_iff, decide_eq_true_eq, leB_by]
  have e4 : decide (∀ t, t ∈ b → MQ3.ex a t ≤ MQ3.ex b t) = leB a b := by
    rw [Bool.eq_iff_iff, decide_eq_true_eq, leB_und hl, MQ3.und_iff hl]
  have e5 : min (heads 0 (down a)).length (heads 0 (down b)).length ≤ 100000 := by rw [heads_len, heads_len]; omega
  simp [eqDs_nil_map, e3, e4, e5, show b.length ≤ 100000 by omega, eu]
/-! ### shown values -/
@[simp] theorem shw_non : shw .non = true := rfl
@[simp] theorem shw_bl {b : Bool} : shw (.bl b) = true := rfl
theorem shw_bls3 (x y z : Bool) : shw (.lst [.bl x, .bl y, .bl z]) = true := by
  cases x <;> cases y <;> cases z <;> decide +kernel
end Sp
namespace Sp
open PySem PySem.Spec PyProof.Rows L2 SQ XQ XD
variable {V : Ve} {B : Sc} {X : XP} {C : D → Prop}
/-- all bars -/
def barsL (a b : List Int) : List Int := ((List.range a.length).filter fun k => decide (nth0 (heads 0 (down b)) k < nth0 (heads 0 (down a)) k)).map fun k : Nat => (k : Int) + 1
theorem bars_mem {a b : List Int} {i : Int} : i ∈ barsL a b ↔ isBarB a b (.int i) = true := by
  unfold barsL isBarB
  simp only [List.mem_map, List.mem_filter, List.mem_range, decide_eq_true_eq, Bool.and_eq_true]
  constructor
  · rintro ⟨k, ⟨h1, h2⟩, rfl⟩
    refine ⟨by omega, ?_⟩
    have e : ((k : Int) + 1 - 1).toNat = k := by omega
    rw [e]; exact h2
  · rintro ⟨h1, h2⟩
    exact ⟨(i - 1).toNat, ⟨by omega, h2⟩, by omega⟩
theorem bars_nil {a b : List Int} (hl : a.length = b.length) : barsL a b = [] ↔ leB a b = true := by
  rw [leB_nth hl]
  unfold barsL
  rw [List.map_eq_nil_iff, List.filter_eq_nil_iff]
  constructor
  · intro h k hk
    have := h k (List.mem_range.mpr hk)
    simp at this; exact this
  · intro h k hk
    have := h k (List.mem_range.mp hk)
    simp; exact this
theorem any_int (l : List Int) (i : Int) : ((l.map D.int).any fun z => eqD z (.int i)) = decide (i ∈ l) := by
  rw [Bool.eq_iff_iff, List.any_map, List.any_eq_true, decide_eq_true_eq]
  constructor
  · rintro ⟨x, m, h⟩
    simp at h
    exact h ▸ m
  · intro m; exact ⟨i, m, by simp⟩
/-- the values that are tried as bars -/
def oddB : List D := [.non, .int 0, .bl true, .bl false, .str "1", .tup [.int 1], .lst [.int 1], .dk [] [], .int (10 ^ 39)]
theorem isBar_whole {a b : List Int} {d : D} (h : isWhole d = false) : isBarB a b d = false := by cases d <;> first | rfl | simp [isWhole] at h
theorem pair_loop {a b : List Int} (ha : Row a) (hb : Row b) (hl : a.length = b.length) (hs : a.sum = b.sum) {s2 s4 s5 : Sl} {ds : List D} (hd : ∀ d ∈ ds, Typed d) {e : En} (he : ∀ s6 s7 : Sl, e.nx [.val (row a), .val (row b), s2, .val (.lst ((barsL a b).map D.int)), s4, s5, s6, s7, .un]) : forW (trn (gname 6) (X__law_pair_right_L1 V) B X) ds
    [.val (row a), .val (row b), s2, .val (.lst ((barsL a b).map D.int)), s4, s5, .un, .un, .un] e := by
  refine forW_inv (fun _ ss => ∃ s6 s7 : Sl, ss = [.val (row a), .val (row b), s2, .val (.lst ((barsL a b).map D.int)), s4, s5, s6, s7, .un]) ⟨.un, .un, rfl⟩ ?_ ?_
  · rintro i d ss' hi ⟨s6, s7, rfl⟩ e' n1 n2 n3 n4
    have hT := hd d (List.mem_of_getElem? hi)
    simp [X__law_pair_right_L1, hT, is_bar ha hb hT, hl, hs]
    have e : ∀ j : Int, decide (j ∈ barsL a b) = isBarB a b (.int j) := fun j => by rw [Bool.eq_iff_iff, decide_eq_true_eq, bars_mem]
    cases d with
    | int j =>
      simp [dInt, dBl]
      have e2 := any_int (barsL a b) j
      rw [List.any_map, e] at e2
      rw [e2]
      exact .inl ⟨rfl, n1 _ ⟨_, _, rfl⟩⟩
    | bl k =>
      simp [dInt, dBl, isBarB]
      exact n1 _ ⟨_, _, rfl⟩
    | _ =>
      simp [dInt, isBarB]
      exact n1 _ ⟨_, _, rfl⟩
  · rintro ss' ⟨s6, s7, rfl⟩
    exact he s6 s7
theorem law_pair_right {a b : List Int} (ha : Row a) (hb : Row b) (h6 : a.length ≤ 6) (hl : a.length = b.length) (hs : a.sum = b.sum) (c : C (.bl true)) : (F__law_pair_right V).F B [row a, row b] C X := by
  have l1 := ha.l1
  have da := down_len a
  have db := down_len b
  simp [F__law_pair_right, X__law_pair_right, xf_F, law_three_ways ha hb h6 hl hs, is_under ha hb, shw_bls3, show a.length ≤ 100000 by omega, show b.length ≤ 100000 by omega, rng0, show (a.length : Int) < 4611686018427387904 by omega]
  rw [lcW_fil (p := fun k : Nat => decide (nth0 (heads 0 (down b)) k < nth0 (heads 0 (down a)) k)) (f := fun k : Nat => .int (k + 1)) (fun k hk Q => by
    have hk := List.mem_range.mp hk
    simp [show a.length ≤ 99999 by omega, show b.length ≤ 99999 by omega, exI_ints (show k < (heads 0 (down a)).length by rw [heads_len]; omega), exI_ints (show k < (heads 0 (down b)).length by rw [heads_len]; omega)]
    by_cases h : nth0 (heads 0 (down b)) k < nth0 (heads 0 (down a)) k <;> simp [h] <;> intro <;> omega)]
  rw [List.nil_append, intsM]
  rw [show (List.map (fun x : Nat => (x : Int) + 1) (List.filter (fun k => decide (nth0 (heads 0 (down b)) k < nth0 (heads 0 (down a)) k)) (List.range a.length))) = barsL a b from rfl]
  rw [bar ha hb]
  have dd : ∀ d ∈ rngD (-1) ((b.length : Int) + 3 + 1).toNat ++ oddB, Typed d := by
    intro d m
    rcases List.mem_append.mp m with m | m
    · obtain ⟨i, _, rfl⟩ := List.mem_map.mp m
      exact ⟨_, rfl⟩
    · simp only [oddB, List.mem_cons, List.not_mem_nil, or_false] at m
      rcases m with rfl | rfl | rfl | rfl | rfl | rfl | rfl | rfl | rfl <;> exact ⟨_, rfl⟩
  have rg : RgOk (-1) ((b.length : Int) + 3) := ⟨by omega, by omega, by omega, by omega, by omega⟩
  have rl : (rngD (-1) ((b.length : Int) + 3 + 1).toNat).length ≤ 99991 := by simp [rngD]; omega
  have loop : ∀ (s2 s4 : Sl), forW (trn (gname 6) (X__law_pair_right_L1 V) B X) (rngD (-1) ((b.length : Int) + 3 + 1).toNat ++ oddB) [.val (row a), .val (row b), s2, .val (.lst ((barsL a b).map D.int)), s4, .val (.lst oddB), .un, .un, .un] { nx := fun ss => XQ.run (ret (bl true) : XS (Good V)) B X ss (en0 C), rt := rtV C } :=
    fun s2 s4 => pair_loop ha hb hl hs dd (fun s6 s7 => by simp; exact c)
  simp [hl, hs, show (b.length : Int) ≤ 100000 by omega, eqDs_nil_map, bars_nil hl, show CPowW 10 39 = True from eq_true ⟨by decide, by decide +kernel⟩, rg, rl]
  have eo : ([.non, .int 0, .bl true, .bl false, .str (Str.ofString "1"), .tup [.int 1], .lst [.int 1], .dk [] [], .int 1000000000000000000000000000000000000000] : List D) = oddB := rfl
  rw [eo]
  cases hb' : leB a b with
  | true =>
    simp [(firstB_iff a b).mpr hb', loop]
  | false =>
    obtain ⟨i, e, i1, i2, i3⟩ := firstB_some hb'
    rw [heads_len, down_len] at i1
    have m : ((i : Int) + 1) ∈ barsL a b := by
      rw [bars_mem]
      simp [isBarB, i3]; omega
    simp [e, loop, m, dBl]
    exact .inl ⟨_, ⟨_, m, rfl⟩, by simp⟩
end Sp
namespace Sp
open PySem PySem.Spec PyProof.Rows L2 SQ XQ XD
variable {V : Ve} {B : Sc} {X : XP} {C : D → Prop}
theorem atI_in {xs : List D} {r : Int} (h0 : 0 ≤ r) (h1 : r < xs.length) : ∃ d ∈ xs, atI xs r = some d := by
  obtain ⟨k, rfl⟩ : ∃ k : Nat, r = k := ⟨r.toNat, by omega⟩
  exact ⟨xs[k]'(by omega), List.getElem_mem _, atI_nat (by simp [show k < xs.length by omega])⟩
theorem big200 {n : Int} (h : n ≤ 2 ^ 100) : n < 1606938044258990275541962092341162602522202993782792835301376 := by
  have : (2 : Int) ^ 100 < 1606938044258990275541962092341162602522202993782792835301376 := by decide +kernel
  exact Int.lt_of_le_of_lt h this
theorem len200 {n : Nat} (h : n ≤ 100000) : (n : Int) < 1606938044258990275541962092341162602522202993782792835301376 := by
  have : (n : Int) ≤ 100000 := by omega
  have h2 : (100000 : Int) < 1606938044258990275541962092341162602522202993782792835301376 := by decide +kernel
  exact Int.lt_of_le_of_lt this h2
theorem law_pick {p : Addr} {xs : List D} (b : B p) (h1 : xs ≠ []) (h2 : xs.length ≤ 100000) (c : ∀ x ∈ xs, C x) : (F__law_pick V).F B [.cell p, .lst xs] C X := by
  have l0 : 0 < xs.length := List.length_pos_iff.mpr h1
  simp [F__law_pick, X__law_pick, xf_F, b, h2, l0]
  refine ⟨len200 h2, fun r r0 r1 => ?_⟩
  obtain ⟨d, m, e⟩ := atI_in r0 r1
  exact ⟨d, e, c d m⟩
theorem law_pickT {p : Addr} {xs : List D} (b : B p) (h1 : xs ≠ []) (h2 : xs.length ≤ 100000) (c : ∀ x ∈ xs, C x) : (F__law_pick V).F B [.cell p, .tup xs] C X := by
  have l0 : 0 < xs.length := List.length_pos_iff.mpr h1
  simp [F__law_pick, X__law_pick, xf_F, b, h2, l0]
  refine ⟨len200 h2, fun r r0 r1 => ?_⟩
  obtain ⟨d, m, e⟩ := atI_in r0 r1
  exact ⟨d, e, c d m⟩
theorem rng_in {lo : Int} {n : Nat} {d : D} (h : d ∈ rngD lo n) : ∃ i : Int, d = .int i ∧ lo ≤ i ∧ i < lo + n := by
  obtain ⟨k, hk, rfl⟩ := List.mem_map.mp h
  exact ⟨_, rfl, by omega, by have := List.mem_range.mp hk; omega⟩
theorem ints_of {ys : List D} {P : Int → Prop} (h : ∀ y ∈ ys, ∃ n : Int, y = .int n ∧ P n) : ∃ ns : List Int, ys = ns.map .int ∧ ∀ n ∈ ns, P n := by
  induction ys with
  | nil => exact ⟨[], rfl, by simp⟩
  | cons y r ih =>
    obtain ⟨n, rfl, p⟩ := h y List.mem_cons_self
    obtain ⟨ns, rfl, q⟩ := ih fun z m => h z (List.mem_cons_of_mem _ m)
    exact ⟨n :: ns, rfl, fun x m => by rcases List.mem_cons.mp m with rfl | m; exact p; exact q x m⟩
theorem law_great {p : Addr} (b : B p) (c : ∀ n : Int, 0 ≤ n → n < 10 ^ 28 → C (.int n)) : (F__law_great V).F B [.cell p] C X := by
  simp [F__law_great, X__law_great, xf_F, b, show (rngD 0 3).length ≤ 100000 by simp [rngD], show CPowW 10 28 = True from eq_true ⟨by decide, by decide +kernel⟩, show CPowW 10 12 = True from eq_true ⟨by decide, by decide +kernel⟩, show CPowW 10 20 = True from eq_true ⟨by decide, by decide +kernel⟩, show CPowW 10 10 = True from eq_true ⟨by decide, by decide +kernel⟩]
  refine lcW_all (P := fun d => ∃ n : Int, d = .int n ∧ 0 ≤ n ∧ n < 10 ^ 10) (fun d _ Q q => ?_) fun ys hl hy => ?_
  · simp [b, show CPowW 10 10 = True from eq_true ⟨by decide, by decide +kernel⟩]
    exact fun r r0 r1 => q _ ⟨r, rfl, r0, r1⟩
  · obtain ⟨ns, rfl, hn⟩ := ints_of hy
    obtain ⟨x, y, z, rfl⟩ : ∃ x y z, ns = [x, y, z] := by
      match ns, hl with
      | [x, y, z], _ => exact ⟨x, y, z, rfl⟩
      | [], hl | [_], hl | [_, _], hl | _ :: _ :: _ :: _ :: _, hl => simp [rngD] at hl
    have hx := hn x (by simp)
    have hy := hn y (by simp)
    have hz := hn z (by simp)
    simp [mulP]
    refine ⟨cmul1 ⟨by omega, by omega⟩, cmul1 ⟨by omega, by omega⟩, law_pick b (by simp) (by simp) fun d m => ?_⟩
    simp only [List.mem_cons, List.not_mem_nil, or_false] at m
    rcases m with rfl | rfl | rfl | rfl <;> simp <;> exact c _ (Int.emod_nonneg _ (by decide)) (Int.lt_of_lt_of_le (Int.emod_lt_of_pos _ (by decide)) (by decide))
/-- the mathematics of what is dealt -/
def dif (x : Int) : List Int → List Int
  | [] => []
  | y :: r => (y - x) :: dif y r
theorem dif_len (l : List Int) : ∀ x, (dif x l).length = l.length := by
  induction l with
  | nil => intro x; rfl
  | cons y r ih => intro x; simp [dif, ih]
theorem dif_sum (l : List Int) (t : Int) : ∀ x, (dif x (l ++ [t])).sum = t - x := by
  induction l with
  | nil => intro x; simp [dif]
  | cons y r ih => intro x; simp [dif, ih]; omega
theorem dif_in (t : Int) (l : List Int) : ∀ x, 0 ≤ x → x ≤ t → (x :: l).Pairwise (· ≤ ·) → (∀ y ∈ l, y ≤ t) → ∀ n ∈ dif x l, 0 ≤ n ∧ n ≤ t := by
  induction l with
  | nil => intro x _ _ _ _ n hn; simp [dif] at hn
  | cons y r ih =>
    intro x h0 h1 hp hl n hn
    obtain ⟨a, b⟩ := List.pairwise_cons.mp hp
    have hxy := a y List.mem_cons_self
    have hy := hl y List.mem_cons_self
    rcases List.mem_cons.mp hn with e | e
    · subst e; omega
    · exact ih y (by omega) hy b (fun z hz => hl z (List.mem_cons_of_mem _ hz)) n e
theorem zip_dif (l : List Int) : ∀ x : Int, ((x :: l).zip l).map (fun q => q.2 - q.1) = dif x l := by
  induction l with
  | nil => intro x; rfl
  | cons y r ih =>
    intro x
    have := ih y
    simp only [List.zip_cons_cons, List.map_cons, dif] at this ⊢
    rw [this]
def movF (ns : List Int) (s g : Nat) (m : Int) : List Int :=
  (ns.set s (ns.getD s 0 - m)).set g ((ns.set s (ns.getD s 0 - m)).getD g 0 + m)
theorem law_dealt {p : Addr} {t : Int} {k : Nat} (b : B p) (ht : 0 ≤ t) (hk1 : 1 ≤ k) (hk2 : k ≤ 1000) (c : ∀ ns : List Int, ns.length = k → (∀ n ∈ ns, 0 ≤ n ∧ n ≤ t) → ns.sum = t → C (row ns)) : (F__law_dealt V).F B [.cell p, .int t, .int k] C X := by
  simp [F__law_dealt, X__law_dealt, xf_F, b, show (k : Int) < 4611686018427387904 by omega, show (k : Int) - 1 < 4611686018427387904 by omega]
  refine ⟨by omega, ?_⟩
  refine forW_inv (fun i ss => ∃ (cs : List Int) (s4 s5 : Sl), cs.length = i ∧ (∀ n ∈ cs, 0 ≤ n ∧ n ≤ t) ∧ ss = [.val (.cell p), .val (.int t), .val (.int k), .own (cs.map .int), s4, s5, .un, .un, .un]) ⟨[], .un, .un, rfl, by simp, rfl⟩ ?_ ?_
  · rintro i d ss' hd ⟨cs, s4, s5, hl, hc, rfl⟩ e' n1 n2 n3 n4
    have hi : i < k - 1 := by
      have := (List.getElem?_eq_some_iff.mp hd).1
      simpa [rngD] using this
    simp [X__law_dealt_L1, b]
    intro r r0 r1
    have ci : cs.length < 1000 := by omega
    refine ⟨by omega, cmul2 ⟨by omega, by omega⟩, cdivw (by decide) (by decide), fun r' h1' h2' => n1 _ ⟨cs ++ [min t (max 0 (t * r / 1000 + r' - 2))], .val d, .val (.int r), by simp [hl], fun n hn => ?_, by simp⟩⟩
    rcases List.mem_append.mp hn with e | e
    · exact hc n e
    · rw [List.mem_singleton.mp e]; omega
  · rintro ss' ⟨cs, s4, s5, hl, hc, rfl⟩
    have hl : cs.length + 1 = k := by simp [rngD] at hl; omega
    have pl := (up_perm cs).length_eq
    simp [cut_tailD]
    have e : (D.int 0 :: (List.map D.int (up cs) ++ [D.int t])) = ((0 : Int) :: (up cs ++ [t])).map D.int := by simp
    have e2 : (List.map D.int (up cs) ++ [D.int t]) = (up cs ++ [t]).map D.int := by simp
    rw [e, e2, zipII, lcW_map (f := fun q : Int × Int => .int (q.2 - q.1)) (fun q _ Q => by simp), List.nil_append]
    rw [show (fun q : Int × Int => D.int (q.2 - q.1)) = D.int ∘ fun q : Int × Int => q.2 - q.1 from rfl, ← List.map_map, zip_dif]
    refine ⟨by omega, by omega, by simp; omega, c _ ?_ ?_ ?_⟩
    · rw [dif_len]; simp; omega
    · refine dif_in t _ 0 (by omega) ht ?_ fun y hy => ?_
      · refine List.pairwise_cons.mpr ⟨fun y hy => ?_, List.pairwise_append.mpr ⟨up_rises cs, List.pairwise_singleton _ _, fun a ha y hy => ?_⟩⟩
        · rcases List.mem_append.mp hy with e | e
          · exact (hc y ((up_perm cs).mem_iff.mp e)).1
          · rw [List.mem_singleton.mp e]; exact ht
        · rw [List.mem_singleton.mp hy]; exact (hc a ((up_perm cs).mem_iff.mp ha)).2
      · rcases List.mem_append.mp hy with e | e
        · exact (hc y ((up_perm cs).mem_iff.mp e)).2
        · rw [List.mem_singleton.mp e]; exact Int.le_refl _
    · rw [dif_sum]; omega
theorem law_drawn_row {p : Addr} {m : Nat} (b : B p) (h1 : 1 ≤ m) (h2 : m ≤ 999) (c : ∀ ns : List Int, 1 ≤ ns.length → ns.length ≤ m → (∀ n ∈ ns, 0 ≤ n ∧ n < 10 ^ 28) → C (row ns)) : (F__law_drawn_row V).F B [.cell p, .int m] C X := by
  simp [F__law_drawn_row, X__law_drawn_row, xf_F, b, gpair]
  refine ⟨⟨by omega, len200 (by omega)⟩, fun r r0 r1 w w0 w1 => ?_⟩
  obtain ⟨k, hk, hk1, hk2⟩ : ∃ k : Nat, 1 + r = (k : Int) ∧ 1 ≤ k ∧ k ≤ m := ⟨(1 + r).toNat, by omega, by omega, by omega⟩
  rw [hk]
  have hb : (-4611686018427387904 ≤ (k : Int) ∧ (k : Int) < 4611686018427387904) := ⟨by omega, by omega⟩
  have hl : (rngD 0 (k : Int).toNat).length ≤ 100000 := by simp [rngD]; omega
  have fin : ∀ ys : List D, ys.length = (rngD 0 (k : Int).toNat).length → (∀ y ∈ ys, ∃ n : Int, y = .int n ∧ 0 ≤ n ∧ n < 10 ^ 28) → C (.tup ([] ++ ys)) := by
    intro ys hl hy
    obtain ⟨ns, rfl, hn⟩ := ints_of hy
    have hl : ns.length = k := by simpa [rngD] using hl
    exact c ns (by omega) (by omega) hn
  by_cases e0 : w = 0
  · simp [e0, hb]
    refine ⟨by simpa [rngD] using hl, lcW_all (P := fun d => ∃ n : Int, d = .int n ∧ 0 ≤ n ∧ n < 10 ^ 28) (fun d _ Q q => ?_) fin⟩
    simp
    exact law_great b fun n n0 n1 => q _ ⟨n, rfl, n0, n1⟩
  by_cases e1 : w = 1
  · simp [e1]
    exact law_great b fun n n0 n1 => law_dealt b n0 hk1 (by omega) fun ns l n _ => c ns (by omega) (by omega) fun x m => ⟨(n x m).1, by have := (n x m).2; omega⟩
  simp [e0, e1, hb]
  refine ⟨by simpa [rngD] using hl, lcW_all (P := fun d => ∃ n : Int, d = .int n ∧ 0 ≤ n ∧ n < 10 ^ 28) (fun d _ Q q => ?_) fin⟩
  have ww : w = 2 ∨ w = 3 := by omega
  rcases ww with rfl | rfl <;> simp [b] <;> exact fun r r0 r1 => q _ ⟨r, rfl, r0, by omega⟩
theorem law_moved {ns : List Int} {s g : Nat} {m : Int} (hs : s < ns.length) (hg : g < ns.length) (hl : ns.length ≤ 100000) : (F__law_moved V).F B [row ns, .int s, .int g, .int m] C X = C (row (movF ns s g m)) := by
  simp [F__law_moved, X__law_moved, xf_F, exI_ints hs, ixN_nat hs, ixN_nat hg]
  have e : (List.map D.int ns).set s (D.int (nth0 ns s - m)) = (ns.set s (ns.getD s 0 - m)).map D.int := by rw [List.map_set]; rfl
  rw [e, exI_ints (by simpa using hg)]
  simp [ixN_nat hg, ← List.map_set]
  rw [show (ns.set s (ns[s]?.getD 0 - m)).set g (nth0 (ns.set s (ns[s]?.getD 0 - m)) g + m) = movF ns s g m by simp [movF, nth0]]
theorem sum_set : ∀ (L : List Int) (k : Nat) (x : Int), k < L.length → (L.set k x).sum = L.sum - L.getD k 0 + x
  | a :: r, 0, x, _ => by
    simp; omega
  | a :: r, k + 1, x, h => by
    have := sum_set r k x (by simpa using h)
    simp only [List.set_cons_succ, List.sum_cons, this, List.getD_cons_succ]; omega
theorem mov_len (ns : List Int) (s g : Nat) (m : Int) : (movF ns s g m).length = ns.length := by simp [movF]
theorem mov_sum {ns : List Int} {s g : Nat} {m : Int} (hs : s < ns.length) (hg : g < ns.length) : (movF ns s g m).sum = ns.sum := by
  unfold movF
  rw [sum_set _ _ _ (by simpa using hg), sum_set _ _ _ hs]; omega
theorem getD_mem {L : List Int} {k : Nat} (h : k < L.length) : L.getD k 0 ∈ L := by
  rw [List.getD_eq_getElem?_getD, List.getElem?_eq_getElem h]
  exact List.getElem_mem h
theorem mov_nn {ns : List Int} {s g : Nat} {m : Int} (hs : s < ns.length) (hg : g < ns.length) (h : ∀ n ∈ ns, 0 ≤ n) (m0 : 0 ≤ m) (m1 : m ≤ ns.getD s 0) : ∀ n ∈ movF ns s g m, 0 ≤ n := by
  have h1 : ∀ n ∈ ns.set s (ns.getD s 0 - m), 0 ≤ n := fun n hn => by
    rcases List.mem_or_eq_of_mem_set hn with hn | rfl
    · exact h n hn
    · omega
  intro n hn
  rcases List.mem_or_eq_of_mem_set hn with hn | rfl
  · exact h1 n hn
  · have := h1 _ (getD_mem (L := ns.set s (ns.getD s 0 - m)) (k := g) (by simpa using hg))
    omega
theorem nn_sum : ∀ M : List Int, (∀ x ∈ M, 0 ≤ x) → 0 ≤ M.sum := by
  intro M
  induction M with
  | nil => intro _; exact Int.le_refl _
  | cons x r ih =>
    intro h
    have h1 := h x List.mem_cons_self
    have h2 := ih fun y hy => h y (List.mem_cons_of_mem _ hy)
    rw [List.sum_cons]; omega
theorem perm_ints {ys : List D} {ns : List Int} (h : ys.Perm (ns.map D.int)) : ∃ ls : List Int, ys = ls.map .int ∧ ls.Perm ns := by
  obtain ⟨ls, rfl, _⟩ := ints_of (P := fun _ => True) (ys := ys) fun y hy => by
    obtain ⟨n, _, rfl⟩ := List.mem_map.mp (h.mem_iff.mp hy)
    exact ⟨n, rfl, trivial⟩
  refine ⟨ls, rfl, ?_⟩
  have := h.map (fun d : D => match d with | .int i => i | _ => 0)
  simpa [List.map_map, Function.comp_def] using this
theorem perm_sum {a b : List Int} (h : a.Perm b) : a.sum = b.sum := by
  induction h with
  | nil => rfl
  | cons x _ ih => simp [ih]
  | swap x y l => simp; omega
  | trans _ _ h1 h2 => exact h1.trans h2
theorem law_near_row {p : Addr} {ns : List Int} (b : B p) (h1 : 1 ≤ ns.length) (h2 : ns.length ≤ 100) (nn : ∀ n ∈ ns, 0 ≤ n) (c : ∀ ms : List Int, ms.length = ns.length → ms.sum = ns.sum → (∀ n ∈ ms, 0 ≤ n) → C (row ms)) : (F__law_near_row V).F B [.cell p, row ns] C X := by
  have snn := nn_sum ns nn
  simp [F__law_near_row, X__law_near_row, xf_F, b]
  intro way w0 w1
  have dl := law_dealt (V := V) (X := fun _ => False) (B := B) (p := p) (t := ns.sum) (k := ns.length) (C := C) b snn h1 (by omega) fun ms l m s => c ms l s fun n hn => (m n hn).1
  by_cases hw : way = 0
  · simp [hw]
    exact dl
  simp [hw]
  refine law_pick b (by simp) (by simp) fun d m => ?_
  obtain ⟨z, rfl, z0⟩ : ∃ z : Int, d = .int z ∧ z ≤ 3 ∧ 0 ≤ z := by
    simp only [List.mem_cons, List.not_mem_nil, or_false] at m
    rcases m with rfl | rfl | rfl | rfl <;> exact ⟨_, rfl, by decide⟩
  clear m
  simp
  refine ⟨by omega, ?_⟩
  refine forW_inv (fun i ss => ∃ (ms : List Int) (s4 s5 s6 s7 : Sl), ss = [.val (.cell p), .val (row ns), .val (.int way), .val (row ms), s4, s5, s6, s7] ∧ ms.length = ns.length ∧ ms.sum = ns.sum ∧ ∀ n ∈ ms, 0 ≤ n) ⟨ns, .un, .un, .un, .un, rfl, rfl, rfl, nn⟩ ?_ ?_
  · rintro i d ss' hd ⟨ms, s4, s5, s6, s7, rfl, e1, e2, e3⟩ e' n1 n2 n3 n4
    simp [X__law_near_row_L1, b]
    refine ⟨⟨by omega, len200 (by omega)⟩, fun r r0 r1 => ⟨⟨by omega, len200 (by omega)⟩, fun q q0 q1 => ?_⟩⟩
    obtain ⟨s, rfl⟩ : ∃ s : Nat, r = s := ⟨r.toNat, by omega⟩
    obtain ⟨g, rfl⟩ : ∃ g : Nat, q = g := ⟨q.toNat, by omega⟩
    have hs : s < ms.length := by omega
    have hg : g < ms.length := by omega
    have v0 : 0 ≤ nth0 ms s := e3 _ (getD_mem (by omega))
    have go : ∀ m : Int, 0 ≤ m → m ≤ nth0 ms s → e'.nx [.val (.cell p), .val (row ns), .val (.int way), .val (row (movF ms s g m)), .val d, .val (.int s), .val (.int g), .val (.int m)] := fun m m0 m1 => n1 _ ⟨movF ms s g m, _, _, _, _, rfl, by rw [mov_len]; exact e1, by rw [mov_sum (by omega) (by omega)]; exact e2, mov_nn (by omega) (by omega) e3 m0 m1⟩
    simp [exI_ints hs, law_moved hs hg (show ms.length ≤ 100000 by omega)]
    by_cases h1w : way = 1
    · simp [h1w, mulP]
      intro t t0 t1
      have tt : t = 0 ∨ t = 1 ∨ t = 2 ∨ t = 3 := by omega
      have m0 : 0 ≤ nth0 ms s * t / 3 ∧ nth0 ms s * t / 3 ≤ nth0 ms s := by
        rcases tt with rfl | rfl | rfl | rfl <;> omega
      have := go _ m0.1 m0.2
      rw [h1w] at this
      exact ⟨cmul2 ⟨by omega, by omega⟩, cdivw (by decide) (by decide), this⟩
    · simp [h1w]
      exact go (min 1 (nth0 ms s)) (by omega) (by omega)
  · rintro ss' ⟨ms, s4, s5, s6, s7, rfl, e1, e2, e3⟩
    simp
    by_cases h2w : way = 2
    · refine .inr ⟨h2w, ⟨b, by omega⟩, fun ys pe => ?_⟩
      obtain ⟨ls, rfl, pl⟩ := perm_ints pe
      exact c ls (by rw [pl.length_eq, e1]) (by rw [← e2]; exact perm_sum pl) fun n m => e3 n (pl.mem_iff.mp m)
    · exact .inl ⟨h2w, c ms e1 e2 e3⟩
def typedB (d : D) : Bool := (tyName d).isSome && match d with
  | .tup xs => xs.all fun x => (tyName x).isSome
  | _ => true
theorem typed_of {d : D} (h : typedB d = true) : Typed1 d := by
  unfold typedB at h
  simp only [Bool.and_eq_true] at h
  refine ⟨Option.isSome_iff_exists.mp h.1, fun xs e x hx => ?_⟩
  subst e
  have := List.all_eq_true.mp h.2 x hx
  exact Option.isSome_iff_exists.mp this
theorem law_odd_row {p : Addr} (b : B p) (c : ∀ d, Typed1 d → isRow d = false → C d) : (F__law_odd_row V).F B [.cell p] C X := by
  have key : ∀ (l : List D), (l.all fun x => typedB x && !isRow x) = true → ∀ x ∈ l, C x := fun l h x hx => by
    have := List.all_eq_true.mp h x hx
    simp only [Bool.and_eq_true, Bool.not_eq_true'] at this
    exact c x (typed_of this.1) this.2
  simp [F__law_odd_row, X__law_odd_row, xf_F, b, show CPowW 10 39 = True from eq_true ⟨by decide, by decide +kernel⟩]
  exact law_pick b (by simp) (by simp) (key _ (by decide +kernel))
end Sp
/-! the least row above sums: what the walk over corners tells; plain mathematics -/
namespace MQ
open SQ
def at0 (s : List Int) (i : Nat) : Int := s.getD i 0
/-- the turn at the middle goes down -/
def bends (s : List Int) (a b i : Nat) : Bool := decide ((at0 s b - at0 s a) * ((i : Int) - b) > (at0 s i - at0 s b) * ((b : Int) - a))
/-- the pile of corners, the last one first -/
def popR (s : List Int) (i : Nat) : List Nat → List Nat
  | b :: a :: r => if bends s a b i then b :: a :: r else popR s i (a :: r)
  | l => l
def cornersR (s : List Int) : Nat → List Nat
  | 0 => []
  | i + 1 => i :: popR s i (cornersR s i)
def hsF (s : List Int) (sl k : Int) : List Int := (List.range s.length).map fun i => at0 s i + sl * (k - (i : Nat))
def hmax (s : List Int) (sl k : Int) : Int := (hsF s sl k).foldl max ((hsF s sl k).headD 0)
def segF (s : List Int) (a b : Nat) : List Int := (List.range (b - a)).map fun (j : Nat) => min (hmax s ((at0 s b - at0 s a) / ((b : Int) - a)) ((a : Int) + 1 + (j : Nat))) (hmax s ((at0 s b - at0 s a) / ((b : Int) - a) + 1) ((a : Int) + 1 + (j : Nat)))
def topsF (s : List Int) (cs : List Nat) : List Int := ((cs.zip cs.tail).map fun p => segF s p.1 p.2).flatten
def difF (t : List Int) : List Int := List.zipWith (fun a b => b - a) (0 :: t) t
def lraF (s : List Int) : List Int := difF (topsF s (cornersR s s.length).reverse)
/-! the greatest of a list -/
theorem foldl_max_le : ∀ (l : List Int) (x : Int), x ≤ l.foldl max x ∧ ∀ y ∈ l, y ≤ l.foldl max x
  | [], x => ⟨Int.le_refl _, fun y h => by cases h⟩
  | z :: r, x => by
    obtain ⟨h1, h2⟩ := foldl_max_le r (max x z)
    simp only [List.foldl_cons]
    refine ⟨by omega, fun y hy => ?_⟩
    rcases List.mem_cons.mp hy with rfl | hy
    · omega
    · exact h2 y hy
theorem foldl_max_mem : ∀ (l : List Int) (x : Int), l.foldl max x = x ∨ l.foldl max x ∈ l
  | [], x => .inl rfl
  | z :: r, x => by
    simp only [List.foldl_cons]
    rcases foldl_max_mem r (max x z) with h | h
    · by_cases hz : x ≤ z
      · right
        have : max x z = z := by omega
        rw [h, this]; exact List.mem_cons_self
      · left
        rw [h]; omega
    · exact .inr (List.mem_cons_of_mem _ h)
theorem max_is {l : List Int} {m : Int} (h : m ∈ l) (hu : ∀ y ∈ l, y ≤ m) : l.foldl max (l.headD 0) = m := by
  cases l with
  | nil => cases h
  | cons x r =>
    have h1 := foldl_max_le (x :: r) x
    have h2 := foldl_max_mem (x :: r) x
    have h3 : (x :: r).foldl max x ≤ m := by
      rcases h2 with e | e
      · rw [e]; exact hu x List.mem_cons_self
      · exact hu _ e
    have h4 := h1.2 m h
    show (x :: r).foldl max x = m
    omega
/-! sums that bend down -/
def conc (f : Nat → Int) (n : Nat) : Prop := ∀ i j, i ≤ j → j + 1 < n → f (j + 1) - f j ≤ f (i + 1) - f i
def flat (f : Nat → Int) (a b : Nat) : Prop := ∀ j, a ≤ j → j < b → f (j + 1) - f j = f (a + 1) - f a
theorem sum_ge {f : Nat → Int} {D : Int} (i : Nat) : ∀ m : Nat, (∀ j, i ≤ j → j < i + m → D ≤ f (j + 1) - f j) → (m : Int) * D ≤ f (i + m) - f i
  | 0, _ => by simp
  | m + 1, h => by
    have h1 := sum_ge i m fun j h1 h2 => h j h1 (by omega)
    have h2 := h (i + m) (by omega) (by omega)
    have e : ((m + 1 : Nat) : Int) * D = m * D + D := by push_cast; rw [Int.add_mul, Int.one_mul]
    have e2 : i + (m + 1) = i + m + 1 := by omega
    rw [e, e2]; omega
theorem sum_le {f : Nat → Int} {D : Int} (i : Nat) : ∀ m : Nat, (∀ j, i ≤ j → j < i + m → f (j + 1) - f j ≤ D) → f (i + m) - f i ≤ (m : Int) * D
  | 0, _ => by simp
  | m + 1, h => by
    have h1 := sum_le i m fun j h1 h2 => h j h1 (by omega)
    have h2 := h (i + m) (by omega) (by omega)
    have e : ((m + 1 : Nat) : Int) * D = m * D + D := by push_cast; rw [Int.add_mul, Int.one_mul]
    have e2 : i + (m + 1) = i + m + 1 := by omega
    rw [e, e2]; omega
theorem flat_sum {f : Nat → Int} {a b : Nat} (h : flat f a b) (hab : a ≤ b) : f b - f a = ((b : Int) - a) * (f (a + 1) - f a) := by
  obtain ⟨m, rfl⟩ : ∃ m, b = a + m := ⟨b - a, by omega⟩
  have h1 := sum_ge (f := f) (D := f (a + 1) - f a) a m fun j h1 h2 => by rw [h j h1 h2]; exact Int.le_refl _
  have h2 := sum_le (f := f) (D := f (a + 1) - f a) a m fun j h1 h2 => by rw [h j h1 h2]; exact Int.le_refl _
  have e : ((a + m : Nat) : Int) - a = m := by omega
  rw [e]; omega
/-- within a flat piece the sums are told by its slope -/
theorem hmax_flat {s : List Int} {a b k : Nat} (hc : conc (at0 s) s.length) (hf : flat (at0 s) a b) (hak : a < k) (hkb : k ≤ b) (hb : b < s.length) : hmax s (at0 s (a + 1) - at0 s a) k = at0 s k := by
  have hk : at0 s k - at0 s (k - 1) = at0 s (a + 1) - at0 s a := by
    have := hf (k - 1) (by omega) (by omega)
    have e : k - 1 + 1 = k := by omega
    rw [e] at this; exact this
  refine max_is ?_ fun y hy => ?_
  · refine List.mem_map.mpr ⟨k, List.mem_range.mpr (by omega), ?_⟩
    simp
  · obtain ⟨i, hi, rfl⟩ := List.mem_map.mp hy
    have hi := List.mem_range.mp hi
    by_cases h : i ≤ k
    · obtain ⟨m, rfl⟩ : ∃ m, k = i + m := ⟨k - i, by omega⟩
      have h1 := sum_ge (f := at0 s) (D := at0 s (a + 1) - at0 s a) i m fun j h1 h2 => by
        rw [← hk]
        have := hc j (i + m - 1) (by omega) (by omega)
        have e : i + m - 1 + 1 = i + m := by omega
        rw [e] at this; exact this
      have e : (((i + m : Nat) : Int) - (i : Nat)) = m := by omega
      rw [e, Int.mul_comm]; omega
    · obtain ⟨m, rfl⟩ : ∃ m, i = k + m := ⟨i - k, by omega⟩
      have h1 := sum_le (f := at0 s) (D := at0 s (a + 1) - at0 s a) k m fun j h1 h2 => by
        rw [← hk]
        have := hc (k - 1) j (by omega) (by omega)
        have e : k - 1 + 1 = k := by omega
        rw [e] at this; exact this
      have e : (((k : Nat) : Int) - ((k + m : Nat) : Int)) = -(m : Int) := by omega
      rw [e, Int.mul_neg, Int.mul_comm]; omega
theorem hmax_ge {s : List Int} {k : Nat} (sl : Int) (hk : k < s.length) : at0 s k ≤ hmax s sl k := by
  have := (foldl_max_le (hsF s sl k) ((hsF s sl k).headD 0)).2 (at0 s k) (List.mem_map.mpr ⟨k, List.mem_range.mpr hk, by simp⟩)
  exact this
theorem seg_flat {s : List Int} {a b : Nat} (hc : conc (at0 s) s.length) (hf : flat (at0 s) a b) (hab : a < b) (hb : b < s.length) : segF s a b = (List.range (b - a)).map fun j => at0 s (a + 1 + j) := by
  refine List.map_congr_left fun j hj => ?_
  have hj := List.mem_range.mp hj
  have e0 : (at0 s b - at0 s a) / ((b : Int) - a) = at0 s (a + 1) - at0 s a := by
    rw [flat_sum hf (by omega), Int.mul_comm]
    exact Int.mul_ediv_cancel _ (by omega)
  have e1 : ((a : Int) + 1 + (j : Nat)) = ((a + 1 + j : Nat) : Int) := by omega
  rw [e0, e1, hmax_flat hc hf (by omega) (by omega) hb]
  have := hmax_ge (s := s) (k := a + 1 + j) (at0 s (a + 1) - at0 s a + 1) (by omega)
  omega
/-- the pile of corners, the last one first, down to 0, each piece flat -/
def Pile (f : Nat → Int) : List Nat → Prop
  | [] => False
  | [a] => a = 0
  | b :: a :: r => a < b ∧ flat f a b ∧ Pile f (a :: r)
theorem pop_pile {s : List Int} {i : Nat} (hc : conc (at0 s) s.length) (hi : i < s.length) : ∀ st : List Nat, Pile (at0 s) st → (∀ b r, st = b :: r → b < i ∧ flat (at0 s) b i) →
    Pile (at0 s) (popR s i st) ∧ ∀ b r, popR s i st = b :: r → b < i ∧ flat (at0 s) b i
  | [], h, _ => h.elim
  | [a], h, hb => by
    show Pile (at0 s) [a] ∧ ∀ b r, [a] = b :: r → _
    exact ⟨h, hb⟩
  | b :: a :: r, h, hb => by
    obtain ⟨hab, hf, hp⟩ := h
    obtain ⟨hbi, hfb⟩ := hb b _ rfl
    unfold popR
    split
    · exact ⟨⟨hab, hf, hp⟩, fun b' r' e => by cases e; exact ⟨hbi, hfb⟩⟩
    · rename_i hn
      refine pop_pile hc hi (a :: r) hp fun b' r' e => ?_
      cases e
      refine ⟨by omega, ?_⟩
      have hn : ¬ ((at0 s b - at0 s a) * ((i : Int) - b) > (at0 s i - at0 s b) * ((b : Int) - a)) := by
        simpa [bends] using hn
      rw [flat_sum hf (by omega), flat_sum hfb (by omega)] at hn
      have hd : at0 s (b + 1) - at0 s b = at0 s (a + 1) - at0 s a := by
        have h1 : at0 s (b + 1) - at0 s b ≤ at0 s (a + 1) - at0 s a := hc a b (by omega) (by omega)
        refine Int.le_antisymm h1 ?_
        refine Classical.byContradiction fun h2 => hn ?_
        have h2 : at0 s (b + 1) - at0 s b < at0 s (a + 1) - at0 s a := by omega
        have pos : 0 < ((b : Int) - a) * ((i : Int) - b) := Int.mul_pos (by omega) (by omega)
        have := Int.mul_lt_mul_of_pos_left h2 pos
        have e1 : ((b : Int) - a) * (at0 s (a + 1) - at0 s a) * ((i : Int) - b) = ((b : Int) - a) * ((i : Int) - b) * (at0 s (a + 1) - at0 s a) := by
          rw [Int.mul_assoc, Int.mul_assoc, Int.mul_comm (at0 s (a + 1) - at0 s a)]
        have e2 : ((i : Int) - b) * (at0 s (b + 1) - at0 s b) * ((b : Int) - a) = ((b : Int) - a) * ((i : Int) - b) * (at0 s (b + 1) - at0 s b) := by
          rw [Int.mul_comm, ← Int.mul_assoc]
        rw [e1, e2]
        exact this
      intro j h1 h2
      by_cases hj : j < b
      · exact hf j h1 hj
      · rw [hfb j (by omega) h2, hd]
theorem corners_pile {s : List Int} (hc : conc (at0 s) s.length) : ∀ n : Nat, n < s.length → Pile (at0 s) (cornersR s (n + 1)) ∧ ∃ r, cornersR s (n + 1) = n :: r
  | 0, _ => ⟨rfl, [], rfl⟩
  | n + 1, h => by
    obtain ⟨hp, r, e⟩ := corners_pile hc n (by omega)
    have := pop_pile hc h (cornersR s (n + 1)) hp fun b r' e' => by
      rw [e] at e'; cases e'
      refine ⟨by omega, fun j h1 h2 => ?_⟩
      have : j = n := by omega
      subst this; rfl
    refine ⟨?_, _, rfl⟩
    show Pile (at0 s) ((n + 1) :: popR s (n + 1) (cornersR s (n + 1)))
    cases hq : popR s (n + 1) (cornersR s (n + 1)) with
    | nil => rw [hq] at this; exact this.1.elim
    | cons b t =>
      rw [hq] at this
      obtain ⟨x, y⟩ := this.2 b t rfl
      exact ⟨x, y, this.1⟩
theorem zip_tail_snoc (x : Nat) : ∀ (l : List Nat) (y : Nat), ((l ++ [y]) ++ [x]).zip ((l ++ [y]) ++ [x]).tail = (l ++ [y]).zip (l ++ [y]).tail ++ [(y, x)]
  | [], y => rfl
  | [z], y => rfl
  | z :: w :: r, y => by
    have := zip_tail_snoc x (w :: r) y
    simp only [List.cons_append, List.tail_cons, List.zip_cons_cons] at this ⊢
    rw [this]
theorem tops_pile {s : List Int} (hc : conc (at0 s) s.length) : ∀ (st : List Nat) (b : Nat) (r : List Nat), st = b :: r → b < s.length → Pile (at0 s) st → topsF s st.reverse = (List.range b).map fun j => at0 s (j + 1)
  | [a], b, r, e, hb, hp => by
    cases e
    have hp : a = 0 := hp
    subst hp; rfl
  | c :: a :: t, b, r, e, hb, hp => by
    cases e
    obtain ⟨hab, hf, hp⟩ := hp
    have ih := tops_pile hc (a :: t) a t rfl (by omega) hp
    unfold topsF at ih ⊢
    have e : (c :: a :: t).reverse = (t.reverse ++ [a]) ++ [c] := by simp
    have e2 : (a :: t).reverse = t.reverse ++ [a] := by simp
    rw [e2] at ih
    rw [e, zip_tail_snoc, List.map_append, List.flatten_append, ih]
    simp only [List.map_cons, List.map_nil, List.flatten_cons, List.flatten_nil, List.append_nil]
    rw [seg_flat hc hf hab hb]
    obtain ⟨m, rfl⟩ : ∃ m, c = a + m := ⟨c - a, by omega⟩
    have em : a + m - a = m := by omega
    rw [em, List.range_add, List.map_append, List.map_map]
    congr 1
    refine List.map_congr_left fun j _ => ?_
    show at0 s (a + 1 + j) = at0 s (a + j + 1)
    congr 1; omega
  | [], _, _, e, _, _ => by cases e
/-! of a falling row -/
theorem at_heads : ∀ (L : List Int) (t : Int) (i : Nat), i ≤ L.length → at0 (t :: heads t L) i = t + (L.take i).sum
  | L, t, 0, _ => by simp [at0]
  | [], t, i + 1, h => by simp at h
  | n :: r, t, i + 1, h => by
    have := at_heads r (t + n) i (by simpa using h)
    show at0 (heads t (n :: r)) i = _
    rw [show heads t (n :: r) = (t + n) :: heads (t + n) r from rfl, this, List.take_succ_cons, List.sum_cons]
    omega
theorem dif_heads : ∀ (L : List Int) (t : Int), List.zipWith (fun a b => b - a) (t :: heads t L) (heads t L) = L
  | [], t => rfl
  | n :: r, t => by
    have := dif_heads r (t + n)
    show (t + n - t) :: List.zipWith (fun a b => b - a) ((t + n) :: heads (t + n) r) (heads (t + n) r) = n :: r
    rw [this]
    congr 1; omega
theorem heads_range (L : List Int) : (List.range L.length).map (fun j => at0 (0 :: heads 0 L) (j + 1)) = heads 0 L := by
  refine List.ext_getElem (by simp [heads_len]) fun i h1 h2 => ?_
  simp only [List.getElem_map, List.getElem_range]
  show (heads 0 L).getD i 0 = _
  rw [List.getD_eq_getElem?_getD, List.getElem?_eq_getElem h2]
  rfl
theorem heads_conc {L : List Int} (h : L.Pairwise (· ≥ ·)) : conc (at0 (0 :: heads 0 L)) (0 :: heads 0 L).length := by
  have st : ∀ i (hi : i < L.length), at0 (0 :: heads 0 L) (i + 1) - at0 (0 :: heads 0 L) i = L[i] := fun i hi => by
    rw [at_heads L 0 (i + 1) (by omega), at_heads L 0 i (by omega), L2.sum_take (List.getElem?_eq_getElem hi)]
    omega
  intro i j hij hj
  simp only [List.length_cons, heads_len] at hj
  have hj : j < L.length := by omega
  rw [st j hj, st i (by omega)]
  by_cases e : i = j
  · subst e; exact Int.le_refl _
  · exact List.pairwise_iff_getElem.mp h i j (by omega) hj (by omega)
theorem lra_falling {L : List Int} (h : L.Pairwise (· ≥ ·)) : lraF (0 :: heads 0 L) = L := by
  have hc := heads_conc h
  have hlen : (0 :: heads 0 L).length = L.length + 1 := by simp [heads_len]
  obtain ⟨hp, r, e⟩ := corners_pile hc L.length (by omega)
  unfold lraF
  rw [hlen, tops_pile hc _ L.length r e (by omega) hp, heads_range]
  exact dif_heads L 0
theorem pop_mem {s : List Int} {i b : Nat} : ∀ {st : List Nat}, b ∈ popR s i st → b ∈ st
  | [], h => h
  | [a], h => h
  | c :: a :: r, h => by
    unfold popR at h
    split at h
    · exact h
    · exact List.mem_cons_of_mem _ (pop_mem h)
theorem corners_lt {s : List Int} : ∀ {n b : Nat}, b ∈ cornersR s n → b < n
  | 0, b, h => by cases h
  | n + 1, b, h => by
    rcases List.mem_cons.mp h with rfl | h
    · omega
    · have := corners_lt (pop_mem h); omega
theorem pop_len {s : List Int} {i : Nat} : ∀ st : List Nat, (popR s i st).length ≤ st.length
  | [] => Nat.le_refl _
  | [a] => Nat.le_refl _
  | c :: a :: r => by
    unfold popR
    split
    · exact Nat.le_refl _
    · exact Nat.le_trans (pop_len (a :: r)) (Nat.le_succ _)
theorem corners_len {s : List Int} : ∀ n : Nat, (cornersR s n).length ≤ n
  | 0 => Nat.le_refl _
  | n + 1 => by
    have := pop_len (s := s) (i := n) (cornersR s n)
    have := corners_len (s := s) n
    show (popR s n (cornersR s n)).length + 1 ≤ n + 1
    omega
theorem pop_desc {s : List Int} {i : Nat} : ∀ {st : List Nat}, st.Pairwise (· > ·) → (popR s i st).Pairwise (· > ·)
  | [], h => h
  | [a], h => h
  | c :: a :: r, h => by
    unfold popR
    split
    · exact h
    · exact pop_desc (List.pairwise_cons.mp h).2
theorem corners_desc {s : List Int} : ∀ n : Nat, (cornersR s n).Pairwise (· > ·)
  | 0 => List.Pairwise.nil
  | n + 1 => List.pairwise_cons.mpr ⟨fun b hb => corners_lt (pop_mem hb), pop_desc (corners_desc n)⟩
theorem corners_asc (s : List Int) (n : Nat) : (cornersR s n).reverse.Pairwise (· < ·) := List.pairwise_reverse.mpr (corners_desc n)
theorem tops_cons (s : List Int) (a b : Nat) (r : List Nat) : topsF s (a :: b :: r) = segF s a b ++ topsF s (b :: r) := rfl
theorem seg_len (s : List Int) (a b : Nat) : (segF s a b).length = b - a := by simp [segF]
theorem tops_len {s : List Int} {N : Nat} : ∀ (cs : List Nat) (a : Nat), (a :: cs).Pairwise (· < ·) → (∀ x ∈ a :: cs, x < N) → (topsF s (a :: cs)).length + a < N
  | [], a, _, h => by
    have := h a List.mem_cons_self
    show 0 + a < N
    omega
  | b :: r, a, hp, h => by
    have ih := tops_len (s := s) r b (List.pairwise_cons.mp hp).2 fun x hx => h x (List.mem_cons_of_mem _ hx)
    have hab := (List.pairwise_cons.mp hp).1 b List.mem_cons_self
    rw [tops_cons, List.length_append, seg_len]
    omega
theorem tops_snoc (s : List Int) (l : List Nat) (y x : Nat) : topsF s ((l ++ [y]) ++ [x]) = topsF s (l ++ [y]) ++ segF s y x := by
  unfold topsF
  rw [zip_tail_snoc, List.map_append, List.flatten_append]
  simp
theorem tops_take {s : List Int} {cs : List Nat} {i y x : Nat} (h1 : cs[i]? = some y) (h2 : cs[i + 1]? = some x) : topsF s (cs.take (i + 2)) = topsF s (cs.take (i + 1)) ++ segF s y x := by
  rw [show cs.take (i + 2) = (cs.take i ++ [y]) ++ [x] by rw [List.take_add_one (i := i + 1), h2, List.take_add_one (i := i), h1]; rfl]
  rw [show cs.take (i + 1) = cs.take i ++ [y] by rw [List.take_add_one, h1]; rfl]
  exact tops_snoc s _ y x
end MQ
namespace Sp
open PySem PySem.Spec PyProof.Rows L2 SQ XQ XD
variable {V : Ve} {B : Sc} {X : XP} {C : D → Prop}
@[simp] theorem outc_pre {l : List Cl} {hn : ∀ c ∈ l, c.1 ∈ V.names} {a : XE (Good V)} {ss : List Sl} : (outc V l hn a).pre B X ss C = (B.tb V.T0 ∧ ∀ B', Sc.le B B' → a.pre B' (fun x => oX V l x C) (deown ss) C) := rfl
@[simp] theorem sc_all {Q : Prop} : (∀ B' : Sc, Sc.le B B' → Q) ↔ Q := ⟨fun h => h B ⟨fun _ h => h, fun _ h => h⟩, fun h _ _ => h⟩
@[simp] theorem deown_val {d : D} {r : List Sl} : deown (.val d :: r) = .val d :: deown r := rfl
@[simp] theorem deown_own {d : List D} {r : List Sl} : deown (.own d :: r) = .un :: deown r := rfl
@[simp] theorem deown_un {r : List Sl} : deown (.un :: r) = .un :: deown r := rfl
@[simp] theorem deown_nil : deown [] = [] := rfl
theorem typed_int (n : Int) : Typed (.int n) := ⟨_, rfl⟩
theorem law_unlike_right (hn : ∀ c ∈ cl__law_outcome, c.1 ∈ V.names) {p : Addr} {a b : List Int} (bp : B p) (hT : B.tb V.T0) (ha : Row a) (hb : Row b) (c : C (.bl true)) : (F__law_unlike_right V hn).F B [.cell p, row a, row b] C X := by
  have la := ha.l2
  have lb := hb.l2
  by_cases h : a.length = b.length ∧ a.sum = b.sum
  · simp [F__law_unlike_right, X__law_unlike_right, xf_F, h.1, h.2]
    exact c
  have h' : ¬ (b.length = a.length ∧ b.sum = a.sum) := fun x => h ⟨x.1.symm, x.2.symm⟩
  have u1 : undB a b = false := by simp [undB, h]
  have u2 : undB b a = false := by simp [undB, h']
  have w1 : pyk 62 (D.str (Str.ofString "operation")) = true := by decide +kernel
  have w2 : pyk 62 (D.str (Str.ofString "sums")) = true := by decide +kernel
  have key : (F__law_unlike_right V hn).F B [.cell p, row a, row b] C X = (XQ.run (X__law_unlike_right V hn) B X [.val (.cell p), .val (row a), .val (row b), .un, .un] (en0 C)) := by simp [F__law_unlike_right, xf_F]
  rw [key]
  by_cases hs : a.sum = b.sum
  · have hl : ¬ a.length = b.length := fun e => h ⟨e, hs⟩
    simp [X__law_unlike_right, hs, hl, is_under ha hb, is_under hb ha, u1, u2]
    refine law_odd_row bp fun d td no => ?_
    have hl2 : ¬ b.length = a.length := fun e => hl e.symm
    simp [hT, bar ha hb, hs, hl, is_bar_no td (typed1_row a) (.inl no), bar_no (typed1_row b) td (.inr no), is_under_no (typed1_row b) td (.inr no), is_bar hb ha, hl2, cl__law_outcome, w1, w2]
    exact c
  · have hl2 : ¬ b.sum = a.sum := fun e => hs e.symm
    simp [X__law_unlike_right, hs, is_under ha hb, is_under hb ha, u1, u2]
    refine law_odd_row bp fun d td no => ?_
    simp [hT, bar ha hb, hs, is_bar_no td (typed1_row a) (.inl no), bar_no (typed1_row b) td (.inr no), is_under_no (typed1_row b) td (.inr no), is_bar hb ha, hl2, cl__law_outcome, w1, w2]
    exact c
theorem sum_mem_le : ∀ {l : List Int} {n : Int}, (∀ x ∈ l, 0 ≤ x) → n ∈ l → n ≤ l.sum
  | x :: r, n, h, m => by
    have hr := nn_sum r fun y my => h y (List.mem_cons_of_mem _ my)
    have hx := h x List.mem_cons_self
    rcases List.mem_cons.mp m with rfl | m
    · simp; omega
    · have := sum_mem_le (fun y my => h y (List.mem_cons_of_mem _ my)) m
      simp; omega
theorem sum_le_len : ∀ {l : List Int} {c : Int}, (∀ x ∈ l, x ≤ c) → l.sum ≤ l.length * c
  | [], c, _ => by simp
  | x :: r, c, h => by
    have := sum_le_len fun y my => h y (List.mem_cons_of_mem _ my)
    have hx := h x List.mem_cons_self
    simp only [List.sum_cons, List.length_cons, Int.natCast_add, Int.natCast_one, Int.add_mul, Int.one_mul]; omega
theorem row_near {ns ms : List Int} (h6 : ns.length ≤ 64) (h : ∀ n ∈ ns, 0 ≤ n ∧ n < 10 ^ 28) (h1 : 1 ≤ ns.length) (e : ms.length = ns.length) (es : ms.sum = ns.sum) (nn : ∀ n ∈ ms, 0 ≤ n) : Row ms := by
  refine ⟨by omega, by omega, fun n m => ⟨nn n m, ?_⟩⟩
  have a1 := sum_mem_le nn m
  have a2 := sum_le_len (l := ns) (c := 10 ^ 28) fun x m => by have := (h x m).2; omega
  have : (ns.length : Int) * 10 ^ 28 ≤ 64 * 10 ^ 28 := Int.mul_le_mul_of_nonneg_right (by omega) (by decide)
  have e3 : (64 : Int) * 10 ^ 28 < 10 ^ 30 := by decide
  generalize (10 : Int) ^ 30 = q at *
  generalize (64 : Int) * 10 ^ 28 = z at *
  omega
theorem und_trans {a b c : List Int} (h : undB a b = true) (h' : undB b c = true) : undB a c = true := by
  simp only [undB, Bool.and_eq_true, decide_eq_true_eq] at h h' ⊢
  obtain ⟨⟨l1, s1⟩, d1⟩ := h
  obtain ⟨⟨l2, s2⟩, d2⟩ := h'
  refine ⟨⟨l1.trans l2, s1.trans s2⟩, ?_⟩
  rw [leB_nth l1] at d1
  rw [leB_nth l2] at d2
  rw [leB_nth (l1.trans l2)]
  intro k hk
  exact Int.le_trans (d1 k hk) (d2 k (by omega))
theorem und_refl (a : List Int) : undB a a = true := by
  simp [undB, leB_nth]
theorem heads_inj : ∀ {a b : List Int} {t : Int}, heads t a = heads t b → a = b := by
  intro a b t h
  rw [← MQ.dif_heads a t, ← MQ.dif_heads b t, h]
theorem list_nth {x y : List Int} (hl : x.length = y.length) (h : ∀ k, k < x.length → nth0 x k = nth0 y k) : x = y := by
  refine List.ext_getElem hl fun k h1 h2 => ?_
  rw [← nth0_get h1, ← nth0_get h2]
  exact h k h1
theorem und_anti {a b : List Int} : (undB a b && undB b a) = decide (down a = down b) := by
  rw [Bool.eq_iff_iff, Bool.and_eq_true, decide_eq_true_eq]
  constructor
  · rintro ⟨h, h'⟩
    simp only [undB, Bool.and_eq_true, decide_eq_true_eq] at h h'
    obtain ⟨⟨l1, s1⟩, d1⟩ := h
    obtain ⟨⟨l2, s2⟩, d2⟩ := h'
    rw [leB_nth l1] at d1
    rw [leB_nth l2] at d2
    refine heads_inj (t := 0) (list_nth (by rw [heads_len, heads_len, down_len, down_len, l1]) fun k hk => ?_)
    rw [heads_len, down_len] at hk
    exact Int.le_antisymm (d1 k hk) (d2 k (by omega))
  · intro h
    have l1 : a.length = b.length := by rw [← down_len a, h, down_len]
    have s1 : a.sum = b.sum := by rw [← perm_sum (down_perm a), h, perm_sum (down_perm b)]
    simp [undB, l1, s1, leB_nth, h]
theorem law_right_2 (hn : ∀ c ∈ cl__law_outcome, c.1 ∈ V.names) {p : Addr} (bp : B p) (hT : B.tb V.T0) (c : C (.bl true)) : (F__law_right_2 V hn).F B [.cell p] C X := by
  simp [F__law_right_2, X__law_right_2, xf_F]
  refine law_drawn_row (m := 6) bp (by decide) (by decide) fun ns l1 l6 hns => ?_
  have nn := fun n m => (hns n m).1
  refine law_near_row bp l1 (by omega) nn fun ms e1 s1 nn1 => ?_
  refine law_near_row bp (by omega) (by omega) nn1 fun ks e2 s2 nn2 => ?_
  have r1 : Row ns := row_near (by omega) hns l1 rfl rfl nn
  have r2 : Row ms := row_near (by omega) hns l1 e1 s1 nn1
  have r3 : Row ks := row_near (by omega) hns l1 (e2.trans e1) (s2.trans s1) nn2
  simp
  have rd : Row (down ns) := row_near (by omega) hns l1 (down_len ns) (perm_sum (down_perm ns)) fun n m => nn n ((down_perm ns).mem_iff.mp m)
  refine forW_inv (fun _ ss => ∃ s4 : Sl, ss = [.val (.cell p), .val (row ns), .val (row ms), .val (row ks), s4]) ⟨_, rfl⟩ ?_ ?_
  · rintro i d ss' hi ⟨s4, rfl⟩ e' n1 n2 n3 n4
    have key : ∃ a b : List Int, d = .tup [row a, row b] ∧ Row a ∧ Row b ∧ a.length ≤ 6 ∧ a.length = b.length ∧ a.sum = b.sum := by
      have := List.mem_of_getElem? hi
      simp only [List.mem_cons, List.not_mem_nil, or_false] at this
      rcases this with rfl | rfl | rfl | rfl | rfl
      · exact ⟨_, _, rfl, r1, r2, by omega, by omega, by omega⟩
      · exact ⟨_, _, rfl, r2, r1, by omega, by omega, by omega⟩
      · exact ⟨_, _, rfl, r1, r3, by omega, by omega, by omega⟩
      · exact ⟨_, _, rfl, r3, r3, by omega, by omega, by omega⟩
      · exact ⟨_, _, rfl, r1, rd, by omega, by rw [down_len], (perm_sum (down_perm ns)).symm⟩
    obtain ⟨a, b, rfl, ra, rb, a6, al, as⟩ := key
    simp [X__law_right_2_L1]
    refine law_pair_right ra rb a6 al as ?_
    simp
    exact n1 _ ⟨_, rfl⟩
  · rintro ss' ⟨s4, rfl⟩
    simp [is_under r1 r2, is_under r2 r3, is_under r1 r3, is_under r2 r1]
    have G : (F__law_drawn_row V).F B [D.cell p, D.int 6] (fun x => (F__law_unlike_right V hn).F B [D.cell p, row ns, x] (fun d => C d) fun x => False) fun x => False :=
      law_drawn_row (m := 6) bp (by decide) (by decide) fun os o1 o6 hos => law_unlike_right hn bp hT r1 (row_near (by omega) hos o1 rfl rfl fun n m => (hos n m).1) c
    have ua := und_anti (a := ns) (b := ms)
    have ut := @und_trans ns ms ks
    by_cases hd : down ns = down ms
    · simp [hd] at ua
      simp only [hd, ua.1, ua.2] at ut ⊢
      by_cases h2 : undB ms ks = true
      · simp [h2, ut trivial h2, G]
      · simp [h2, G]
    · simp [hd] at ua
      by_cases h1 : undB ns ms = true
      · simp only [h1, hd, ua h1] at ut ⊢
        by_cases h2 : undB ms ks = true
        · simp [h2, ut trivial h2, G]
        · simp [h2, G]
      · simp [h1, hd, G]
theorem lit0 : (F_is_under V).F B [.tup [.int 2, .int 2, .int 2], .tup [.int 0, .int 5, .int 1]] C X = C (.bl true) := by
  have := is_under (V := V) (B := B) (X := X) (C := C) (a := [2,2,2]) (b := [0,5,1]) ⟨by decide, by decide, by decide⟩ ⟨by decide, by decide, by decide⟩
  rw [show undB [2,2,2] [0,5,1] = true by rw [undB, leB, ← down_of (ns := [2,2,2]) (ns' := [2,2,2]) (by decide) (by decide), ← down_of (ns := [0,5,1]) (ns' := [5,1,0]) (by decide) (by decide)]; rfl] at this
  exact this
theorem lit1 : (F_bar V).F B [.tup [.int 3, .int 3, .int 0], .tup [.int 4, .int 1, .int 1]] C X = C (.int 2) := by
  have := bar (V := V) (B := B) (X := X) (C := C) (a := [3,3,0]) (b := [4,1,1]) ⟨by decide, by decide, by decide⟩ ⟨by decide, by decide, by decide⟩
  rw [show firstB [3,3,0] [4,1,1] = .int 2 by rw [firstB, ← down_of (ns := [3,3,0]) (ns' := [3,3,0]) (by decide) (by decide), ← down_of (ns := [4,1,1]) (ns' := [4,1,1]) (by decide) (by decide)]; rfl, if_pos (by decide)] at this
  exact this
theorem lit2 : (F_is_under V).F B [.tup [.int 1, .int 2], .tup [.int 2, .int 1]] C X = C (.bl true) := by
  have := is_under (V := V) (B := B) (X := X) (C := C) (a := [1,2]) (b := [2,1]) ⟨by decide, by decide, by decide⟩ ⟨by decide, by decide, by decide⟩
  rw [show undB [1,2] [2,1] = true by rw [undB, leB, ← down_of (ns := [1,2]) (ns' := [2,1]) (by decide) (by decide), ← down_of (ns := [2,1]) (ns' := [2,1]) (by decide) (by decide)]; rfl] at this
  exact this
theorem lit3 : (F_bar V).F B [.tup [.int 1, .int 2], .tup [.int 2, .int 1]] C X = C (.non) := by
  have := bar (V := V) (B := B) (X := X) (C := C) (a := [1,2]) (b := [2,1]) ⟨by decide, by decide, by decide⟩ ⟨by decide, by decide, by decide⟩
  rw [show firstB [1,2] [2,1] = .non by rw [firstB, ← down_of (ns := [1,2]) (ns' := [2,1]) (by decide) (by decide), ← down_of (ns := [2,1]) (ns' := [2,1]) (by decide) (by decide)]; rfl, if_pos (by decide)] at this
  exact this
theorem lit4 : (F_is_under V).F B [.tup [.int 1, .int 1], .tup [.int 2, .int 0, .int 0]] C X = C (.bl false) := by
  have := is_under (V := V) (B := B) (X := X) (C := C) (a := [1,1]) (b := [2,0,0]) ⟨by decide, by decide, by decide⟩ ⟨by decide, by decide, by decide⟩
  rw [show undB [1,1] [2,0,0] = false by rw [undB, leB, ← down_of (ns := [1,1]) (ns' := [1,1]) (by decide) (by decide), ← down_of (ns := [2,0,0]) (ns' := [2,0,0]) (by decide) (by decide)]; rfl] at this
  exact this
theorem lit5 : (F_is_under V).F B [.tup [.int 0], .tup [.int 0]] C X = C (.bl true) := by
  have := is_under (V := V) (B := B) (X := X) (C := C) (a := [0]) (b := [0]) ⟨by decide, by decide, by decide⟩ ⟨by decide, by decide, by decide⟩
  rw [show undB [0] [0] = true by rw [undB, leB, ← down_of (ns := [0]) (ns' := [0]) (by decide) (by decide)]; rfl] at this
  exact this
theorem law_2 (hn : ∀ c ∈ cl__law_outcome, c.1 ∈ V.names) {ns : List Int} (hT : B.tb V.T0) (c : C (.bl true)) : (F_law_2 V hn).F B [.scr ns] C X := by
  simp [F_law_2, X_law_2, xf_F]
  refine ⟨by omega, ?_⟩
  refine forW_inv (fun _ ss => ∃ s1 : Sl, ss = [.val (.scr ns), s1, .un]) ⟨_, rfl⟩ ?_ ?_
  · rintro i d ss' hi ⟨s1, rfl⟩ e' n1 n2 n3 n4
    obtain ⟨z, rfl, z0, z1⟩ := rng_in (List.mem_of_getElem? hi)
    obtain ⟨j, rfl⟩ : ∃ j : Nat, z = j := ⟨z.toNat, by omega⟩
    simp [X_law_2_L1]
    refine ⟨⟨_, _, ⟨rfl, rfl⟩, by omega⟩, fun B' p bp hB => law_right_2 hn bp (hB _ hT) ?_⟩
    simp
    exact n1 _ ⟨_, rfl⟩
  · rintro ss' ⟨s1, rfl⟩
    simp [lit0, lit1, lit2, lit3, lit4, lit5]
    exact c
end Sp
/-! rows that are arranged alike: mathematics -/
namespace Sp
open PySem PySem.Spec PyProof.Rows L2 SQ XQ XD
/-- alike: no two stand the other way round -/
def alk (a b : List Int) : Bool := decide (∀ p ∈ a.zip b, ∀ q ∈ a.zip b, ¬ (p.1 > q.1 ∧ p.2 < q.2))
theorem alk_up (ps : List (Int × Int)) : ((upP ps).map (·.2)).Pairwise (· ≤ ·) ↔ ∀ p ∈ ps, ∀ q ∈ ps, ¬ (p.1 > q.1 ∧ p.2 < q.2) := by
  have hs := upP_rises ps
  constructor
  · intro h p hp q hq
    have hp := (upP_perm ps).mem_iff.mpr hp
    have hq := (upP_perm ps).mem_iff.mpr hq
    rw [List.pairwise_map] at h
    obtain ⟨i, hi, ei⟩ := List.mem_iff_getElem.mp hp
    obtain ⟨j, hj, ej⟩ := List.mem_iff_getElem.mp hq
    rw [List.pairwise_iff_getElem] at h hs
    rintro ⟨h1, h2⟩
    rcases Nat.lt_trichotomy i j with l | l | l
    · have a := hs i j hi hj l
      rw [ei, ej, leP_iff] at a
      omega
    · subst l; rw [ei] at ej; subst ej; omega
    · have a := h j i hj hi l
      rw [ei, ej] at a
      omega
  · intro h
    rw [List.pairwise_map]
    refine hs.imp_of_mem fun {x y} hx hy l => ?_
    have := h y ((upP_perm ps).mem_iff.mp hy) x ((upP_perm ps).mem_iff.mp hx)
    rw [leP_iff] at l
    omega
/-- one after the other -/
theorem adj_pair : ∀ l : List Int, ((l.zip l.tail).all fun q => decide (q.1 ≤ q.2)) = true ↔ l.Pairwise (· ≤ ·)
  | [] => by simp
  | [x] => by simp
  | x :: y :: r => by
    have ih := adj_pair (y :: r)
    simp only [List.tail_cons, List.zip_cons_cons, List.all_cons, Bool.and_eq_true, decide_eq_true_eq] at ih ⊢
    rw [ih]
    constructor
    · rintro ⟨h, p⟩
      refine List.pairwise_cons.mpr ⟨fun z hz => ?_, p⟩
      rcases List.mem_cons.mp hz with rfl | hz
      · exact h
      · exact Int.le_trans h ((List.pairwise_cons.mp p).1 z hz)
    · intro p
      obtain ⟨a, b⟩ := List.pairwise_cons.mp p
      exact ⟨a y List.mem_cons_self, b⟩
/-- entries written at their places -/
def asgF (f : List Int) : List (Int × Int) → List Int
  | [] => f
  | p :: r => asgF (f.set p.1.toNat p.2) r
theorem asg_len : ∀ (ps : List (Int × Int)) (f : List Int), (asgF f ps).length = f.length
  | [], _ => rfl
  | p :: r, f => by rw [asgF, asg_len r]; simp
theorem asg_same : ∀ (ps : List (Int × Int)) (f g : List Int), f.length = g.length → (∀ k, k < f.length → (∀ p ∈ ps, p.1.toNat ≠ k) → f[k]? = g[k]?) → asgF f ps = asgF g ps
  | [], f, g, hl, h => List.ext_getElem? fun k => by
    show f[k]? = g[k]?
    by_cases hk : k < f.length
    · exact h k hk (by simp)
    · rw [List.getElem?_eq_none (by omega), List.getElem?_eq_none (by omega)]
  | p :: r, f, g, hl, h => by
    refine asg_same r _ _ (by simpa using hl) fun k hk hn => ?_
    simp only [List.length_set] at hk
    by_cases e : p.1.toNat = k
    · rw [List.getElem?_set, List.getElem?_set, if_pos e, if_pos e, hl]
    · rw [List.getElem?_set_ne e, List.getElem?_set_ne e]
      exact h k hk fun q hq => by
        rcases List.mem_cons.mp hq with rfl | hq
        · exact e
        · exact hn q hq
theorem asg_keep : ∀ (ps : List (Int × Int)) (f : List Int) (k : Nat), (∀ p ∈ ps, p.1.toNat ≠ k) → (asgF f ps)[k]? = f[k]?
  | [], _, _, _ => rfl
  | p :: r, f, k, h => by
    rw [asgF, asg_keep r _ k fun q hq => h q (List.mem_cons_of_mem _ hq), List.getElem?_set_ne (h p List.mem_cons_self)]
theorem asg_at : ∀ (ps : List (Int × Int)) (f : List Int), (ps.map fun p => p.1.toNat).Nodup → ∀ p ∈ ps, p.1.toNat < f.length → (asgF f ps)[p.1.toNat]? = some p.2
  | q :: r, f, nd, p, hp, hl => by
    rw [List.map_cons, List.nodup_cons] at nd
    rcases List.mem_cons.mp hp with rfl | hp
    · rw [asgF, asg_keep r _ _ fun z hz e => nd.1 (List.mem_map.mpr ⟨z, hz, e⟩), List.getElem?_set_self hl]
    · exact asg_at r _ nd.2 p hp (by simpa using hl)
/-- the places, the greatest first -/
def ptsL (l : List Int) : List (Int × Int) := upP (l.zipIdx.map fun p => (-p.1, (p.2 : Int)))
def plc (l : List Int) : List Int := (ptsL l).map (·.2)
theorem pts_len (l : List Int) : (ptsL l).length = l.length := by unfold ptsL; rw [(upP_perm _).length_eq]; simp
theorem plc_len (l : List Int) : (plc l).length = l.length := by simp [plc, pts_len]
theorem pts_mem {l : List Int} {p : Int × Int} (h : p ∈ ptsL l) : ∃ i : Nat, ∃ hi : i < l.length, p = (-l[i], (i : Int)) := by
  have h := (upP_perm _).mem_iff.mp h
  obtain ⟨q, hq, rfl⟩ := List.mem_map.mp h
  have := List.mem_zipIdx hq
  simp at this
  exact ⟨q.2, by omega, by rw [this.2]⟩
theorem mem_pts {l : List Int} {i : Nat} (hi : i < l.length) : (-l[i], (i : Int)) ∈ ptsL l := by
  refine (upP_perm _).mem_iff.mpr (List.mem_map.mpr ⟨(l[i], i), ?_, rfl⟩)
  rw [List.mem_zipIdx_iff_getElem?]
  simp [hi]
theorem plc_nodup (l : List Int) : ((plc l).map Int.toNat).Nodup := by
  have : ((l.zipIdx.map fun p => (-p.1, (p.2 : Int))).map fun p => p.2.toNat) = List.range l.length := by
    rw [List.map_map]
    have : ((fun p : Int × Int => p.2.toNat) ∘ fun p : Int × Nat => (-p.1, (p.2 : Int))) = fun p => p.2 := by funext p; simp
    rw [this, List.zipIdx_map_snd]
    simp [List.range_eq_range']
  unfold plc
  rw [List.map_map]
  have p := (upP_perm (l.zipIdx.map fun p => (-p.1, (p.2 : Int)))).map fun p => p.2.toNat
  rw [this] at p
  exact (p.nodup_iff).mpr List.nodup_range
def arrF (a l : List Int) : List Int := asgF a ((plc l).zip (down a))
theorem arr_len (a l : List Int) : (arrF a l).length = a.length := asg_len _ _
theorem zip_keys {x y : List Int} (h : x.length = y.length) : ((x.zip y).map fun p => p.1.toNat) = x.map Int.toNat := by
  rw [show (fun p : Int × Int => p.1.toNat) = Int.toNat ∘ Prod.fst from rfl, ← List.map_map, List.map_fst_zip (by omega)]
theorem arr_at {a l : List Int} (h : a.length = l.length) {k : Nat} {p : Int × Int} (hp : (ptsL l)[k]? = some p) {v : Int} (hv : (down a)[k]? = some v) : (arrF a l)[p.2.toNat]? = some v := by
  have e1 : (plc l).length = (down a).length := by rw [plc_len, down_len, h]
  have nd : (((plc l).zip (down a)).map fun p => p.1.toNat).Nodup := by rw [zip_keys e1]; exact plc_nodup l
  have m : (p.2, v) ∈ (plc l).zip (down a) := by
    refine List.mem_iff_getElem?.mpr ⟨k, ?_⟩
    rw [List.getElem?_zip_eq_some]
    exact ⟨by rw [plc, List.getElem?_map, hp]; rfl, hv⟩
  obtain ⟨i, hi, e⟩ := pts_mem (List.mem_of_getElem? hp)
  exact asg_at _ a nd (p.2, v) m (by rw [e]; simp; omega)
theorem arr_find {a l : List Int} (h : a.length = l.length) {i : Nat} (hi : i < l.length) : ∃ (k : Nat) (v : Int), (ptsL l)[k]? = some (-l[i], (i : Int)) ∧ (down a)[k]? = some v ∧ (arrF a l)[i]? = some v := by
  obtain ⟨k, hk⟩ := List.mem_iff_getElem?.mp (mem_pts hi)
  have kl : k < l.length := by have := (List.getElem?_eq_some_iff.mp hk).1; rwa [pts_len] at this
  have kd : k < (down a).length := by rw [down_len]; omega
  have := arr_at h hk (List.getElem?_eq_getElem kd)
  exact ⟨k, _, hk, List.getElem?_eq_getElem kd, by simpa using this⟩
theorem arr_mem {a l : List Int} (h : a.length = l.length) : ∀ x ∈ arrF a l, x ∈ a := by
  intro x hx
  obtain ⟨i, hi⟩ := List.mem_iff_getElem?.mp hx
  have il : i < l.length := by have := (List.getElem?_eq_some_iff.mp hi).1; rw [arr_len] at this; omega
  obtain ⟨k, v, _, h2, h3⟩ := arr_find h il
  rw [hi] at h3
  cases h3
  exact (down_perm a).mem_iff.mp (List.mem_of_getElem? h2)
theorem arr_alk {a l : List Int} (h : a.length = l.length) : alk (arrF a l) l = true := by
  refine decide_eq_true fun p hp q hq => ?_
  obtain ⟨i, hi⟩ := List.mem_iff_getElem?.mp hp
  obtain ⟨j, hj⟩ := List.mem_iff_getElem?.mp hq
  rw [List.getElem?_zip_eq_some] at hi hj
  have il := (List.getElem?_eq_some_iff.mp hi.2).1
  have jl := (List.getElem?_eq_some_iff.mp hj.2).1
  obtain ⟨k, v, a1, a2, a3⟩ := arr_find h il
  obtain ⟨k', v', b1, b2, b3⟩ := arr_find h jl
  rw [hi.1] at a3
  rw [hj.1] at b3
  have e1 : p.1 = v := by cases a3; rfl
  have e2 : q.1 = v' := by cases b3; rfl
  have e3 : p.2 = l[i] := by have := hi.2; rw [List.getElem?_eq_getElem il] at this; exact (Option.some.inj this).symm
  have e4 : q.2 = l[j] := by have := hj.2; rw [List.getElem?_eq_getElem jl] at this; exact (Option.some.inj this).symm
  rintro ⟨g, s⟩
  obtain ⟨ka, ea⟩ := List.getElem?_eq_some_iff.mp a1
  obtain ⟨kb, eb⟩ := List.getElem?_eq_some_iff.mp b1
  obtain ⟨kc, ec⟩ := List.getElem?_eq_some_iff.mp a2
  obtain ⟨kd, ed⟩ := List.getElem?_eq_some_iff.mp b2
  have hs := List.pairwise_iff_getElem.mp (upP_rises (l.zipIdx.map fun p => (-p.1, (p.2 : Int))))
  have hd := List.pairwise_iff_getElem.mp (down_falls a)
  rcases Nat.lt_trichotomy k k' with c | c | c
  · have := hs k k' ka kb c
    have ea' : (upP (l.zipIdx.map fun p => (-p.1, (p.2 : Int))))[k] = (-l[i], (i : Int)) := ea
    have eb' : (upP (l.zipIdx.map fun p => (-p.1, (p.2 : Int))))[k'] = (-l[j], (j : Int)) := eb
    rw [ea', eb', leP_iff] at this
    simp at this
    omega
  · subst c; rw [ec] at ed; omega
  · have := hd k' k kd kc c
    rw [ec, ed] at this
    omega
theorem arr_zero {a l : List Int} (h : a.length = l.length) : asgF (List.replicate a.length 0) ((plc l).zip (down a)) = arrF a l := by
  refine asg_same _ _ _ (by simp) fun k hk hn => ?_
  exfalso
  simp at hk
  obtain ⟨i, v, a1, a2, _⟩ := arr_find (a := a) h (show k < l.length by omega)
  refine hn ((k : Int), v) (List.mem_iff_getElem?.mpr ⟨i, ?_⟩) (by simp)
  rw [List.getElem?_zip_eq_some]
  exact ⟨by rw [plc, List.getElem?_map, a1]; rfl, a2⟩
end Sp
namespace Sp
open PySem PySem.Spec PyProof.Rows L2 SQ XQ XD
variable {V : Ve} {B : Sc} {X : XP} {C : D → Prop}
theorem zip_pairs (a b : List Int) : zipD (a.map D.int) (b.map D.int) = (a.zip b).map SQ.pairD := zipII a b
theorem is_arranged_no {d d' : D} (h : Typed1 d) (h' : Typed1 d') (n : isRow d = false ∨ isRow d' = false) : (F_is_arranged_alike V).F B [d, d'] C X = X ⟨V.cls .sums, [], []⟩ := by
  have : ¬ (isRow d = true ∧ isRow d' = true) := by rcases n with n | n <;> simp [n]
  simp [F_is_arranged_alike, X_is_arranged_alike, xf_F, check_rows h h', this]
theorem is_arranged {a b : List Int} (ha : Row a) (hb : Row b) : (F_is_arranged_alike V).F B [row a, row b] C X = C (.bl (decide (a.length = b.length) && alk a b)) := by
  have l1 := ha.l2
  have l2 := hb.l2
  simp [F_is_arranged_alike, X_is_arranged_alike, xf_F, check_rows (typed1_row a) (typed1_row b), isRow_row ha, isRow_row hb]
  by_cases hl : a.length = b.length
  · have lp : (upP (a.zip b)).length ≤ 64 := by rw [(upP_perm _).length_eq]; simp; omega
    simp [hl, zip_pairs, srtP_pairs, show (upP (a.zip b)).length ≤ 100000 by omega]
    rw [lcW_map (f := fun p : Int × Int => .int p.2) (fun p _ Q => by simp [SQ.pairD]), List.nil_append, intsM]
    have e : cutD ((List.map (fun p : Int × Int => p.2) (upP (a.zip b))).map D.int) (some 1) none = ((upP (a.zip b)).map (·.2)).tail.map D.int := by
      cases hq : (upP (a.zip b)).map (·.2) with
      | nil => rfl
      | cons x r => rw [List.map_cons, cut_tailD]; rfl
    rw [e, zipII, lcW_map (f := fun q : Int × Int => .bl (decide (q.1 ≤ q.2))) (fun q _ Q => by simp), List.nil_append, blsM]
    simp [-List.map_map]
    rw [show (((List.map Prod.snd (upP (a.zip b))).zip (List.map (fun x => x.snd) (upP (a.zip b))).tail).all fun q => decide (q.fst ≤ q.snd)) = alk a b by
      rw [Bool.eq_iff_iff, adj_pair, alk_up]; unfold alk; rw [decide_eq_true_eq]]
    constructor
    · exact fun h => h.2
    · exact fun h => ⟨by omega, h⟩
  · simp [hl]
theorem places_by_entry {l : List Int} (hl : l.length ≤ 64) : (F_places_by_entry V).F B [row l] C X = C (.lst ((plc l).map D.int)) := by
  simp [F_places_by_entry, X_places_by_entry, xf_F, show l.length ≤ 100000 by omega, enumD_map]
  rw [lcW_map (f := fun p : Int × Nat => SQ.pairD (-p.1, (p.2 : Int))) (fun p _ Q => by simp [SQ.pairD]), List.nil_append]
  rw [show (fun p : Int × Nat => SQ.pairD (-p.1, (p.2 : Int))) = SQ.pairD ∘ fun p : Int × Nat => (-p.1, (p.2 : Int)) from rfl, ← List.map_map, srtP_pairs]
  have lp := pts_len l
  unfold ptsL at lp
  simp [show (upP (List.map (fun p : Int × Nat => (-p.fst, (p.snd : Int))) l.zipIdx)).length ≤ 100000 by omega]
  rw [lcW_map (f := fun p : Int × Int => .int p.2) (fun p _ Q => by simp [SQ.pairD]), List.nil_append, intsM]
  rfl
theorem asg_app : ∀ (ps : List (Int × Int)) (f : List Int) (p : Int × Int), asgF f (ps ++ [p]) = (asgF f ps).set p.1.toNat p.2
  | [], f, p => rfl
  | q :: r, f, p => asg_app r _ p
theorem asg_take {ps : List (Int × Int)} {f : List Int} {i : Nat} {p : Int × Int} (h : ps[i]? = some p) : asgF f (ps.take (i + 1)) = (asgF f (ps.take i)).set p.1.toNat p.2 := by
  rw [List.take_add_one, h]; exact asg_app _ _ _
theorem plc_in {a b : List Int} {p : Int × Int} (h : p ∈ (plc b).zip (down a)) : ∃ i : Nat, p.1 = i ∧ i < b.length := by
  have := (List.of_mem_zip h).1
  obtain ⟨q, hq, e⟩ := List.mem_map.mp this
  obtain ⟨i, hi, rfl⟩ := pts_mem hq
  exact ⟨i, e.symm, hi⟩
theorem arranged_no {d d' : D} (h : Typed1 d) (h' : Typed1 d') (n : isRow d = false ∨ isRow d' = false) : (F_arranged V).F B [d, d'] C X = X ⟨V.cls .sums, [], []⟩ := by
  have : ¬ (isRow d = true ∧ isRow d' = true) := by rcases n with n | n <;> simp [n]
  simp [F_arranged, X_arranged, xf_F, check_rows h h', this]
theorem arranged {a b : List Int} (ha : Row a) (hb : Row b) : (F_arranged V).F B [row a, row b] C X = if a.length = b.length then C (row (arrF a b)) else X ⟨V.cls .operation, [], []⟩ := by
  have l1 := ha.l2
  have l2 := hb.l2
  simp [F_arranged, X_arranged, xf_F, check_rows (typed1_row a) (typed1_row b), isRow_row ha, isRow_row hb, places_by_entry l2]
  by_cases hl : a.length = b.length
  · simp [hl, zipII]
    refine forW_iff (fun (r : List Int × Sl × Sl) => [.val (row a), .val (row b), .own (r.1.map D.int), r.2.1, r.2.2]) SQ.pairD (fun r p => (r.1.set p.1.toNat p.2, .val (.int p.1), .val (.int p.2))) (fun i r => r.1 = asgF a (((plc b).zip (down a)).take i)) (a0 := (a, .un, .un)) rfl (fun i p r e' hp hr => ⟨?_, ?_⟩) fun r hr => ?_
    · obtain ⟨k, e1, k1⟩ := plc_in (List.mem_of_getElem? hp)
      have hlen : r.1.length = a.length := by rw [hr, asg_len]
      obtain ⟨p1, p2⟩ := p
      have e1 : p1 = k := e1
      subst e1
      simp [SQ.pairD, X_arranged_L1, ixN_nat (show k < r.1.length by omega), List.map_set]
    · exact (by rw [asg_take hp, ← hr])
    · have hr : r.1 = arrF a b := by rw [hr]; unfold arrF; rw [List.take_of_length_le (Nat.le_refl _)]
      simp [hr]
  · simp [hl]
theorem zipD_map {β γ : Type} (f : β → D) (g : γ → D) : ∀ (l : List β) (l' : List γ), zipD (l.map f) (l'.map g) = (l.zip l').map fun q => D.tup [f q.1, g q.2]
  | [], _ => by simp [zipD]
  | _ :: _, [] => by simp [zipD]
  | x :: l, y :: l' => by simp [zipD, zipD_map f g l l']
theorem law_arranged {a b : List Int} (hl : a.length = b.length) (h6 : a.length ≤ 64) : (F__law_arranged V).F B [row a, row b] C X = C (row (arrF a b)) := by
  simp [F__law_arranged, X__law_arranged, xf_F, show b.length ≤ 100000 by omega, enumD_map]
  rw [lcW_map (f := fun p : Int × Nat => SQ.pairD (-p.1, (p.2 : Int))) (fun p _ Q => by simp [SQ.pairD]), List.nil_append]
  rw [show (fun p : Int × Nat => SQ.pairD (-p.1, (p.2 : Int))) = SQ.pairD ∘ fun p : Int × Nat => (-p.1, (p.2 : Int)) from rfl, ← List.map_map, srtP_pairs]
  have lp := pts_len b
  rw [show upP (List.map (fun p : Int × Nat => (-p.1, (p.2 : Int))) b.zipIdx) = ptsL b from rfl]
  simp [show (a.length : Int) ≤ 100000 by omega, show a.length ≤ 100000 by omega, zipD_map]
  have e0 : (List.replicate a.length (D.int 0)) = (List.replicate a.length (0 : Int)).map D.int := by simp
  have ez : ((ptsL b).zip (down a)).map (fun q : (Int × Int) × Int => (q.1.2, q.2)) = (plc b).zip (down a) := by
    unfold plc
    rw [List.zip_map_left]
    rfl
  rw [e0]
  refine forW_iff (fun (r : List Int × Sl × Sl) => [.val (row a), .val (row b), .val (D.lst (List.map SQ.pairD (ptsL b))), .own (r.1.map D.int), r.2.1, r.2.2, .un]) (fun q : (Int × Int) × Int => D.tup [SQ.pairD q.1, D.int q.2]) (fun r q => (r.1.set q.1.2.toNat q.2, .val (SQ.pairD q.1), .val (.int q.2))) (fun i r => r.1 = asgF (List.replicate a.length 0) ((((ptsL b).zip (down a)).map fun q => (q.1.2, q.2)).take i)) (a0 := (List.replicate a.length 0, .un, .un)) rfl (fun i q r e' hp hr => ⟨?_, ?_⟩) fun r hr => ?_
  · have hlen : r.1.length = a.length := by rw [hr, asg_len]; simp
    have m := (List.of_mem_zip (List.mem_of_getElem? hp)).1
    obtain ⟨k, hk, e1⟩ := pts_mem m
    obtain ⟨⟨p0, p1⟩, p2⟩ := q
    have e1 : p1 = k := by have := congrArg Prod.snd e1; exact this
    subst e1
    simp [SQ.pairD, X__law_arranged_L1, ixN_nat (show k < r.1.length by omega), List.map_set]
  · show _ = asgF _ _
    have hp' : (((ptsL b).zip (down a)).map fun q => (q.1.2, q.2))[i]? = some (q.1.2, q.2) := by rw [List.getElem?_map, hp]; rfl
    rw [asg_take hp', ← hr]
  · have hr : r.1 = arrF a b := by
      rw [hr, ← arr_zero hl, ← ez, List.take_of_length_le (by simp)]
    simp [hr]
theorem law_alike {a b : List Int} (hl : a.length = b.length) (h6 : a.length ≤ 64) : (F__law_alike V).F B [row a, row b] C X = C (.bl (alk a b)) := by
  simp [F__law_alike, X__law_alike, xf_F, show (a.length : Int) < 4611686018427387904 by omega, rng0]
  let bad : Nat → Bool := fun i => (List.range a.length).any fun j => decide (nth0 a j < nth0 a i) && decide (nth0 b i < nth0 b j)
  have lb : (b.length : Int) = a.length := by omega
  refine (forW_findI (fun s : Sl => [.val (row a), .val (row b), s, .un]) (fun i : Nat => D.int i) bad (fun _ => .val (.bl false)) (fun i : Nat => .val (.int i)) (fun i s e' hi => ?_) (fun s => ?_))
  · have hi := List.mem_range.mp hi
    simp [X__law_alike_L1, show (a.length : Int) < 4611686018427387904 by omega, rng0]
    rw [lcW_fil (p := fun j : Nat => decide (nth0 a j < nth0 a i) && decide (nth0 b i < nth0 b j)) (f := fun _ : Nat => .int 1) (fun j hj Q => by
      have hj := List.mem_range.mp hj
      simp [exI_ints (show i < a.length by omega), exI_ints (show j < a.length by omega), exI_ints (show i < b.length by omega), exI_ints (show j < b.length by omega)]
      by_cases h1 : nth0 a j < nth0 a i
      · have q1 := Int.not_le.mpr h1
        by_cases h2 : nth0 b i < nth0 b j
        · have q2 := Int.not_le.mpr h2
          simp [h1, h2, q1, q2]
        · have q2 := Int.not_lt.mp h2
          simp [h1, h2, q1, q2]
      · have q1 := Int.not_lt.mp h1
        by_cases h2 : nth0 b i < nth0 b j <;> simp [h1, h2, q1])]
    rw [List.nil_append]
    have e : decide (List.filter (fun j => decide (nth0 a j < nth0 a i) && decide (nth0 b i < nth0 b j)) (List.range a.length) = []) = !bad i := by
      rw [Bool.eq_iff_iff, decide_eq_true_eq, Bool.not_eq_true', List.filter_eq_nil_iff]
      show _ ↔ (List.range a.length).any _ = false
      rw [List.any_eq_false]
    have pk : pyks 63 (List.map (fun _ : Nat => D.int 1) (List.filter (fun j => decide (nth0 a j < nth0 a i) && decide (nth0 b i < nth0 b j)) (List.range a.length))) = true := by
      rw [intsM]; exact pyks_ints
    simp only [pk, eqDs_nil_map, e]
    cases bad i <;> simp <;> omega
  · have ea : alk a b = true ↔ ∀ i ∈ List.range a.length, ¬ bad i = true := by
      unfold alk
      rw [decide_eq_true_eq]
      constructor
      · intro h i hi hb
        have hi := List.mem_range.mp hi
        obtain ⟨j, hj, e⟩ := List.any_eq_true.mp hb
        have hj := List.mem_range.mp hj
        rw [Bool.and_eq_true, decide_eq_true_eq, decide_eq_true_eq] at e
        have m : ∀ k, k < a.length → (nth0 a k, nth0 b k) ∈ a.zip b := fun k hk => by
          rw [nth0_get hk, nth0_get (show k < b.length by omega)]
          exact List.mem_iff_getElem.mpr ⟨k, by simp; omega, by simp⟩
        exact h _ (m i hi) _ (m j hj) ⟨e.1, e.2⟩
      · intro h p hp q hq hh
        obtain ⟨i, hi, ei⟩ := List.mem_iff_getElem.mp hp
        obtain ⟨j, hj, ej⟩ := List.mem_iff_getElem.mp hq
        simp at hi hj
        have p1 : nth0 a i = p.1 ∧ nth0 b i = p.2 := by rw [nth0_get (by omega), nth0_get (by omega), ← ei]; simp
        have q1 : nth0 a j = q.1 ∧ nth0 b j = q.2 := by rw [nth0_get (by omega), nth0_get (by omega), ← ej]; simp
        refine h i (List.mem_range.mpr (by omega)) (List.any_eq_true.mpr ⟨j, List.mem_range.mpr (by omega), ?_⟩)
        rw [Bool.and_eq_true, decide_eq_true_eq, decide_eq_true_eq, p1.1, p1.2, q1.1, q1.2]
        exact ⟨hh.1, hh.2⟩
    cases hf : (List.range a.length).find? bad with
    | some x =>
      have hx := List.find?_some hf
      have : alk a b = false := by
        cases q : alk a b with
        | false => rfl
        | true => exact absurd hx (ea.mp q x (List.mem_of_find?_eq_some hf))
      simp [this]
    | none =>
      have : alk a b = true := ea.mpr fun i hi => List.find?_eq_none.mp hf i hi
      simp [this]
end Sp
namespace Sp
open PySem PySem.Spec PyProof.Rows L2 SQ XQ XD
variable {V : Ve} {B : Sc} {X : XP} {C : D → Prop}
def intD : D → Int
  | .int i => i
  | _ => 0
/-- whether a value is a step within n places -/
def isStepB (d : D) (n : Int) : Bool := match d with
  | .tup [x, y, z] => isIn x 0 (n - 1) && (isIn y 0 (n - 1) && (!decide (intD x = intD y) && (isEntry z && decide (1 ≤ intD z))))
  | _ => false
theorem isIn_int {d : D} {lo hi : Int} (h : isIn d lo hi = true) : ∃ i : Int, d = .int i ∧ lo ≤ i ∧ i ≤ hi := by
  cases d <;> simp [isIn] at h
  exact ⟨_, rfl, h⟩
theorem isEntry_int {d : D} (h : isEntry d = true) : ∃ i : Int, d = .int i ∧ 0 ≤ i ∧ i < 10 ^ 30 := by
  cases d <;> simp [isEntry] at h
  exact ⟨_, rfl, h.1, h.2⟩
theorem is_step {d : D} {n : Int} (h : Typed1 d) : (F__is_step V).F B [d, .int n] C X = C (.bl (isStepB d n)) := by
  cases d <;> simp [F__is_step, X__is_step, xf_F, h.1, dTup, isStepB]
  rename_i xs
  match xs, h with
  | [], h => simp
  | [x], h => simp
  | [x, y], h => simp
  | x :: y :: z :: u :: r, h =>
    have e : ¬ ((r.length : Int) + 1 + 1 + 1 + 1 = 3) := by omega
    simp [e]
  | [x, y, z], h =>
    have tx : Typed x := h.2 _ rfl x (by simp)
    have ty : Typed y := h.2 _ rfl y (by simp)
    have tz : Typed z := h.2 _ rfl z (by simp)
    simp [show atI [x, y, z] 0 = some x from rfl, show atI [x, y, z] 1 = some y from rfl, show atI [x, y, z] 2 = some z from rfl, is_within tx, is_within ty, tz]
    by_cases h1 : isIn x 0 (n - 1) = true
    · by_cases h2 : isIn y 0 (n - 1) = true
      · obtain ⟨i, rfl, _⟩ := isIn_int h1
        obtain ⟨j, rfl, _⟩ := isIn_int h2
        by_cases h3 : isEntry z = true
        · obtain ⟨k, rfl, _⟩ := isEntry_int h3
          by_cases h4 : i = j <;> by_cases h5 : 1 ≤ k <;> simp [h1, h2, h3, h4, h5, intD]
        · simp at h3
          by_cases h4 : i = j <;> simp [h1, h2, h3, h4, intD]
      · simp at h2
        simp [h1, h2]
    · simp at h1
      simp [h1]
/-- what stands behind the steps -/
def rbF (n : Nat) (f : List Int) : List D → Option (List Int)
  | [] => some f
  | s :: r => if isStepB s n = true then (match s with
      | .tup [.int g, .int t, .int m] => if nth0 f g.toNat < nth0 f t.toNat + 2 * m then none else rbF n (movF f g.toNat t.toNat m) r
      | _ => none) else none
def rbD : Option (List Int) → D
  | none => .non
  | some f => row f
theorem step_is {d : D} {n : Nat} (h : isStepB d n = true) : ∃ g t : Nat, ∃ m : Int, d = .tup [.int g, .int t, .int m] ∧ g < n ∧ t < n ∧ g ≠ t ∧ 1 ≤ m ∧ m < 10 ^ 30 := by
  unfold isStepB at h
  split at h
  · rename_i x y z
    simp only [Bool.and_eq_true, Bool.not_eq_true', decide_eq_false_iff_not, decide_eq_true_eq] at h
    obtain ⟨h1, h2, h3, h4, h5⟩ := h
    obtain ⟨i, rfl, i0, i1⟩ := isIn_int h1
    obtain ⟨j, rfl, j0, j1⟩ := isIn_int h2
    obtain ⟨k, rfl, k0, k1⟩ := isEntry_int h4
    simp only [intD] at h3 h5
    refine ⟨i.toNat, j.toNat, k, ?_, by omega, by omega, by omega, h5, k1⟩
    rw [show ((i.toNat : Nat) : Int) = i by omega, show ((j.toNat : Nat) : Int) = j by omega]
  · cases h
theorem row_behind_no {a : List Int} {d : D} (h : Typed d) (no : ∀ xs, d ≠ .tup xs) : (F__row_behind V).F B [row a, d] C X = C .non := by
  cases d <;> simp [F__row_behind, X__row_behind, xf_F, h, dTup]
  exact absurd rfl (no _)
theorem exF {f : List Int} {i : Nat} {P : Int → Prop} (h : i < f.length) : (∃ x, f[i]? = some x ∧ P x) ↔ P (nth0 f i) := by
  rw [List.getElem?_eq_getElem h, nth0_get h]
  exact ⟨fun ⟨x, e, p⟩ => by cases e; exact p, fun p => ⟨_, rfl, p⟩⟩
theorem rb_turn {a : List Int} {xs : List D} {f : List Int} {y : D} (hl : f.length = a.length) (hy : Typed1 y) (s3 s4 s5 s6 : Sl) (e' : En) :
    (trn (gname 3) (X__row_behind_L1 V) B X y [.val (row a), .val (.tup xs), .own (f.map D.int), s3, s4, s5, s6] e' ↔
      if isStepB y a.length = true then (match y with
        | .tup [.int g, .int t, .int m] => if nth0 f g.toNat < nth0 f t.toNat + 2 * m then e'.rt (.val .non) else e'.nx [.val (row a), .val (.tup xs), .own ((movF f g.toNat t.toNat m).map D.int), .val y, .val (.int g), .val (.int t), .val (.int m)]
        | _ => False) else e'.rt (.val .non)) := by
  simp [X__row_behind_L1, is_step hy]
  by_cases hs : isStepB y a.length = true
  · obtain ⟨g, t, m, rfl, g1, t1, gt, m1, m2⟩ := step_is hs
    have gl : g < f.length := by omega
    have tl : t < f.length := by omega
    simp [hs, exI_ints gl, exI_ints tl, show CMul 2 m ∨ CMulW 2 m from cmul1 ⟨by omega, by omega⟩, ixN_nat gl, ixN_nat tl]
    rw [exF gl]
    have e1 : ∀ P : Int → Prop, (∃ x, ((f.map D.int).set g (D.int (nth0 f g - m)))[t]? = some (D.int x) ∧ P x) ↔ P (nth0 f t) := fun P => by
      rw [List.getElem?_set_ne gt, List.getElem?_map, List.getElem?_eq_getElem tl, nth0_get tl]
      exact ⟨fun ⟨x, e, p⟩ => by cases e; exact p, fun p => ⟨_, rfl, p⟩⟩
    rw [e1]
    have e2 : ((f.map D.int).set g (D.int (nth0 f g - m))).set t (D.int (nth0 f t + m)) = (movF f g t m).map D.int := by
      unfold movF
      rw [List.map_set, List.map_set]
      congr 2
      rw [List.getD_eq_getElem?_getD, List.getElem?_set_ne gt, ← List.getD_eq_getElem?_getD]; rfl
    rw [e2]
    by_cases h : nth0 f g < nth0 f t + 2 * m
    · simp [h, Int.not_le.mpr h]
    · simp [h, Int.not_lt.mp h]
  · simp at hs
    simp [hs]
theorem row_behind {a : List Int} {xs : List D} (hl : a.length ≤ 64) (hT : ∀ x ∈ xs, Typed1 x) : (F__row_behind V).F B [row a, .tup xs] C X = C (rbD (rbF a.length a xs)) := by
  have ty : Typed (.tup xs) := ⟨_, rfl⟩
  simp [F__row_behind, X__row_behind, xf_F, ty, dTup]
  have key : ∀ (ys : List D), (∀ x ∈ ys, Typed1 x) → ∀ (f : List Int) (s3 s4 s5 s6 : Sl) (e : En), f.length = a.length → (∀ g s3 s4 s5 s6, e.nx [.val (row a), .val (.tup xs), .own (g.map D.int), s3, s4, s5, s6] ↔ C (row g)) → (e.rt (.val .non) ↔ C .non) →
      (forW (trn (gname 3) (X__row_behind_L1 V) B X) ys [.val (row a), .val (.tup xs), .own (f.map D.int), s3, s4, s5, s6] e ↔ C (rbD (rbF a.length f ys))) := by
    intro ys
    induction ys with
    | nil => intro _ f s3 s4 s5 s6 e hf he hr; exact he f s3 s4 s5 s6
    | cons y r ih =>
      intro hy f s3 s4 s5 s6 e hf he hr
      rw [forW_cons, rb_turn hf (hy y List.mem_cons_self)]
      by_cases hs : isStepB y a.length = true
      · obtain ⟨g, t, m, rfl, g1, t1, gt, m1, m2⟩ := step_is hs
        rw [if_pos hs]
        simp only [rbF, hs, if_true]
        by_cases h : nth0 f (g : Int).toNat < nth0 f (t : Int).toNat + 2 * m
        · rw [if_pos h, if_pos h]; exact hr
        · rw [if_neg h, if_neg h]
          exact ih (fun x hx => hy x (List.mem_cons_of_mem _ hx)) _ _ _ _ _ e (by rw [mov_len, hf]) he hr
      · rw [if_neg hs]
        simp only [rbF, hs]
        exact hr
  exact key xs hT a _ _ _ _ _ rfl (fun g s3 s4 s5 s6 => by simp) (by simp)
end Sp
namespace Sp
open PySem PySem.Spec PyProof.Rows L2 SQ XQ XD
variable {V : Ve} {B : Sc} {X : XP} {C : D → Prop}
@[simp] theorem eqD_nt {xs : List D} : eqD .non (.tup xs) = false := rfl
@[simp] theorem eqD_tn {xs : List D} : eqD (.tup xs) .non = false := rfl
theorem after_no {d x : D} (h : Typed1 d) (no : isRow d = false) : (F_after V).F B [d, x] C X = X ⟨V.cls .sums, [], []⟩ := by
  simp [F_after, X_after, xf_F, check_row h, no]
theorem after_tup {a : List Int} {xs : List D} (ha : Row a) (hT : ∀ x ∈ xs, Typed1 x) : (F_after V).F B [row a, .tup xs] C X = match rbF a.length a xs with | none => X ⟨V.cls .operation, [], []⟩ | some f => C (row f) := by
  simp [F_after, X_after, xf_F, check_row (typed1_row a), isRow_row ha, row_behind ha.l2 hT]
  cases rbF a.length a xs <;> simp [rbD]
theorem after_odd {a : List Int} {d : D} (ha : Row a) (h : Typed d) (no : ∀ xs, d ≠ .tup xs) : (F_after V).F B [row a, d] C X = X ⟨V.cls .operation, [], []⟩ := by
  simp [F_after, X_after, xf_F, check_row (typed1_row a), isRow_row ha, row_behind_no h no]
def thD : D → Int
  | .tup [_, _, .int m] => m
  | _ => 0
theorem units_tup {xs : List D} (hl : xs.length ≤ 1000) (hT : ∀ x ∈ xs, Typed1 x) : (F_units V).F B [.tup xs] C X = if xs.all (fun x => isStepB x 64) = true then C (.int (xs.map thD).sum) else X ⟨V.cls .operation, [], []⟩ := by
  have ty : Typed (.tup xs) := ⟨_, rfl⟩
  simp [F_units, X_units, xf_F, ty, dTup, show xs.length ≤ 100000 by omega]
  rw [lcW_mapD (f := fun d => .bl (isStepB d 64)) (fun d hd Q => by simp [is_step (hT d hd)])]
  rw [List.nil_append, blsM, allP_lst]
  by_cases h : xs.all (fun x => isStepB x 64) = true
  · have h2 : (List.map (fun d => isStepB d 64) xs).all id = true := by simpa [List.all_map] using h
    have h3 : ∀ x ∈ xs, isStepB x 64 = true := List.all_eq_true.mp h
    rw [h2, if_pos h3]
    simp
    rw [lcW_mapD (f := fun d => .int (thD d)) (fun d hd Q => by
      obtain ⟨g, t, m, rfl, _⟩ := step_is (n := 64) (h3 d hd)
      simp [thD, show ∀ x y z : D, atI [x, y, z] 2 = some z from fun _ _ _ => rfl])]
    rw [List.nil_append, intsM]
    simp [-List.map_map]
  · have h2 : (List.map (fun d => isStepB d 64) xs).all id = false := by simpa [List.all_map] using h
    rw [h2, if_neg fun z => h (List.all_eq_true.mpr z)]
    simp
theorem units_odd {d : D} (h : Typed d) (no : ∀ xs, d ≠ .tup xs) : (F_units V).F B [d] C X = X ⟨V.cls .operation, [], []⟩ := by
  cases d <;> simp [F_units, X_units, xf_F, h, dTup]
  exact absurd rfl (no _)
theorem is_road_no {d d' x : D} (h : Typed1 d) (h' : Typed1 d') (n : isRow d = false ∨ isRow d' = false) : (F_is_road V).F B [d, d', x] C X = X ⟨V.cls .sums, [], []⟩ := by
  have : ¬ (isRow d = true ∧ isRow d' = true) := by rcases n with n | n <;> simp [n]
  simp [F_is_road, X_is_road, xf_F, check_rows h h', this]
theorem is_road_tup {a b : List Int} {xs : List D} (ha : Row a) (hb : Row b) (hT : ∀ x ∈ xs, Typed1 x) : (F_is_road V).F B [row a, row b, .tup xs] C X = C (.bl (decide (rbF a.length a xs = some b))) := by
  simp [F_is_road, X_is_road, xf_F, check_rows (typed1_row a) (typed1_row b), isRow_row ha, isRow_row hb, row_behind ha.l2 hT]
  cases rbF a.length a xs <;> simp [rbD]
theorem is_road_odd {a b : List Int} {d : D} (ha : Row a) (hb : Row b) (h : Typed d) (no : ∀ xs, d ≠ .tup xs) : (F_is_road V).F B [row a, row b, d] C X = C (.bl false) := by
  simp [F_is_road, X_is_road, xf_F, check_rows (typed1_row a) (typed1_row b), isRow_row ha, isRow_row hb, row_behind_no h no]
theorem law_fits {f : List Int} {g t m : Int} : (F__law_fits V).F B [row f, .tup [.int g, .int t, .int m]] C X = C (.bl (decide (g ≠ t ∧ 0 ≤ g ∧ g < f.length ∧ 0 ≤ t ∧ t < f.length ∧ 1 ≤ m ∧ nth0 f t.toNat + 2 * m ≤ nth0 f g.toNat))) := by
  simp [F__law_fits, X__law_fits, xf_F]
  by_cases h0 : g = t
  · simp [h0]
  by_cases h1 : 0 ≤ g
  · by_cases h2 : g < f.length
    · by_cases h3 : 0 ≤ t
      · by_cases h4 : t < f.length
        · by_cases h5 : 1 ≤ m
          · obtain ⟨i, rfl⟩ : ∃ i : Nat, g = i := ⟨g.toNat, by omega⟩
            obtain ⟨j, rfl⟩ : ∃ j : Nat, t = j := ⟨t.toNat, by omega⟩
            have hi : i < f.length := by omega
            have hj : j < f.length := by omega
            simp [h0, h1, h2, h3, h4, h5, exI_ints hi, exI_ints hj, show CMul 2 m ∨ CMulW 2 m from cmul1 ⟨by omega, by omega⟩]
            simp [Int.not_lt.mpr h1, Int.not_lt.mpr h3, Nat.not_le.mpr hi, Nat.not_le.mpr hj, Int.not_lt.mpr h5]
          · simp [h0, h1, h2, h3, h4, h5, Int.not_lt.mpr h1, Int.not_lt.mpr h3, Int.not_le.mpr h2, Int.not_le.mpr h4, Int.not_le.mp h5]
        · simp [h0, h1, h2, h3, h4, Int.not_lt.mpr h1, Int.not_lt.mpr h3, Int.not_le.mpr h2, Int.not_lt.mp h4]
      · simp [h0, h1, h2, h3, Int.not_lt.mpr h1, Int.not_le.mpr h2, Int.not_le.mp h3]
    · simp [h0, h1, h2, Int.not_lt.mpr h1, Int.not_lt.mp h2]
  · simp [h0, h1, Int.not_le.mp h1]
theorem law_drawn_step {p : Addr} {ns : List Int} (bp : B p) (h1 : 1 ≤ ns.length) (h2 : ns.length ≤ 64) (nn : ∀ n ∈ ns, 0 ≤ n ∧ n < 10 ^ 30) (c : ∀ g t m : Int, 0 ≤ g → 0 ≤ t → 0 ≤ m → m < 10 ^ 30 → C (.tup [.int g, .int t, .int m])) : (F__law_drawn_step V).F B [.cell p, row ns] C X := by
  simp [F__law_drawn_step, X__law_drawn_step, xf_F, bp]
  refine ⟨⟨by omega, len200 (by omega)⟩, fun r r0 r1 q q0 q1 => ?_⟩
  obtain ⟨e, he, e0, e1⟩ : ∃ e : Int, (if q = 0 then (1 : Int) else 0) = e ∧ 0 ≤ e ∧ e ≤ 1 := ⟨_, rfl, by split <;> decide, by split <;> decide⟩
  rw [he]
  have lb : (ns.length : Int) + e < 1606938044258990275541962092341162602522202993782792835301376 := by
    have : (ns.length : Int) + e ≤ 100000 := by omega
    have h2 : (100000 : Int) < 1606938044258990275541962092341162602522202993782792835301376 := by decide +kernel
    exact Int.lt_of_le_of_lt this h2
  refine ⟨⟨by omega, lb⟩, fun t t0 t1 => ?_⟩
  obtain ⟨i, rfl⟩ : ∃ i : Nat, r = i := ⟨r.toNat, by omega⟩
  obtain ⟨j, hj⟩ : ∃ j : Nat, min t ((ns.length : Int) - 1) = j := ⟨(min t ((ns.length : Int) - 1)).toNat, by omega⟩
  rw [hj]
  have hi : i < ns.length := by omega
  have hj' : j < ns.length := by omega
  have vi := nn _ (nth0_mem hi)
  have vj := nn _ (nth0_mem hj')
  simp [exI_ints hi, exI_ints hj']
  refine ⟨cdivw (by decide) (by decide), law_pick bp (by simp) (by simp) fun x mx => ⟨cdivw (by decide) (by decide), law_pick bp (by simp) (by simp) fun y my => ?_⟩⟩
  obtain ⟨u, rfl, u0⟩ : ∃ u : Int, x = .int u ∧ 0 ≤ u ∧ u ≤ 1 := by
    simp only [List.mem_cons, List.not_mem_nil, or_false] at mx
    rcases mx with rfl | rfl | rfl | rfl <;> exact ⟨_, rfl, by decide⟩
  obtain ⟨v, rfl, v0⟩ : ∃ v : Int, y = .int v ∧ v < 10 ^ 30 := by
    simp only [List.mem_cons, List.not_mem_nil, or_false] at my
    rcases my with rfl | rfl | rfl | rfl <;> exact ⟨_, rfl, by omega⟩
  simp
  exact c _ _ _ (by omega) t0 (by omega) (by omega)
def stepD (q : Int × Int × Int) : D := .tup [.int q.1, .int q.2.1, .int q.2.2]
theorem typed_step (q : Int × Int × Int) : Typed1 (stepD q) := ⟨⟨_, rfl⟩, fun xs e x m => by
  cases e
  simp only [List.mem_cons, List.not_mem_nil, or_false] at m
  rcases m with rfl | rfl | rfl <;> exact ⟨_, rfl⟩⟩
theorem rb_app {n : Nat} : ∀ {xs : List D} {f : List Int} {s : D}, rbF n f (xs ++ [s]) = match rbF n f xs with | none => none | some g => rbF n g [s]
  | [], f, s => rfl
  | x :: xs, f, s => by
    rw [List.cons_append]
    simp only [rbF]
    by_cases h : isStepB x n = true
    · obtain ⟨g, t, m, rfl, _⟩ := step_is h
      simp only [h, if_true]
      by_cases h2 : nth0 f (g : Int).toNat < nth0 f (t : Int).toNat + 2 * m
      · simp only [h2, if_true]
      · simp only [h2, if_false]
        exact rb_app
    · rw [if_neg h, if_neg h]
theorem step_iff {q : Int × Int × Int} {n : Nat} (h : 0 ≤ q.2.2 ∧ q.2.2 < 10 ^ 30) : isStepB (stepD q) n = decide (q.1 ≠ q.2.1 ∧ 0 ≤ q.1 ∧ q.1 < n ∧ 0 ≤ q.2.1 ∧ q.2.1 < n ∧ 1 ≤ q.2.2) := by
  obtain ⟨g, t, m⟩ := q
  simp only [stepD, isStepB, isIn, intD, isEntry]
  rw [Bool.eq_iff_iff]
  simp only [Bool.and_eq_true, Bool.not_eq_true', decide_eq_true_eq, decide_eq_false_iff_not]
  constructor
  · rintro ⟨a, b, c, d, e⟩
    exact ⟨of_decide_eq_false c, a.1, by omega, b.1, by omega, of_decide_eq_true e⟩
  · rintro ⟨a, b, c, d, e, f⟩
    exact ⟨⟨b, by omega⟩, ⟨d, by omega⟩, decide_eq_false a, h, decide_eq_true f⟩
theorem rb_one {f : List Int} {q : Int × Int × Int} (h : 0 ≤ q.2.2 ∧ q.2.2 < 10 ^ 30) : rbF f.length f [stepD q] = if (q.1 ≠ q.2.1 ∧ 0 ≤ q.1 ∧ q.1 < f.length ∧ 0 ≤ q.2.1 ∧ q.2.1 < f.length ∧ 1 ≤ q.2.2 ∧ nth0 f q.2.1.toNat + 2 * q.2.2 ≤ nth0 f q.1.toNat) then some (movF f q.1.toNat q.2.1.toNat q.2.2) else none := by
  simp only [rbF, step_iff h]
  obtain ⟨g, t, m⟩ := q
  simp only [stepD]
  by_cases h1 : g ≠ t ∧ 0 ≤ g ∧ g < f.length ∧ 0 ≤ t ∧ t < f.length ∧ 1 ≤ m
  · obtain ⟨a, b, c, d, e, k⟩ := h1
    by_cases h2 : nth0 f g.toNat < nth0 f t.toNat + 2 * m
    · simp [a, b, c, d, e, k, h2]
    · simp [a, b, c, d, e, k, h2, Int.not_lt.mp h2]
  · rw [if_neg (by simpa using h1), if_neg fun z => h1 ⟨z.1, z.2.1, z.2.2.1, z.2.2.2.1, z.2.2.2.2.1, z.2.2.2.2.2.1⟩]
theorem law_walked {p : Addr} {a : List Int} (bp : B p) (ha : Row a) (hb : a.sum < 10 ^ 30) (c : ∀ qs : List (Int × Int × Int), qs.length ≤ 5 → (∀ q ∈ qs, 0 ≤ q.2.2 ∧ q.2.2 < 10 ^ 30) → (∀ f, rbF a.length a (qs.map stepD) = some f → f.length = a.length ∧ f.sum = a.sum ∧ ∀ x ∈ f, 0 ≤ x) → C (.lst [.tup (qs.map stepD), rbD (rbF a.length a (qs.map stepD))])) : (F__law_walked V).F B [.cell p, row a] C X := by
  simp [F__law_walked, X__law_walked, xf_F, bp]
  intro k k0 k1
  refine ⟨by omega, ?_⟩
  refine forW_inv (fun i ss => ∃ (qs : List (Int × Int × Int)) (s4 s5 : Sl), ss = [.val (.cell p), .val (row a), .own (qs.map stepD), .val (rbD (rbF a.length a (qs.map stepD))), s4, s5] ∧ qs.length = i ∧ (∀ q ∈ qs, 0 ≤ q.2.2 ∧ q.2.2 < 10 ^ 30) ∧ (∀ f, rbF a.length a (qs.map stepD) = some f → f.length = a.length ∧ f.sum = a.sum ∧ ∀ x ∈ f, 0 ≤ x)) ⟨[], .un, .un, rfl, rfl, by simp, fun f h => by
    have h : some a = some f := h
    cases h; exact ⟨rfl, rfl, fun x m => (ha.e x m).1⟩⟩ ?_ ?_
  · rintro i d ss' hd ⟨qs, s4, s5, rfl, hl, hq, hf⟩ e' n1 n2 n3 n4
    have hi : i < 5 := by
      have := (List.getElem?_eq_some_iff.mp hd).1
      simp [rngD] at this
      omega
    have l1 := ha.l1
    have l2 := ha.l2
    simp [X__law_walked_L1, show qs.length < 100000 by omega]
    cases hr : rbF a.length a (qs.map stepD) with
    | none =>
      simp [rbD]
      refine law_drawn_step bp l1 l2 ha.e fun g t m g0 t0 m0 m1 => ?_
      have e1 : rbF a.length a ((qs ++ [(g, t, m)]).map stepD) = none := by
        rw [List.map_append, List.map_cons, List.map_nil, rb_app, hr]
      refine n1 _ ⟨qs ++ [(g, t, m)], .val d, .val (stepD (g, t, m)), by rw [e1]; simp [stepD, rbD], by simp [hl], fun q h => ?_, fun f h => by rw [e1] at h; cases h⟩
      rcases List.mem_append.mp h with h | h
      · exact hq q h
      · rw [List.mem_singleton.mp h]; exact ⟨m0, m1⟩
    | some f =>
      obtain ⟨f1, f2, f3⟩ := hf f hr
      have rf : ∀ n ∈ f, 0 ≤ n ∧ n < 10 ^ 30 := fun n m => ⟨f3 n m, by have := sum_mem_le f3 m; omega⟩
      simp [rbD]
      refine law_drawn_step bp (by omega) (by omega) rf fun g t m g0 t0 m0 m1 => ?_
      have ro := rb_one (f := f) (q := (g, t, m)) ⟨m0, m1⟩
      rw [f1] at ro
      have e1 : rbF a.length a ((qs ++ [(g, t, m)]).map stepD) = rbF a.length f [stepD (g, t, m)] := by
        rw [List.map_append, List.map_cons, List.map_nil, rb_app, hr]
      have go : ∀ D', D' = rbD (rbF a.length f [stepD (g, t, m)]) → (∀ f', rbF a.length f [stepD (g, t, m)] = some f' → f'.length = a.length ∧ f'.sum = a.sum ∧ ∀ x ∈ f', 0 ≤ x) → e'.nx [.val (.cell p), .val (row a), .own (qs.map stepD ++ [D.tup [D.int g, D.int t, D.int m]]), .val D', .val d, .val (D.tup [D.int g, D.int t, D.int m])] := fun D' hD hf' =>
        n1 _ ⟨qs ++ [(g, t, m)], .val d, .val (stepD (g, t, m)), by rw [e1, hD]; simp [stepD], by simp [hl], fun q h => by
          rcases List.mem_append.mp h with h | h
          · exact hq q h
          · rw [List.mem_singleton.mp h]; exact ⟨m0, m1⟩, fun f' h => by rw [e1] at h; exact hf' f' h⟩
      simp [law_fits]
      by_cases hc : g ≠ t ∧ 0 ≤ g ∧ g < f.length ∧ 0 ≤ t ∧ t < f.length ∧ 1 ≤ m ∧ nth0 f t.toNat + 2 * m ≤ nth0 f g.toNat
      · refine .inr ⟨hc, ?_⟩
        rw [if_pos (by rw [← f1]; exact hc)] at ro
        obtain ⟨x1, x2, x3, x4, x5, x6, x7⟩ := hc
        obtain ⟨i, rfl⟩ : ∃ i : Nat, g = i := ⟨g.toNat, by omega⟩
        obtain ⟨j, rfl⟩ : ∃ j : Nat, t = j := ⟨t.toNat, by omega⟩
        have gi : i < f.length := by omega
        have gj : j < f.length := by omega
        have vj := f3 _ (nth0_mem gj)
        simp at x7
        rw [law_moved gi gj (by omega)]
        refine go _ (by rw [ro]; rfl) fun f' h => ?_
        rw [ro] at h
        have h : movF f i j m = f' := by simpa using h
        rw [← h]
        exact ⟨by rw [mov_len, f1], by rw [mov_sum gi gj, f2], mov_nn gi gj f3 (by omega) (by show m ≤ nth0 f i; omega)⟩
      · rw [if_neg (by rw [← f1]; exact hc)] at ro
        refine .inl ⟨fun a1 a2 a3 a4 a5 a6 => Int.not_le.mp fun a7 => hc ⟨a1, a2, a3, a4, a5, a6, a7⟩, go _ (by rw [ro]; rfl) fun f' h => by rw [ro] at h; cases h⟩
  · rintro ss' ⟨qs, s4, s5, rfl, hl, hq, hf⟩
    have hl : qs.length ≤ 5 := by simp [rngD] at hl; omega
    simp
    exact c qs hl hq hf
end Sp
/-! rows that are turned: mathematics -/
namespace Sp
open PySem PySem.Spec PyProof.Rows L2 SQ XQ XD
/-- what stands on the j-th level of e -/
def lev (e c : Int) (j : Nat) : Int := min c (max 0 (e - c * j))
def tq (a : List Int) (m : Nat) (c : Int) : List Int := (List.range m).map fun j => (a.map fun e => lev e c j).sum
def hd (a : List Int) (k : Nat) : Int := ((down a).take k).sum
theorem tq_len (a : List Int) (m : Nat) (c : Int) : (tq a m c).length = m := by simp [tq]
theorem lev_nn {e c : Int} {j : Nat} (h : 0 ≤ c) : 0 ≤ lev e c j ∧ lev e c j ≤ c := by unfold lev; omega
theorem lev_sum {e c : Int} (he : 0 ≤ e) (hc : 0 ≤ c) : ∀ k : Nat, ((List.range k).map fun j => lev e c j).sum = min e (c * k)
  | 0 => by simp; omega
  | k + 1 => by
    rw [List.range_succ, List.map_append, List.sum_append, lev_sum he hc k]
    have e1 : c * ((k + 1 : Nat) : Int) = c * k + c := by rw [Int.natCast_add, Int.mul_add]; simp
    have p : 0 ≤ c * (k : Int) := Int.mul_nonneg hc (by omega)
    simp only [List.map_cons, List.map_nil, List.sum_cons, List.sum_nil, lev]
    rw [e1]
    generalize c * (k : Int) = z at *
    omega
theorem sum_swap (f : Int → Nat → Int) (a : List Int) : ∀ k : Nat, ((List.range k).map fun j => (a.map fun e => f e j).sum).sum = (a.map fun e => ((List.range k).map fun j => f e j).sum).sum
  | 0 => by
    simp
    induction a with
    | nil => rfl
    | cons x r ih => simpa using ih
  | k + 1 => by
    rw [List.range_succ, List.map_append, List.sum_append, sum_swap f a k]
    simp only [List.map_cons, List.map_nil, List.sum_cons, List.sum_nil, List.map_append, List.sum_append]
    induction a with
    | nil => rfl
    | cons x r ih => simp only [List.map_cons, List.sum_cons]; omega
theorem min_ex {t : Int} : ∀ {a : List Int}, (a.map fun e => min e t).sum = a.sum - MQ3.ex a t
  | [] => by simp [MQ3.ex]
  | x :: r => by
    have := min_ex (t := t) (a := r)
    rw [List.map_cons, List.sum_cons, this, List.sum_cons, MQ3.ex_cons]; omega
theorem tq_head {a : List Int} {m k : Nat} {c : Int} (hn : ∀ e ∈ a, 0 ≤ e) (hc : 0 ≤ c) (hk : k ≤ m) : ((tq a m c).take k).sum = a.sum - MQ3.ex a (c * k) := by
  have : (tq a m c).take k = tq a k c := by
    unfold tq
    rw [← List.map_take, List.take_range, Nat.min_eq_left hk]
  rw [this]
  unfold tq
  rw [sum_swap (fun e j => lev e c j), ← min_ex]
  congr 1
  exact List.map_congr_left fun e m => lev_sum (hn e m) hc k
theorem tq_sum {a : List Int} {m : Nat} {c : Int} (hn : ∀ e ∈ a, 0 ≤ e ∧ e ≤ c * m) (hc : 0 ≤ c) : (tq a m c).sum = a.sum := by
  have h := tq_head (a := a) (m := m) (k := m) (c := c) (fun e m => (hn e m).1) hc (Nat.le_refl m)
  rw [List.take_of_length_le (by rw [tq_len]; exact Nat.le_refl m)] at h
  rw [h, ← min_ex]
  congr 1
  refine (List.map_congr_left fun e m => ?_).trans (List.map_id _)
  have := (hn e m).2
  simp; omega
theorem tq_falls {a : List Int} {m : Nat} {c : Int} (hc : 0 ≤ c) : (tq a m c).Pairwise (· ≥ ·) := by
  unfold tq
  rw [List.pairwise_map]
  refine List.Pairwise.imp ?_ List.pairwise_lt_range
  intro i j hij
  induction a with
  | nil => simp
  | cons x r ih =>
    have p : c * (i : Int) ≤ c * (j : Int) := Int.mul_le_mul_of_nonneg_left (by omega) hc
    have : lev x c j ≤ lev x c i := by unfold lev; generalize c * (i : Int) = u at *; generalize c * (j : Int) = v at *; omega
    simp only [List.map_cons, List.sum_cons]
    omega
theorem tq_down {a : List Int} {m : Nat} {c : Int} (hc : 0 ≤ c) : down (tq a m c) = tq a m c := (down_of (List.Perm.refl _) (tq_falls hc)).symm
theorem tq_perm {a b : List Int} {m : Nat} {c : Int} (h : a.Perm b) : tq a m c = tq b m c := by
  unfold tq
  refine List.map_congr_left fun j _ => perm_sum (h.map _)
theorem tq_in {a : List Int} {m : Nat} {c : Int} (hc : 0 ≤ c) : ∀ x ∈ tq a m c, 0 ≤ x ∧ x ≤ c * a.length := by
  intro x hx
  obtain ⟨j, _, rfl⟩ := List.mem_map.mp hx
  constructor
  · exact nn_sum _ fun y hy => by obtain ⟨e, _, rfl⟩ := List.mem_map.mp hy; exact (lev_nn hc).1
  · have := sum_le_len (l := a.map fun e => lev e c j) (c := c) fun y hy => by obtain ⟨e, _, rfl⟩ := List.mem_map.mp hy; exact (lev_nn hc).2
    rw [List.length_map, Int.mul_comm] at this
    exact this
theorem tq_more {a : List Int} {m : Nat} {c : Int} (hn : ∀ e ∈ a, e ≤ c * m) (hc : 0 ≤ c) : tq a (m + 2) c = tq a m c ++ [0, 0] := by
  have z : ∀ j, m ≤ j → (a.map fun e => lev e c j).sum = 0 := by
    intro j hj
    have : ∀ (L : List Int), (∀ e ∈ L, e ≤ c * m) → (L.map fun e => lev e c j).sum = 0 := by
      intro L
      induction L with
      | nil => intro _; rfl
      | cons x r ih =>
        intro h
        have hx := h x List.mem_cons_self
        have p : c * (m : Int) ≤ c * (j : Int) := Int.mul_le_mul_of_nonneg_left (by omega) hc
        rw [List.map_cons, List.sum_cons, ih fun e me => h e (List.mem_cons_of_mem _ me)]
        unfold lev
        generalize c * (m : Int) = u at *
        generalize c * (j : Int) = v at *
        omega
    exact this a hn
  unfold tq
  rw [List.range_succ, List.range_succ]
  simp only [List.map_append, List.map_cons, List.map_nil, z m (Nat.le_refl m), z (m + 1) (Nat.le_succ m), List.append_assoc]
  rfl
theorem leB_hd {a b : List Int} (hl : a.length = b.length) : leB a b = true ↔ ∀ k, k ≤ a.length → hd a k ≤ hd b k := by
  rw [leB_nth hl]
  have da := down_len a
  have db := down_len b
  constructor
  · intro h k hk
    cases k with
    | zero => simp [hd]
    | succ k =>
      have := h k (by omega)
      rw [heads_nth _ _ _ (by omega), heads_nth _ _ _ (by omega)] at this
      unfold hd; omega
  · intro h k hk
    have := h (k + 1) (by omega)
    rw [heads_nth _ _ _ (by omega), heads_nth _ _ _ (by omega)]
    unfold hd at this; omega
/-- how far a and b hold together -/
def tog (a b : List Int) (c : Int) : Prop := ∀ k, k ≤ a.length → hd a k + MQ3.ex b (c * k) ≤ b.sum
theorem und_tog {a b : List Int} {c : Int} (hc : 0 ≤ c) (hb : ∀ e ∈ b, 0 ≤ e ∧ e ≤ c * a.length) (hs : a.sum = b.sum) : undB a (tq b a.length c) = true ↔ tog a b c := by
  have e1 := tq_sum (m := a.length) hb hc
  have e2 := tq_len b a.length c
  simp only [undB, Bool.and_eq_true, decide_eq_true_eq, e1, e2, hs, true_and]
  rw [leB_hd e2.symm]
  unfold tog
  refine ⟨fun h k hk => ?_, fun h k hk => ?_⟩
  · have := h k hk
    unfold hd at this ⊢
    rw [tq_down hc, tq_head (fun e m => (hb e m).1) hc hk] at this
    omega
  · have := h k hk
    unfold hd at this ⊢
    rw [tq_down hc, tq_head (fun e m => (hb e m).1) hc hk]
    omega
theorem tog_symm {a b : List Int} {c : Int} (hs : a.sum = b.sum) (h : tog a b c) : tog b a c := by
  intro j hj
  obtain ⟨k, hk, k1, k2⟩ := MQ3.falls_cut (down_falls a) (c * j)
  have q1 := MQ3.take_eq (c * j) (down a) k hk k1 k2
  rw [MQ3.ex_perm _ (down_perm a)] at q1
  have q2 := MQ3.take_le (c * k) (down b) j (by rw [down_len]; exact hj)
  rw [MQ3.ex_perm _ (down_perm b)] at q2
  have q3 := h k (by rw [down_len] at hk; exact hk)
  unfold hd at *
  have e : (k : Int) * (c * j) = (j : Int) * (c * k) := by
    rw [Int.mul_left_comm, Int.mul_left_comm (j : Int), Int.mul_comm (k : Int)]
  rw [e] at q1
  omega
theorem und_turn {a b : List Int} {c : Int} (hc : 0 ≤ c) (ha : ∀ e ∈ a, 0 ≤ e ∧ e ≤ c * b.length) (hb : ∀ e ∈ b, 0 ≤ e ∧ e ≤ c * a.length) (hs : a.sum = b.sum) : undB a (tq b a.length c) = undB b (tq a b.length c) := by
  rw [Bool.eq_iff_iff, und_tog hc hb hs, und_tog hc ha hs.symm]
  exact ⟨tog_symm hs, tog_symm hs.symm⟩
end Sp
namespace Sp
open PySem PySem.Spec PyProof.Rows L2 SQ XQ XD
variable {V : Ve} {B : Sc} {X : XP} {C : D → Prop}
theorem check_within {d : D} {lo hi : Int} (h : Typed d) : (F_check_within V).F B [d, .int lo, .int hi] C X = if isIn d lo hi = true then C .non else X ⟨V.cls .number, ["value"], [d]⟩ := by
  simp [F_check_within, X_check_within, xf_F, is_within h]
  cases isIn d lo hi <;> simp
theorem level {a : List Int} {j : Nat} {c : Int} (hl : a.length ≤ 1000) (hj : j ≤ 1000) : (F_level V).F B [row a, .int j, .int c] C X = C (row (a.map fun e => lev e c j)) := by
  simp [F_level, X_level, xf_F, show a.length ≤ 100000 by omega]
  rw [lcW_map (f := fun e : Int => .int (lev e c j)) (fun e _ Q => by
    simp [show CMul c ↑j ∨ CMulW c ↑j from cmul2 ⟨by omega, by omega⟩, lev])]
  rw [List.nil_append, show (fun e : Int => D.int (lev e c j)) = D.int ∘ fun e => lev e c j from rfl, ← List.map_map]
theorem levels {a : List Int} {m : Nat} {c : Int} (hl : a.length ≤ 1000) (hm : m ≤ 1000) : (F_levels V).F B [row a, .int m, .int c] C X = C (row (tq a m c)) := by
  simp [F_levels, X_levels, xf_F, show (m : Int) < 4611686018427387904 by omega, show (rngD 0 m).length ≤ 100000 by simp [rngD]; omega]
  rw [rng0, lcW_map (f := fun j : Nat => .int (a.map fun e => lev e c j).sum) (fun j hj Q => by
    have hj := List.mem_range.mp hj
    simp [level hl (show j ≤ 1000 by omega)])]
  rw [List.nil_append, show (fun j : Nat => D.int (a.map fun e => lev e c j).sum) = D.int ∘ fun j => (a.map fun e => lev e c j).sum from rfl, ← List.map_map]
  rfl
theorem turned_no_row {d dm dc : D} (h : Typed1 d) (no : isRow d = false) : (F_turned V).F B [d, dm, dc] C X = X ⟨V.cls .sums, [], []⟩ := by
  simp [F_turned, X_turned, xf_F, check_row h, no]
theorem turned_no_many {a : List Int} {dm dc : D} (h : Row a) (hm : Typed dm) (no : isIn dm 1 64 = false) : (F_turned V).F B [row a, dm, dc] C X = X ⟨V.cls .number, ["value"], [dm]⟩ := by
  simp [F_turned, X_turned, xf_F, check_row (typed1_row a), isRow_row h, check_within hm, no]
theorem turned_no_cap {a : List Int} {m : Nat} {dc : D} (h : Row a) (h1 : 1 ≤ m) (h2 : m ≤ 64) (hc : Typed dc) (no : isIn dc 1 (10 ^ 30 - 1) = false) : (F_turned V).F B [row a, .int m, dc] C X = X ⟨V.cls .number, ["value"], [dc]⟩ := by
  simp [F_turned, X_turned, xf_F, check_row (typed1_row a), isRow_row h, check_within (typed_int _), check_within hc, isIn, h1, h2]
  rw [if_pos ⟨by omega, by omega⟩, if_neg]
  intro z
  rw [show isIn dc 1 (10 ^ 30 - 1) = true by cases dc <;> simp_all [isIn]] at no
  cases no
theorem turned {a : List Int} {m : Nat} {c : Int} (h : Row a) (h1 : 1 ≤ m) (h2 : m ≤ 64) (c1 : 1 ≤ c) (c2 : c < 10 ^ 30) : (F_turned V).F B [row a, .int m, .int c] C X = if a.all (fun e => decide (e ≤ c * m)) = true then C (row (tq a m c)) else X ⟨V.cls .operation, [], []⟩ := by
  have l1 := h.l1
  have l2 := h.l2
  simp [F_turned, X_turned, xf_F, check_row (typed1_row a), isRow_row h, check_within (typed_int _), isIn, h1, h2, c1, show CMul c ↑m ∨ CMulW c ↑m from cmul2 ⟨by omega, by omega⟩, levels (show a.length ≤ 1000 by omega) (show m ≤ 1000 by omega)]
  rw [if_pos ⟨by omega, by omega⟩, if_pos (by omega)]
  simp [show 0 < a.length by omega]
  have ne : a ≠ [] := fun e => by rw [e] at l1; simp at l1
  by_cases q : ∀ x ∈ a, x ≤ c * m
  · have t1 : top a ≤ c * m := q _ (top_mem ne)
    rw [if_pos q]
    simp [t1, Int.not_lt.mpr t1]
  · have : ¬ top a ≤ c * m := fun h => q fun x m => Int.le_trans (le_top m) h
    simp [this, Int.not_le.mp this, q]
theorem law_turned {a : List Int} {m : Nat} {c : Int} (hl : a.length ≤ 1000) (hm : m ≤ 1000) (c1 : 0 ≤ c) : (F__law_turned V).F B [row a, .int m, .int c] C X = C (row (tq a m c)) := by
  simp [F__law_turned, X__law_turned, xf_F, show (m : Int) < 4611686018427387904 by omega]
  rw [rng0]
  refine forW_iff (fun (r : List Int × Sl) => [.val (row a), .val (.int m), .val (.int c), .own (r.1.map D.int), r.2, .un]) (fun j : Nat => .int j) (fun r j => (r.1 ++ [(a.map fun e => lev e c j).sum], .val (.int j))) (fun i r => r.1 = (List.range i).map fun j => (a.map fun e => lev e c j).sum) (a0 := ([], .un)) rfl (fun i j r e' hj hr => ⟨?_, ?_⟩) fun r hr => ?_
  · obtain ⟨rfl, hi⟩ := range_get hj
    have hl : r.1.length = j := by rw [hr]; simp
    simp [X__law_turned_L1, show r.1.length < 100000 by omega, show a.length ≤ 100000 by omega]
    rw [lcW_map (f := fun e : Int => .int (lev e c j)) (fun e _ Q => by
      simp [show CMul c ↑j ∨ CMulW c ↑j from cmul2 ⟨by omega, by omega⟩, lev]
      rw [show max 0 (min c (e - c * j)) = min c (max 0 (e - c * j)) by generalize e - c * j = z; omega])]
    rw [List.nil_append, intsM]
    simp [-List.map_map]
  · obtain ⟨rfl, hi⟩ := range_get hj
    rw [List.range_succ, List.map_append, ← hr]; rfl
  · simp at hr ⊢
    rw [hr]; rfl
theorem law_capped {p : Addr} {n : Nat} {t : Int} (bp : B p) (h2 : n ≤ 1000) (t0 : 0 ≤ t) (t1 : t < 2 ^ 150) (c : ∀ ns : List Int, ns.length = n → (∀ x ∈ ns, 0 ≤ x ∧ x ≤ t) → C (row ns)) : (F__law_capped V).F B [.cell p, .int n, .int t] C X := by
  simp [F__law_capped, X__law_capped, xf_F, bp, show (n : Int) < 4611686018427387904 by omega]
  intro w w0 w1
  refine forW_inv (fun i ss => ∃ (ns : List Int) (s5 : Sl), ss = [.val (.cell p), .val (.int n), .val (.int t), .own (ns.map D.int), .val (.int w), s5] ∧ ns.length = i ∧ ∀ x ∈ ns, 0 ≤ x ∧ x ≤ t) ⟨[], .un, rfl, rfl, by simp⟩ ?_ ?_
  · rintro i d ss' hd ⟨ns, s5, rfl, hl, hx⟩ e' n1 n2 n3 n4
    have hi : i < n := by
      have := (List.getElem?_eq_some_iff.mp hd).1
      simpa [rngD] using this
    have go : ∀ z : Int, 0 ≤ z → z ≤ t → e'.nx [.val (.cell p), .val (.int n), .val (.int t), .own (ns.map D.int ++ [.int z]), .val (.int w), .val d] := fun z z0 z1 => n1 _ ⟨ns ++ [z], .val d, by simp, by simp [hl], fun x m => by
      rcases List.mem_append.mp m with m | m
      · exact hx x m
      · rw [List.mem_singleton.mp m]; exact ⟨z0, z1⟩⟩
    have tt : t + 1 < 1606938044258990275541962092341162602522202993782792835301376 := by
      have : (2 : Int) ^ 150 < 1606938044258990275541962092341162602522202993782792835301376 := by decide +kernel
      generalize (2 : Int) ^ 150 = q at *
      omega
    have l1 : ns.length < 100000 := by omega
    by_cases hw : w = 2
    · simp [X__law_capped_L1, bp, hw, l1]
      intro r r0 r1
      rw [hw] at go
      by_cases hr : r = 0
      · exact .inr ⟨hr, go t t0 (by omega)⟩
      · exact .inl ⟨hr, ⟨by omega, tt⟩, fun r' h0 h1 => go r' h0 (by omega)⟩
    · simp [X__law_capped_L1, bp, hw, l1, tt]
      exact ⟨by omega, fun r r0 r1 => go r r0 (by omega)⟩
  · rintro ss' ⟨ns, s5, rfl, hl, hx⟩
    simp
    exact c ns (by simpa [rngD] using hl) hx
theorem mov_lt {ns : List Int} {s g : Nat} {m t : Int} (hs : s < ns.length) (hg : g < ns.length) (h : ∀ n ∈ ns, n ≤ t) (m0 : 0 ≤ m) (m1 : m ≤ t - nth0 ns g) : ∀ n ∈ movF ns s g m, n ≤ t := by
  have h1 : ∀ n ∈ ns.set s (ns.getD s 0 - m), n ≤ t := fun n hn => by
    rcases List.mem_or_eq_of_mem_set hn with hn | rfl
    · exact h n hn
    · have := h _ (getD_mem hs); omega
  intro n hn
  rcases List.mem_or_eq_of_mem_set hn with hn | rfl
  · exact h1 n hn
  · unfold nth0 at m1
    by_cases e : s = g
    · subst e
      rw [List.getD_eq_getElem?_getD, List.getElem?_set_self hs]
      have := h _ (getD_mem hs)
      simp; simp at this; omega
    · rw [List.getD_eq_getElem?_getD, List.getElem?_set_ne e, ← List.getD_eq_getElem?_getD]
      omega
theorem law_near_turned {p : Addr} {ns : List Int} {t : Int} (bp : B p) (h1 : 1 ≤ ns.length) (h2 : ns.length ≤ 100) (nn : ∀ n ∈ ns, 0 ≤ n ∧ n ≤ t) (c : ∀ ms : List Int, ms.length = ns.length → ms.sum = ns.sum → (∀ n ∈ ms, 0 ≤ n ∧ n ≤ t) → C (row ms)) : (F__law_near_turned V).F B [.cell p, row ns, .int t] C X := by
  simp [F__law_near_turned, X__law_near_turned, xf_F, bp]
  refine law_pick bp (by simp) (by simp) fun d m => ?_
  obtain ⟨z, rfl, z0⟩ : ∃ z : Int, d = .int z ∧ z ≤ 4 ∧ 0 ≤ z := by
    simp only [List.mem_cons, List.not_mem_nil, or_false] at m
    rcases m with rfl | rfl | rfl | rfl <;> exact ⟨_, rfl, by decide⟩
  clear m
  simp
  refine ⟨by omega, ?_⟩
  refine forW_inv (fun i ss => ∃ (ms : List Int) (s4 s5 s6 s7 : Sl), ss = [.val (.cell p), .val (row ns), .val (.int t), .val (row ms), s4, s5, s6, s7] ∧ ms.length = ns.length ∧ ms.sum = ns.sum ∧ ∀ n ∈ ms, 0 ≤ n ∧ n ≤ t) ⟨ns, .un, .un, .un, .un, rfl, rfl, rfl, nn⟩ ?_ ?_
  · rintro i d ss' hd ⟨ms, s4, s5, s6, s7, rfl, e1, e2, e3⟩ e' n1 n2 n3 n4
    simp [X__law_near_turned_L1, bp]
    refine ⟨⟨by omega, len200 (by omega)⟩, fun r r0 r1 => ⟨⟨by omega, len200 (by omega)⟩, fun q q0 q1 => ?_⟩⟩
    obtain ⟨s, rfl⟩ : ∃ s : Nat, r = s := ⟨r.toNat, by omega⟩
    obtain ⟨g, rfl⟩ : ∃ g : Nat, q = g := ⟨q.toNat, by omega⟩
    have hs : s < ms.length := by omega
    have hg : g < ms.length := by omega
    have v0 := e3 _ (getD_mem hs)
    have w0 := e3 _ (getD_mem hg)
    simp [exI_ints hs, exI_ints hg, law_moved hs hg (show ms.length ≤ 100000 by omega)]
    refine ⟨cdivw (by decide) (by decide), law_pick bp (by simp) (by simp) fun y m => ?_⟩
    have v0' : 0 ≤ nth0 ms s := v0.1
    obtain ⟨u, rfl, u0⟩ : ∃ u : Int, y = .int u ∧ 0 ≤ u := by
      simp only [List.mem_cons, List.not_mem_nil, or_false] at m
      rcases m with rfl | rfl | rfl <;> exact ⟨_, rfl, by omega⟩
    simp [law_moved hs hg (show ms.length ≤ 100000 by omega)]
    have w0' : 0 ≤ nth0 ms g ∧ nth0 ms g ≤ t := w0
    generalize hm : min u (min (nth0 ms s) (t - nth0 ms g)) = z
    have z0 : 0 ≤ z ∧ z ≤ nth0 ms s ∧ z ≤ t - nth0 ms g := by omega
    exact n1 _ ⟨movF ms s g z, _, _, _, _, rfl, by rw [mov_len]; exact e1, by rw [mov_sum hs hg]; exact e2, fun n m => ⟨mov_nn hs hg (fun n m => (e3 n m).1) z0.1 z0.2.1 n m, mov_lt hs hg (fun n m => (e3 n m).2) z0.1 z0.2.2 n m⟩⟩
  · rintro ss' ⟨ms, s4, s5, s6, s7, rfl, e1, e2, e3⟩
    simp
    refine ⟨⟨bp, by omega⟩, fun ys pe => ?_⟩
    obtain ⟨ls, rfl, pl⟩ := perm_ints pe
    exact c ls (by rw [pl.length_eq, e1]) (by rw [← e2]; exact perm_sum pl) fun n m => e3 n (pl.mem_iff.mp m)
/-- what is no number within, and can be told -/
def oddN (lo hi : Int) (d : D) : Bool := typedB d && !isIn d lo hi
abbrev toldOf (dm dc : D) : D := .lst [.lst [.str "sums"], .lst [.str "number", dm], .lst [.str "number", dm], .lst [.str "number", dc]]
theorem law_errors_right (hn : ∀ c ∈ cl__law_outcome, c.1 ∈ V.names) {p : Addr} {a : List Int} {t : Int} (bp : B p) (hT : B.tb V.T0) (ha : Row a) (t1 : 1 ≤ t) (t2 : t < 10 ^ 30) (c : C (.bl true)) : (F__law_errors_right V hn).F B [.cell p, row a, .int t] C X := by
  simp [F__law_errors_right, X__law_errors_right, xf_F, bp, show CPowW 10 39 = True from eq_true ⟨by decide, by decide +kernel⟩]
  refine law_odd_row bp fun d td no => ?_
  refine law_pick bp (by simp) (by simp) fun dm m => ?_
  refine law_pick bp (by simp) (by simp) fun dc m' => ?_
  have key : ∀ (l : List D) (lo hi : Int), (l.all fun x => oddN lo hi x) = true → ∀ x ∈ l, Typed x ∧ isIn x lo hi = false := fun l lo hi h x hx => by
    have := List.all_eq_true.mp h x hx
    simp only [oddN, Bool.and_eq_true, Bool.not_eq_true'] at this
    exact ⟨(typed_of this.1).1, this.2⟩
  have key2 : ∀ (l l' : List D), (l.all fun x => l'.all fun y => shw (toldOf x y)) = true → ∀ x ∈ l, ∀ y ∈ l', shw (toldOf x y) = true := fun l l' h x hx y hy => List.all_eq_true.mp (List.all_eq_true.mp h x hx) y hy
  have sh := key2 _ _ (by decide +kernel) dm m dc m'
  obtain ⟨ty, nm⟩ := key _ 1 64 (by decide +kernel) dm m
  obtain ⟨ty', nm'⟩ := key _ 1 (10 ^ 30 - 1) (by decide +kernel) dc m'
  clear m m'
  have one := fun (B : Sc) (X : XP) (C : D → Prop) => turned_no_cap (V := V) (B := B) (X := X) (C := C) (m := 1) ha (by decide) (by decide) ty' nm'
  simp at one
  simp [turned_no_row td no, hT, turned_no_many ha ty nm, cl__law_outcome, one]
  exact ⟨sh, c⟩
theorem noDict_ints : ∀ ns : List Int, PyData.hasDictAll (rps (ns.map .int)) = false
  | [] => rfl
  | n :: r => by
    show (PyData.hasDict (.int n) || PyData.hasDictAll (rps (r.map .int))) = false
    rw [noDict_ints r]; rfl
theorem shw_row {ns : List Int} (hl : ns.length ≤ 1000) (h : ∀ n ∈ ns, n.natAbs < 10 ^ 45) : shw (row ns) = true := by
  have w := weight_ints h
  have w2 : (PyData.list (rps (ns.map .int))).weight ≤ 200000 := by
    show PyData.weightAll (rps (ns.map .int)) ≤ 200000
    omega
  simp only [shw, roks_ints h, noDict_ints, w2, depth_ints, decide_true, Bool.not_false, Bool.true_and, Bool.and_true]
  decide
theorem abs45 {n : Int} (h : 0 ≤ n ∧ n < 10 ^ 30) : n.natAbs < 10 ^ 45 := by
  have : (10 : Nat) ^ 30 < 10 ^ 45 := by decide
  have : n.natAbs < 10 ^ 30 := by omega
  omega
theorem law_right_8 (hn : ∀ c ∈ cl__law_outcome, c.1 ∈ V.names) {p : Addr} (bp : B p) (hT : B.tb V.T0) (c : C (.bl true)) : (F__law_right_8 V hn).F B [.cell p] C X := by
  simp [F__law_right_8, X__law_right_8, xf_F, bp]
  refine law_great bp fun g g0 g1 => ?_
  simp
  refine ⟨cdivw (by decide) (by decide), law_pick bp (by simp) (by simp) fun d m => ?_⟩
  obtain ⟨t, rfl, t0, t1⟩ : ∃ t : Int, d = .int t ∧ 1 ≤ t ∧ t ≤ 10 ^ 26 := by
    simp only [List.mem_cons, List.not_mem_nil, or_false] at m
    rcases m with rfl | rfl | rfl | rfl | rfl | rfl <;> exact ⟨_, rfl, by omega⟩
  clear m
  intro r r0 r1 q q0 q1
  obtain ⟨m, hm, m1, m5⟩ : ∃ m : Nat, 1 + r = (m : Int) ∧ 1 ≤ m ∧ m ≤ 5 := ⟨(1 + r).toNat, by omega, by omega, by omega⟩
  obtain ⟨n, hn', n1, n5⟩ : ∃ n : Nat, 1 + q = (n : Int) ∧ 1 ≤ n ∧ n ≤ 5 := ⟨(1 + q).toNat, by omega, by omega, by omega⟩
  rw [hm, hn']
  have bt : ∀ z : Int, 0 ≤ z → z ≤ 5 → CMul t z ∨ CMulW t z := fun z z0 z1 => cmul2 ⟨by omega, by omega⟩
  simp [bt _ (show (0 : Int) ≤ m by omega) (by omega), bt _ (show (0 : Int) ≤ n by omega) (by omega)]
  have tm : t * (m : Int) ≤ 10 ^ 26 * 5 := Int.le_trans (Int.mul_le_mul_of_nonneg_right t1 (by omega)) (Int.mul_le_mul_of_nonneg_left (by omega) (by decide))
  have tm0 : 0 ≤ t * (m : Int) := Int.mul_nonneg (by omega) (by omega)
  have tn : t * (n : Int) ≤ 10 ^ 26 * 5 := Int.le_trans (Int.mul_le_mul_of_nonneg_right t1 (by omega)) (Int.mul_le_mul_of_nonneg_left (by omega) (by decide))
  refine law_capped bp (by omega) tm0 (by generalize t * (m : Int) = z at *; omega) fun a al ain => ?_
  have ra : Row a := ⟨by omega, by omega, fun x h => ⟨(ain x h).1, by have := (ain x h).2; omega⟩⟩
  have rt : Row (tq a m t) := ⟨by rw [tq_len]; omega, by rw [tq_len]; omega, fun x h => by
    have := tq_in (by omega) x h
    rw [al] at this
    exact ⟨this.1, by omega⟩⟩
  have q1 : a.all (fun e => decide (e ≤ t * m)) = true := List.all_eq_true.mpr fun e h => decide_eq_true (ain e h).2
  have shr : shw (row (tq a m t)) = true := shw_row (by have := rt.l2; omega) fun x h => abs45 (rt.e x h)
  have sum_ := tq_sum (m := m) ain (show 0 ≤ t by omega)
  simp [turned ra m1 (show m ≤ 64 by omega) t0 (show t < 10 ^ 30 by omega), q1, law_turned (show a.length ≤ 1000 by omega) (show m ≤ 1000 by omega) (show 0 ≤ t by omega), shr, sum_, tq_down (show 0 ≤ t by omega)]
  have per : ∀ (ys : List D), ys.Perm (a.map D.int) → ∀ (B : Sc) (C : D → Prop), (F_turned V).F B [D.tup ys, D.int m, D.int t] C (fun _ => False) = C (row (tq a m t)) := by
    intro ys pe B C
    obtain ⟨ls, rfl, pl⟩ := perm_ints pe
    have rl : Row ls := ⟨by rw [pl.length_eq]; exact ra.l1, by rw [pl.length_eq]; exact ra.l2, fun x h => ra.e x (pl.mem_iff.mp h)⟩
    rw [turned rl m1 (by omega) t0 (by omega), if_pos, tq_perm pl]
    exact List.all_eq_true.mpr fun e h => decide_eq_true (ain e (pl.mem_iff.mp h)).2
  have rtt : Row (tq (tq a m t) n t) := ⟨by rw [tq_len]; omega, by rw [tq_len]; omega, fun x h => by
    have := tq_in (by omega) x h
    rw [tq_len] at this
    exact ⟨this.1, by omega⟩⟩
  have qt : (tq a m t).all (fun e => decide (e ≤ t * n)) = true := List.all_eq_true.mpr fun e h => decide_eq_true (by
    have := tq_in (show 0 ≤ t by omega) e h
    rw [al] at this; exact this.2)
  have d2 : undB a (tq (tq a m t) n t) = true := by
    have := und_turn (a := tq a m t) (b := a) (c := t) (by omega) (by rw [al]; exact fun e h => by have := tq_in (show 0 ≤ t by omega) e h; rw [al] at this; exact this) (by rw [tq_len]; exact ain) sum_
    rw [tq_len, und_refl, al] at this
    exact this.symm
  have t2 : ∀ (B : Sc) (X : XP) (C : D → Prop), (F_turned V).F B [row a, .int (m + 2), .int t] C X = C (row (tq a m t ++ [0, 0])) := fun B X C => by
    have p : t * (m : Int) ≤ t * ((m + 2 : Nat) : Int) := Int.mul_le_mul_of_nonneg_left (by omega) (by omega)
    rw [show (m : Int) + 2 = ((m + 2 : Nat) : Int) by omega, turned ra (by omega) (by omega) t0 (by omega), if_pos, tq_more (fun e h => (ain e h).2) (by omega)]
    exact List.all_eq_true.mpr fun e h => decide_eq_true (by have := (ain e h).2; omega)
  have t3 : ∀ (B : Sc) (X : XP) (C : D → Prop), (F_turned V).F B [.tup (a.map D.int ++ [.int (t * m + 1)]), .int m, .int t] C X = X ⟨V.cls .operation, [], []⟩ := fun B X C => by
    have rf : Row (a ++ [t * m + 1]) := ⟨by simp, by simp; omega, fun x h => by
      rcases List.mem_append.mp h with h | h
      · exact ra.e x h
      · rw [List.mem_singleton.mp h]; omega⟩
    rw [show (a.map D.int ++ [.int (t * m + 1)] : List D) = (a ++ [t * m + 1]).map D.int by simp, turned rf m1 (by omega) t0 (by omega), if_neg]
    intro z
    have := List.all_eq_true.mp z (t * m + 1) (by simp)
    simp at this
    omega
  have er := fun (B : Sc) (bp : B p) (hT : B.tb V.T0) => law_errors_right (V := V) (X := fun _ => False) (B := B) (C := C) hn bp hT ra t0 (by omega) c
  have w3 : pyk 62 (D.str (Str.ofString "operation")) = true := by decide +kernel
  have w4 : pyk 63 (D.str (Str.ofString "operation")) = true := by decide +kernel
  have goal2 : ∀ (P Q : Prop), (t = 1 → Q) → (¬ t = 1 → P) → (¬ t = 1 ∧ P) ∨ (t = 1 ∧ Q) := fun P Q h1 h2 => by
    by_cases e : t = 1
    · exact .inr ⟨e, h1 e⟩
    · exact .inl ⟨e, h2 e⟩
  have e0 : (D.tup (List.map D.int (tq a m t) ++ [D.int 0, D.int 0])) = row (tq a m t ++ [0, 0]) := by simp
  have tl := tq_len a m t
  refine goal2 _ _ (fun e => ?_) (fun e => ?_)
  · have q2 : a.all (fun x => decide (x ≤ 1 * m)) = true := by rw [e] at q1; exact q1
    rw [turned ra m1 (show m ≤ 64 by omega) (show (1 : Int) ≤ 1 by omega) (show (1 : Int) < 10 ^ 30 by omega), if_pos q2, show tq a m 1 = tq a m t by rw [e]]
    simp
    refine ⟨⟨bp, by omega⟩, fun ys pe => ?_⟩
    rw [per ys pe]
    simp
    refine law_near_turned bp (by rw [tq_len]; exact m1) (by rw [tq_len]; omega) (fun x h => by have := tq_in (by omega) x h; rw [al] at this; exact this) fun ms ml msum mn => ?_
    rw [tq_len] at ml
    have rm : Row ms := ⟨by omega, by omega, fun x h => ⟨(mn x h).1, by have := (mn x h).2; omega⟩⟩
    have sm : ms.sum = a.sum := msum.trans sum_
    have qn : ms.all (fun e => decide (e ≤ t * n)) = true := List.all_eq_true.mpr fun e h => decide_eq_true (mn e h).2
    have rmt : Row (tq ms n t) := ⟨by rw [tq_len]; omega, by rw [tq_len]; omega, fun x h => by
      have := tq_in (by omega) x h
      rw [ml] at this
      exact ⟨this.1, by omega⟩⟩
    have dual := und_turn (a := ms) (b := a) (c := t) (by omega) (by rw [al]; exact mn) (by rw [ml]; exact ain) sm
    rw [ml, al] at dual
    simp [is_under rm rt, turned rm n1 (show n ≤ 64 by omega) t0 (show t < 10 ^ 30 by omega), qn, is_under ra rmt, dual]
    simp [turned rt n1 (show n ≤ 64 by omega) t0 (show t < 10 ^ 30 by omega), qt, law_under (show a.length ≤ 99999 by omega) (show (tq (tq a m t) n t).length ≤ 99999 by rw [tq_len]; omega), d2, t2]
    simp [eqDs_self, hT, t3, cl__law_outcome, w3, w4, tl, show m ≤ 99998 by omega, show a.length ≤ 99999 by omega]
    exact er B bp hT
  · refine ⟨⟨bp, by omega⟩, fun ys pe => ?_⟩
    rw [per ys pe]
    simp
    refine law_near_turned bp (by rw [tq_len]; exact m1) (by rw [tq_len]; omega) (fun x h => by have := tq_in (by omega) x h; rw [al] at this; exact this) fun ms ml msum mn => ?_
    rw [tq_len] at ml
    have rm : Row ms := ⟨by omega, by omega, fun x h => ⟨(mn x h).1, by have := (mn x h).2; omega⟩⟩
    have sm : ms.sum = a.sum := msum.trans sum_
    have qn : ms.all (fun e => decide (e ≤ t * n)) = true := List.all_eq_true.mpr fun e h => decide_eq_true (mn e h).2
    have rmt : Row (tq ms n t) := ⟨by rw [tq_len]; omega, by rw [tq_len]; omega, fun x h => by
      have := tq_in (by omega) x h
      rw [ml] at this
      exact ⟨this.1, by omega⟩⟩
    have dual := und_turn (a := ms) (b := a) (c := t) (by omega) (by rw [al]; exact mn) (by rw [ml]; exact ain) sm
    rw [ml, al] at dual
    simp [is_under rm rt, turned rm n1 (show n ≤ 64 by omega) t0 (show t < 10 ^ 30 by omega), qn, is_under ra rmt, dual]
    simp [turned rt n1 (show n ≤ 64 by omega) t0 (show t < 10 ^ 30 by omega), qt, law_under (show a.length ≤ 99999 by omega) (show (tq (tq a m t) n t).length ≤ 99999 by rw [tq_len]; omega), d2, t2]
    simp [eqDs_self, hT, t3, cl__law_outcome, w3, w4, tl, show m ≤ 99998 by omega, show a.length ≤ 99999 by omega]
    exact er B bp hT
end Sp
namespace Sp
open PySem PySem.Spec PyProof.Rows L2 SQ XQ XD
variable {V : Ve} {B : Sc} {X : XP} {C : D → Prop}
theorem rb_steps {n : Nat} : ∀ {xs : List D} {f g : List Int}, rbF n f xs = some g → ∀ x ∈ xs, isStepB x n = true
  | [], _, _, _, x, m => by cases m
  | y :: xs, f, g, h, x, m => by
    simp only [rbF] at h
    by_cases hs : isStepB y n = true
    · obtain ⟨i, j, k, rfl, _⟩ := step_is hs
      simp only [hs, if_true] at h
      by_cases h2 : nth0 f (i : Int).toNat < nth0 f (j : Int).toNat + 2 * k
      · simp only [h2, if_true] at h; cases h
      · simp only [h2, if_false] at h
        rcases List.mem_cons.mp m with rfl | m
        · exact hs
        · exact rb_steps h x m
    · rw [if_neg hs] at h; cases h
theorem step_more {d : D} {n m : Int} (h : isStepB d n = true) (hm : n ≤ m) : isStepB d m = true := by
  unfold isStepB at h ⊢
  split at h
  · simp only [Bool.and_eq_true] at h ⊢
    obtain ⟨h1, h2, h3⟩ := h
    obtain ⟨i, rfl, i0, i1⟩ := isIn_int h1
    obtain ⟨j, rfl, j0, j1⟩ := isIn_int h2
    exact ⟨by simp [isIn]; omega, by simp [isIn]; omega, h3⟩
  · cases h
theorem law_steps_right (hn : ∀ c ∈ cl__law_outcome, c.1 ∈ V.names) {p : Addr} {a : List Int} (bp : B p) (hT : B.tb V.T0) (ha : Row a) (hl : a.length ≤ 50) (hb : a.sum < 10 ^ 30) (c : C (.bl true)) : (F__law_steps_right V hn).F B [.cell p, row a] C X := by
  simp [F__law_steps_right, X__law_steps_right, xf_F]
  refine law_walked bp ha hb fun qs ql hq hf => ?_
  have ts : ∀ x ∈ qs.map stepD, Typed1 x := fun x m => by
    obtain ⟨q, _, rfl⟩ := List.mem_map.mp m
    exact typed_step q
  simp [hT, after_tup ha ts, cl__law_outcome]
  have opk : shw (.lst [.str (Str.ofString "operation")]) = true := by decide +kernel
  cases hr : rbF a.length a (qs.map stepD) with
  | none =>
    simp [rbD, opk]
    refine law_near_row bp ha.l1 (by have := ha.l2; omega) (fun n m => (ha.e n m).1) fun ms m1 m2 m3 => ?_
    have rm : Row ms := ⟨by have := ha.l1; omega, by have := ha.l2; omega, fun n m => ⟨m3 n m, by have := sum_mem_le m3 m; omega⟩⟩
    simp [is_road_tup ha rm ts, hr]
    exact c
  | some f =>
    obtain ⟨f1, f2, f3⟩ := hf f hr
    have rf : Row f := ⟨by have := ha.l1; omega, by have := ha.l2; omega, fun n m => ⟨f3 n m, by have := sum_mem_le f3 m; omega⟩⟩
    have sh : shw (row f) = true := shw_row (by omega) fun x h => abs45 (rf.e x h)
    simp [rbD, sh]
    have st := rb_steps hr
    have st64 : (qs.map stepD).all (fun x => isStepB x 64) = true := List.all_eq_true.mpr fun x m => step_more (st x m) (by have := ha.l2; omega)
    rw [units_tup (by simp; omega) ts, if_pos st64]
    simp [show qs.length ≤ 100000 by omega]
    rw [lcW_map (f := fun q : Int × Int × Int => .int q.2.2) (fun q _ Q => by simp [stepD, show ∀ x y z : D, atI [x, y, z] 2 = some z from fun _ _ _ => rfl])]
    rw [List.nil_append, intsM]
    have es : (List.map (thD ∘ stepD) qs).sum = (qs.map fun q => q.2.2).sum := by
      congr 1
    simp [-List.map_map, es]
    refine law_near_row bp (by have := rf.l1; omega) (by have := rf.l2; omega) f3 fun ms m1 m2 m3 => ?_
    have rm : Row ms := ⟨by have := rf.l1; omega, by have := rf.l2; omega, fun n m => ⟨m3 n m, by have := sum_mem_le m3 m; omega⟩⟩
    simp [is_road_tup ha rm ts, is_road_tup ha rf ts, hr]
    have e : decide (f = ms) = decide (ms = f) := by rw [Bool.eq_iff_iff, decide_eq_true_eq, decide_eq_true_eq]; exact eq_comm
    exact .inl ⟨by rw [e], c⟩
/-- no steps -/
def hd0 : List D → D
  | x :: _ => x
  | [] => .non
def oddS (d : D) : Bool := typedB d && match d with
  | .tup xs => xs.all typedB && decide (1 ≤ xs.length ∧ xs.length ≤ 10) && !isStepB (hd0 xs) 64
  | _ => true
structure OddS (d : D) (a : List Int) : Prop where
  t : Typed d
  k : (∀ xs, d ≠ .tup xs) ∨ ∃ xs, d = .tup xs ∧ xs.length ≤ 10 ∧ (∀ x ∈ xs, Typed1 x) ∧ rbF a.length a xs = none ∧ xs.all (fun x => isStepB x 64) = false
theorem odd_is {a : List Int} {d : D} (ha : Row a) (h : oddS d = true) : OddS d a := by
  unfold oddS at h
  rw [Bool.and_eq_true] at h
  obtain ⟨t, h⟩ := h
  refine ⟨(typed_of t).1, ?_⟩
  cases d with
  | tup xs =>
    simp only [Bool.and_eq_true, Bool.not_eq_true', decide_eq_true_eq] at h
    obtain ⟨⟨h1, h2⟩, h3⟩ := h
    refine .inr ⟨xs, rfl, h2.2, fun x m => typed_of (List.all_eq_true.mp h1 x m), ?_⟩
    cases xs with
    | nil => simp at h2
    | cons x r =>
      have h3 : isStepB x 64 = false := h3
      have : ¬ isStepB x a.length = true := fun z => by
        have := step_more z (show (a.length : Int) ≤ 64 by have := ha.l2; omega)
        rw [h3] at this; cases this
      refine ⟨?_, by simp [h3]⟩
      simp only [rbF]
      rw [if_neg this]
  | _ => exact .inl fun xs e => by cases e
theorem odd_units {a : List Int} {d : D} (h : OddS d a) : (F_units V).F B [d] C X = X ⟨V.cls .operation, [], []⟩ := by
  rcases h.k with k | ⟨xs, rfl, l, t, r, n⟩
  · exact units_odd h.t k
  · rw [units_tup (by omega) t, if_neg (by rw [n]; simp)]
theorem odd_after {a : List Int} {d : D} (ha : Row a) (h : OddS d a) : (F_after V).F B [row a, d] C X = X ⟨V.cls .operation, [], []⟩ := by
  rcases h.k with k | ⟨xs, rfl, l, t, r, n⟩
  · exact after_odd ha h.t k
  · rw [after_tup ha t, r]
theorem odd_road {a : List Int} {d : D} (ha : Row a) (h : OddS d a) : (F_is_road V).F B [row a, row a, d] C X = C (.bl false) := by
  rcases h.k with k | ⟨xs, rfl, l, t, r, n⟩
  · exact is_road_odd ha ha h.t k
  · rw [is_road_tup ha ha t, r]; rfl
theorem law_odd_right (hn : ∀ c ∈ cl__law_outcome, c.1 ∈ V.names) {p : Addr} {a : List Int} (bp : B p) (hT : B.tb V.T0) (ha : Row a) (c : C (.bl true)) : (F__law_odd_right V hn).F B [.cell p, row a] C X := by
  simp [F__law_odd_right, X__law_odd_right, xf_F]
  refine law_pick bp (by simp) (by simp) fun d m => ?_
  have key : ∀ (l : List D), (l.all oddS) = true → ∀ x ∈ l, OddS x a := fun l h x hx => odd_is ha (List.all_eq_true.mp h x hx)
  have od := key _ (by decide +kernel) d m
  clear m
  refine law_odd_row bp fun o td no => ?_
  have w1 : pyk 62 (D.str (Str.ofString "operation")) = true := by decide +kernel
  have w2 : pyk 62 (D.str (Str.ofString "sums")) = true := by decide +kernel
  have em : ∀ (B : Sc) (X : XP) (C : D → Prop), (F_is_road V).F B [row a, row a, .tup []] C X = C (.bl true) := fun B X C => by
    rw [is_road_tup ha ha (by simp)]; simp [rbF]
  simp [hT, odd_units od, odd_after ha od, odd_road ha od, after_no td no, is_road_no td (typed1_row a) (.inl no), is_road_no (typed1_row a) td (.inr no), em, cl__law_outcome, w1, w2]
  exact c
theorem deown_any {s : Sl} {r : List Sl} : deown (s :: r) = dOwn s :: deown r := rfl
/-- the end of it -/
def T6 (V : Ve) (hn : ∀ c ∈ cl__law_outcome, c.1 ∈ V.names) : XS (Good V) :=
  (seq (XQ.set 6 (call0 (F__law_odd_row V) (acons (var 0) anil)))
      (seq (setO 7 (lst (acons (outc V cl__law_outcome hn (callE (F_arranged V) (acons (var 6) (acons (var 1) anil)))) anil)))
      (seq (app 7 (outc V cl__law_outcome hn (callE (F_arranged V) (acons (var 1) (acons (var 6) anil)))))
      (seq (app 7 (outc V cl__law_outcome hn (callE (F_is_arranged_alike V) (acons (var 1) (acons (var 6) anil)))))
      (freeze 7 (XQ.ret (andV (op req (var 7) (frz (opO rmulO (frz (lst (acons (frz (lst (acons (str "sums") anil))) anil))) (int 3)))) (andV (call0 (F__law_steps_right V hn) (acons (var 0) (acons (var 1) anil))) (call0 (F__law_odd_right V hn) (acons (var 0) (acons (var 1) anil)))))))))))
theorem outc_sums (hn : ∀ c ∈ cl__law_outcome, c.1 ∈ V.names) {e : XE (Good V)} {ss : List Sl} (hT : B.tb V.T0) (h : ∀ B' : Sc, e.pre B' (fun x => oX V cl__law_outcome x C) (deown ss) C = oX V cl__law_outcome ⟨V.cls .sums, [], []⟩ C) (c : C (.lst [.str "sums"])) : (outc V cl__law_outcome hn e).pre B X ss C :=
  ⟨hT, fun B' _ => by rw [h]; exact (if_pos (rfl : V.cls .sums = V.cls .sums)).mpr c⟩
theorem t6 (hn : ∀ c ∈ cl__law_outcome, c.1 ∈ V.names) {p : Addr} {a : List Int} {d2 d3 : D} {s4 s5 : Sl} (h45 : (s4 = .un ∧ s5 = .un) ∨ ∃ x y, s4 = .val x ∧ s5 = .val y) (bp : B p) (hT : B.tb V.T0) (ha : Row a) (hl : a.length ≤ 50) (hb : a.sum < 10 ^ 30) (c : C (.bl true)) : XQ.run (T6 V hn) B X [.val (.cell p), .val (row a), .val d2, .val d3, s4, s5, .un, .un, .un] (en0 C) := by
  have key : (F__law_odd_row V).F B [D.cell p] (fun d => XQ.run (seq
      (setO 7 (lst (acons (outc V cl__law_outcome hn (callE (F_arranged V) (acons (var 6) (acons (var 1) anil)))) anil)))
      (seq (app 7 (outc V cl__law_outcome hn (callE (F_arranged V) (acons (var 1) (acons (var 6) anil)))))
      (seq (app 7 (outc V cl__law_outcome hn (callE (F_is_arranged_alike V) (acons (var 1) (acons (var 6) anil)))))
      (freeze 7 (XQ.ret (andV (op req (var 7) (frz (opO rmulO (frz (lst (acons (frz (lst (acons (str "sums") anil))) anil))) (int 3)))) (andV (call0 (F__law_steps_right V hn) (acons (var 0) (acons (var 1) anil))) (call0 (F__law_odd_right V hn) (acons (var 0) (acons (var 1) anil)))))))))) B X [.val (.cell p), .val (row a), .val d2, .val d3, s4, s5, .val d, .un, .un] (en0 C)) (fun _ => False) := by
    refine law_odd_row bp fun d td no => ?_
    have w2 : pyk 62 (D.str (Str.ofString "sums")) = true := by decide +kernel
    refine ⟨by simp, outc_sums (X := X) hn hT (fun B' => arranged_no td (typed1_row a) (.inl no)) ⟨by simp, ⟨by simp, outc_sums (X := X) hn hT (fun B' => arranged_no (typed1_row a) td (.inr no)) ⟨by simp, outc_sums (X := X) hn hT (fun B' => is_arranged_no (typed1_row a) td (.inr no)) ?_⟩⟩⟩⟩
    simp [w2]
    refine law_steps_right hn bp hT ha hl hb ?_
    simp
    exact law_odd_right hn bp hT ha c
  rw [run_cons, T6, seq_pre, set_pre, call0_pre]
  refine ⟨by simp, ?_⟩
  rw [acons_pre, var_pre, getV_0, anil_pre]
  refine (F__law_odd_row V).mono ⟨fun _ h => h, fun _ h => h⟩ (fun _ h => h) (fun d hd => ?_) key
  show XQ.run (seq (setO 7 _) _) B X (List.set _ 6 _) _
  rw [show List.set [Sl.val (D.cell p), Sl.val (row a), Sl.val d2, Sl.val d3, s4, s5, Sl.un, Sl.un, Sl.un] 6 (.val d) = [Sl.val (D.cell p), Sl.val (row a), Sl.val d2, Sl.val d3, s4, s5, .val d, Sl.un, Sl.un] from rfl]
  with_reducible exact hd
theorem law_right_6 (hn : ∀ c ∈ cl__law_outcome, c.1 ∈ V.names) {p : Addr} (bp : B p) (hT : B.tb V.T0) (c : C (.bl true)) : (F__law_right_6 V hn).F B [.cell p] C X := by
  simp [F__law_right_6, X__law_right_6, xf_F]
  refine law_drawn_row (m := 7) bp (by decide) (by decide) fun a l1 l7 hns => ?_
  have nn := fun n m => (hns n m).1
  have ra : Row a := row_near (by omega) hns l1 rfl rfl nn
  have sb : a.sum < 10 ^ 30 := by
    have a2 := sum_le_len (l := a) (c := 10 ^ 28) fun x m => by have := (hns x m).2; omega
    have : (a.length : Int) * 10 ^ 28 ≤ 7 * 10 ^ 28 := Int.mul_le_mul_of_nonneg_right (by omega) (by decide)
    omega
  refine law_near_row bp l1 (by omega) nn fun ms e1 s1 nn1 => ?_
  have rm : Row ms := row_near (by omega) hns l1 e1 s1 nn1
  simp [show a.length ≤ 100000 by omega]
  refine lcW_all (P := fun d => ∃ n : Int, d = .int n ∧ 0 ≤ n ∧ n < 5) (fun d _ Q q => by
    simp [bp]
    exact fun r r0 r1 => q _ ⟨r, rfl, r0, r1⟩) fun ys hl hy => ?_
  obtain ⟨us, rfl, hu⟩ := ints_of hy
  have ul : us.length = a.length := by simpa using hl
  have ru : Row us := ⟨by omega, by omega, fun n m => ⟨(hu n m).1, by have := (hu n m).2; omega⟩⟩
  refine law_pick bp (by simp) (by simp) fun d m => ?_
  obtain ⟨l, rfl, rl, ll⟩ : ∃ l : List Int, d = row l ∧ Row l ∧ l.length = a.length := by
    simp only [List.mem_cons, List.not_mem_nil, or_false, List.nil_append] at m
    rcases m with rfl | rfl
    · exact ⟨ms, rfl, rm, e1⟩
    · exact ⟨us, rfl, ru, ul⟩
  clear m
  have hal : a.length = l.length := ll.symm
  have rt : Row (arrF a l) := ⟨by rw [arr_len]; omega, by rw [arr_len]; omega, fun x h => ra.e x (arr_mem hal x h)⟩
  have sht : shw (row (arrF a l)) = true := shw_row (by rw [arr_len]; omega) fun x h => abs45 (rt.e x h)
  have tl := arr_len a l
  rw [arranged ra rl, if_pos hal]
  refine ⟨sht, ?_⟩
  rw [law_arranged hal (show a.length ≤ 64 by omega)]
  refine ⟨sht, .inl ⟨rfl, ?_⟩⟩
  rw [is_arranged rt rl]
  refine .inr ⟨by rw [tl, hal, arr_alk hal]; simp, ?_⟩
  refine forW_inv (fun _ ss => ∃ s4 s5 : Sl, ss = [.val (.cell p), .val (row a), .val (row l), .val (row (arrF a l)), s4, s5, .un, .un, .un] ∧ ((s4 = .un ∧ s5 = .un) ∨ ∃ x y, s4 = .val x ∧ s5 = .val y)) ⟨_, _, rfl, .inl ⟨rfl, rfl⟩⟩ ?_ ?_
  · rintro i d ss' hi ⟨s4, s5, rfl, h45⟩ e' n1 n2 n3 n4
    have key : ∃ x y : List Int, d = .tup [row x, row y] ∧ Row x ∧ Row y ∧ x.length = y.length ∧ x.length ≤ 64 := by
      have := List.mem_of_getElem? hi
      simp only [List.mem_cons, List.not_mem_nil, or_false] at this
      rcases this with rfl | rfl | rfl | rfl
      · exact ⟨_, _, rfl, ra, rl, hal, by omega⟩
      · exact ⟨_, _, rfl, rl, ra, hal.symm, by omega⟩
      · exact ⟨_, _, rfl, rt, ra, tl, by omega⟩
      · refine ⟨a, a.reverse, by rw [← List.map_reverse], ra, ⟨by simp; omega, by simp; omega, fun x h => ra.e x (by simpa using h)⟩, by simp, by omega⟩
    obtain ⟨x, y, rfl, rx, ry, hxy, x64⟩ := key
    clear n2 n3 n4
    simp [X__law_right_6_L1]
    rw [is_arranged rx ry]
    refine ⟨rfl, ?_⟩
    rw [law_alike hxy x64]
    exact ⟨rfl, .inl ⟨by rw [show (decide (x.length = y.length) && alk x y) = alk x y by simp [hxy]], n1 _ ⟨_, _, rfl, .inr ⟨_, _, rfl, rfl⟩⟩⟩⟩
  · rintro ss' ⟨s4, s5, rfl, h45⟩
    have e0 : (D.tup (a.map D.int ++ [.int 0])) = row (a ++ [0]) := by simp
    have r0 : Row (a ++ [0]) := ⟨by simp, by simp; omega, fun x h => by
      rcases List.mem_append.mp h with h | h
      · exact ra.e x h
      · rw [List.mem_singleton.mp h]; exact ⟨by decide, by decide⟩⟩
    have ne : ¬ a.length = (a ++ [0]).length := by simp
    change XQ.run (seq (ifS (test (op rnotB (call0 (F_is_arranged_alike V) (acons (var 1) (acons (op radd (var 1) (tup (acons (int 0) anil))) anil))) (bl false))) (XQ.ret (bl false)) skip)
      (seq (ifS (test (op rne (outc V cl__law_outcome hn (callE (F_arranged V) (acons (var 1) (acons (op radd (var 1) (tup (acons (int 0) anil))) anil)))) (frz (lst (acons (str "operation") anil))))) (XQ.ret (bl false)) skip)
      (T6 V hn))) B X [.val (.cell p), .val (row a), .val (row l), .val (row (arrF a l)), s4, s5, .un, .un, .un] (en0 C)
    have w2 : pyk 62 (D.str (Str.ofString "operation")) = true := by decide +kernel
    have w3 : pyk 63 (D.str (Str.ofString "operation")) = true := by decide +kernel
    simp [-List.map_append, e0, is_arranged ra r0, arranged ra r0, hT, cl__law_outcome, w2, w3]
    exact ⟨by omega, t6 hn h45 bp hT ra (by omega) sb c⟩
end Sp
/-! lacks of rows: mathematics -/
namespace Sp
open PySem PySem.Spec PyProof.Rows L2 SQ XQ XD
def mins (k : Int) (l : List Int) : Int := (l.map fun x => min k x).sum
/-- the lack of the first k of a falling row -/
def lk (d : List Int) (k : Nat) : Int := (d.take k).sum - (k : Int) * ((k : Int) - 1) - mins k (d.drop k)
def gl (d : List Int) : Int := top ((List.range (d.length + 1)).map fun k => lk (down d) k)
def fw (d : List Int) : Int := gl d + (d.sum - gl d) % 2
theorem gl_le {d : List Int} {k : Nat} (h : k ≤ d.length) : lk (down d) k ≤ gl d := le_top (List.mem_map.mpr ⟨k, List.mem_range.mpr (by omega), rfl⟩)
theorem gl_at (d : List Int) : ∃ k, k ≤ d.length ∧ lk (down d) k = gl d := by
  have h : ((List.range (d.length + 1)).map fun k => lk (down d) k) ≠ [] := by simp
  obtain ⟨k, hk, e⟩ := List.mem_map.mp (top_mem h)
  exact ⟨k, by have := List.mem_range.mp hk; omega, e⟩
theorem down_eq {a b : List Int} (p : a.Perm b) : down a = down b := down_of ((down_perm a).trans p) (down_falls a)
theorem gl_perm {a b : List Int} (p : a.Perm b) : gl a = gl b := by
  unfold gl; rw [down_eq p, p.length_eq]
def NN (d : List Int) : Prop := ∀ x ∈ d, 0 ≤ x
theorem NN.perm {a b : List Int} (h : NN a) (p : a.Perm b) : NN b := fun x hx => h x (p.mem_iff.mpr hx)
theorem mins_cons (k x : Int) (l : List Int) : mins k (x :: l) = min k x + mins k l := by simp [mins]
theorem mins_app (k : Int) (a b : List Int) : mins k (a ++ b) = mins k a + mins k b := by simp [mins]
theorem mins_rep (k m : Int) (n : Nat) : mins k (List.replicate n m) = n * min k m := by
  induction n with
  | zero => simp [mins]
  | succ n ih => rw [List.replicate_succ, mins_cons, ih]; push_cast; rw [Int.add_mul]; omega
theorem mins_nn {k : Int} (hk : 0 ≤ k) : ∀ {l : List Int}, NN l → 0 ≤ mins k l
  | [], _ => by simp [mins]
  | x :: l, h => by
    rw [mins_cons]
    have := mins_nn hk (l := l) fun y hy => h y (List.mem_cons_of_mem _ hy)
    have := h x List.mem_cons_self
    omega
theorem mins_zero {l : List Int} (h : NN l) : mins 0 l = 0 := by
  induction l with
  | nil => rfl
  | cons x l ih =>
    rw [mins_cons, ih fun y hy => h y (List.mem_cons_of_mem _ hy)]
    have := h x List.mem_cons_self
    omega
theorem lk_zero {d : List Int} (h : NN d) : lk d 0 = 0 := by
  unfold lk
  have := mins_zero h
  simp [this]
theorem gl_nn {d : List Int} (h : NN d) : 0 ≤ gl d := by
  have := gl_le (d := d) (k := 0) (by omega)
  rw [lk_zero (h.perm (down_perm d).symm)] at this
  exact this
theorem sum_rep (m : Int) (n : Nat) : (List.replicate n m).sum = n * m := by
  induction n with
  | zero => simp
  | succ n ih => rw [List.replicate_succ, List.sum_cons, ih]; push_cast; rw [Int.add_mul]; omega
/-! one unit from a greatest entry -/
def rA (j : Nat) (m : Int) (r : List Int) : List Int := List.replicate (j + 1) m ++ r
def rB (j : Nat) (m : Int) (r : List Int) : List Int := List.replicate j m ++ (m - 1) :: r
theorem lkA_hi {j : Nat} {m : Int} {r : List Int} (i : Nat) : lk (rA j m r) (j + 1 + i) = ((j : Int) + 1) * m + (r.take i).sum - ((j : Int) + 1 + i) * ((j : Int) + i) - mins (j + 1 + i) (r.drop i) := by
  unfold lk rA
  rw [List.take_append, List.drop_append]
  simp [List.take_replicate, List.drop_replicate, sum_rep, show j + 1 + i - (j + 1) = i by omega, show j + 1 - (j + 1 + i) = 0 by omega, show min (j + 1 + i) (j + 1) = j + 1 by omega]
  have : ((j : Int) + 1 + i - 1) = (j : Int) + i := by omega
  rw [this]
theorem lkB_hi {j : Nat} {m : Int} {r : List Int} (i : Nat) : lk (rB j m r) (j + 1 + i) = lk (rA j m r) (j + 1 + i) - 1 := by
  rw [lkA_hi]
  unfold lk rB
  rw [List.take_append, List.drop_append]
  simp [List.take_replicate, List.drop_replicate, sum_rep, show j + 1 + i - j = i + 1 by omega, show j - (j + 1 + i) = 0 by omega, show min (j + 1 + i) j = j by omega]
  have : ((j : Int) + 1 + i - 1) = (j : Int) + i := by omega
  have e : ((j : Int) + 1) * m = j * m + m := by rw [Int.add_mul, Int.one_mul]
  rw [this, e]
  omega
theorem lkA_lo {j k : Nat} {m : Int} {r : List Int} (h : k ≤ j) : lk (rA j m r) k = (k : Int) * m - (k : Int) * ((k : Int) - 1) - ((j : Int) + 1 - k) * min (k : Int) m - mins k r := by
  unfold lk rA
  rw [List.take_append, List.drop_append]
  simp [List.take_replicate, List.drop_replicate, sum_rep, show k - (j + 1) = 0 by omega, show min k (j + 1) = k by omega, mins_app, mins_rep]
  have : ((j + 1 - k : Nat) : Int) = (j : Int) + 1 - k := by omega
  rw [this]
  omega
theorem lkB_lo {j k : Nat} {m : Int} {r : List Int} (h : k ≤ j) : lk (rB j m r) k = lk (rA j m r) k + (min (k : Int) m - min (k : Int) (m - 1)) := by
  rw [lkA_lo h]
  unfold lk rB
  rw [List.take_append, List.drop_append]
  simp [List.take_replicate, List.drop_replicate, sum_rep, show k - j = 0 by omega, show min k j = k by omega, mins_app, mins_rep, mins_cons]
  have : ((j - k : Nat) : Int) = (j : Int) - k := by omega
  rw [this]
  have : ((j : Int) + 1 - k) * min (k : Int) m = ((j : Int) - k) * min (k : Int) m + min (k : Int) m := by
    rw [show (j : Int) + 1 - k = ((j : Int) - k) + 1 by omega, Int.add_mul]; omega
  omega
theorem mins_small {k : Int} : ∀ {r : List Int}, (∀ x ∈ r, x ≤ k) → mins k r = r.sum
  | [], _ => rfl
  | x :: r, h => by
    rw [mins_cons, List.sum_cons, mins_small fun y hy => h y (List.mem_cons_of_mem _ hy)]
    have := h x List.mem_cons_self
    omega
/-- k times the greater bound's minima are at most the greater bound times the lesser's -/
theorem mins_conc {k p : Int} (hk : 0 ≤ k) (hp : k ≤ p) : ∀ {r : List Int}, NN r → k * mins p r ≤ p * mins k r
  | [], _ => by simp [mins]
  | x :: r, h => by
    have ih := mins_conc hk hp (r := r) fun y hy => h y (List.mem_cons_of_mem _ hy)
    have hx := h x List.mem_cons_self
    rw [mins_cons, mins_cons, Int.mul_add, Int.mul_add]
    have : k * min p x ≤ p * min k x := by
      rcases Int.le_total x k with c | c
      · rw [Int.min_eq_right c, Int.min_eq_right (show x ≤ p by omega)]
        exact Int.mul_le_mul_of_nonneg_right hp hx
      · rw [Int.min_eq_left c]
        have : k * min p x ≤ k * p := Int.mul_le_mul_of_nonneg_left (Int.min_le_left _ _) hk
        rw [Int.mul_comm p k]; exact this
    omega
/-- k at most j, the greatest entry at most k -/
theorem lkA_le {j k : Nat} {m : Int} {r : List Int} (hk : k ≤ j) (h1 : 1 ≤ m) (hm : m ≤ k) (hr : NN r) : lk (rA j m r) k ≤ -1 ∨ (k = j ∧ m = k ∧ r.sum = 0 ∧ lk (rA j m r) k = 0) := by
  rw [lkA_lo hk, Int.min_eq_right hm]
  have R := mins_nn (k := (k : Int)) (by omega) hr
  have e1 : (k : Int) * m - (k : Int) * ((k : Int) - 1) = (k : Int) * (m - (k - 1)) := (Int.mul_sub ..).symm
  rw [e1]
  rcases Int.lt_or_eq_of_le hm with c | c
  · left
    have a : (k : Int) * (m - (k - 1)) ≤ 0 := by
      have : (k : Int) * (m - (k - 1)) ≤ (k : Int) * 0 := Int.mul_le_mul_of_nonneg_left (by omega) (by omega)
      simpa using this
    have b : 1 * m ≤ ((j : Int) + 1 - k) * m := Int.mul_le_mul_of_nonneg_right (by omega) (by omega)
    omega
  · subst c
    have e2 : (k : Int) * ((k : Int) - (k - 1)) = k := by rw [show (k : Int) - (k - 1) = 1 by omega, Int.mul_one]
    rw [e2]
    rcases Nat.lt_or_eq_of_le hk with d | d
    · left
      have b : 2 * (k : Int) ≤ ((j : Int) + 1 - k) * k := Int.mul_le_mul_of_nonneg_right (by omega) (by omega)
      omega
    · subst d
      have e3 : ((k : Int) + 1 - k) * k = k := by rw [show (k : Int) + 1 - k = 1 by omega, Int.one_mul]
      rw [e3]
      by_cases z : mins k r = 0
      · right
        refine ⟨rfl, rfl, ?_, by omega⟩
        have : ∀ {l : List Int}, NN l → mins k l = 0 → l.sum = 0 := by
          intro l
          induction l with
          | nil => intro _ _; rfl
          | cons x l ih =>
            intro h e
            rw [mins_cons] at e
            have := mins_nn (k := (k : Int)) (by omega) (l := l) fun y hy => h y (List.mem_cons_of_mem _ hy)
            have hx := h x List.mem_cons_self
            have := ih (fun y hy => h y (List.mem_cons_of_mem _ hy)) (by omega)
            rw [List.sum_cons]; omega
        exact this hr z
      · left; omega
/-- k at most j, the greatest entry above k -/
theorem lkA_gt {j k : Nat} {m : Int} {r : List Int} (hk : k ≤ j) (h0 : 1 ≤ k) (hm : (k : Int) ≤ m) (hr : NN r) (h : 1 ≤ lk (rA j m r) k) : lk (rA j m r) k < lk (rA j m r) (j + 1) := by
  have a := lkA_lo (m := m) (r := r) hk
  have b := lkA_hi (j := j) (m := m) (r := r) 0
  simp at b
  rw [Int.min_eq_left hm] at a
  have e1 : (k : Int) * m - (k : Int) * ((k : Int) - 1) - ((j : Int) + 1 - k) * k = (k : Int) * (m - j) := by
    rw [Int.mul_comm ((j : Int) + 1 - k) k, ← Int.mul_sub, ← Int.mul_sub]; congr 1; omega
  have e2 : ((j : Int) + 1) * m - ((j : Int) + 1) * j = ((j : Int) + 1) * (m - j) := by rw [← Int.mul_sub]
  have c := mins_conc (k := (k : Int)) (p := (j : Int) + 1) (by omega) (by omega) hr
  have a' : lk (rA j m r) k = (k : Int) * (m - j) - mins k r := by omega
  have b' : lk (rA j m r) (j + 1) = ((j : Int) + 1) * (m - j) - mins (j + 1) r := by omega
  have d : (k : Int) * lk (rA j m r) (j + 1) ≥ ((j : Int) + 1) * lk (rA j m r) k := by
    have g1 : (k : Int) * lk (rA j m r) (j + 1) = (k : Int) * (((j : Int) + 1) * (m - j)) - (k : Int) * mins (j + 1) r := by rw [b', Int.mul_sub]
    have g2 : ((j : Int) + 1) * lk (rA j m r) k = ((j : Int) + 1) * ((k : Int) * (m - j)) - ((j : Int) + 1) * mins k r := by rw [a', Int.mul_sub]
    have : (k : Int) * (((j : Int) + 1) * (m - j)) = ((j : Int) + 1) * ((k : Int) * (m - j)) := by rw [← Int.mul_assoc, ← Int.mul_assoc, Int.mul_comm (k : Int)]
    omega
  have f : ((k : Int) + 1) * lk (rA j m r) k ≤ ((j : Int) + 1) * lk (rA j m r) k := Int.mul_le_mul_of_nonneg_right (by omega) (by omega)
  rw [Int.add_mul, Int.one_mul] at f
  refine Int.lt_of_mul_lt_mul_left (a := (k : Int)) ?_ (by omega)
  omega
/-- all tied to all: no lack, an even total -/
theorem lk_full {j : Nat} {r : List Int} (hr : NN r) (h0 : r.sum = 0) : (∀ k, lk (rA j (j : Int) r) k ≤ 0) ∧ (rA j (j : Int) r).sum % 2 = 0 := by
  constructor
  · intro k
    rcases Nat.lt_or_ge j k with c | c
    · obtain ⟨i, rfl⟩ : ∃ i, k = j + 1 + i := ⟨k - (j + 1), by omega⟩
      rw [lkA_hi]
      have hs : (r.take i).sum ≤ 0 := by
        have e : (r.take i).sum + (r.drop i).sum = 0 := by rw [← List.sum_append, List.take_append_drop]; exact h0
        have : ∀ {l : List Int}, NN l → 0 ≤ l.sum := by
          intro l
          induction l with
          | nil => intro _; simp
          | cons x l ih =>
            intro h
            have := ih fun y hy => h y (List.mem_cons_of_mem _ hy)
            have hx := h x List.mem_cons_self
            rw [List.sum_cons]; omega
        have := this (l := r.drop i) fun y hy => hr y (List.mem_of_mem_drop hy)
        omega
      have R := mins_nn (k := ((j : Int) + 1 + i)) (by omega) (l := r.drop i) fun y hy => hr y (List.mem_of_mem_drop hy)
      have : ((j : Int) + 1) * j ≤ ((j : Int) + 1 + i) * ((j : Int) + i) := by
        have a : ((j : Int) + 1) * j ≤ ((j : Int) + 1 + i) * j := Int.mul_le_mul_of_nonneg_right (by omega) (by omega)
        have b : ((j : Int) + 1 + i) * j ≤ ((j : Int) + 1 + i) * ((j : Int) + i) := Int.mul_le_mul_of_nonneg_left (by omega) (by omega)
        omega
      omega
    · rw [lkA_lo c, Int.min_eq_left (by omega)]
      have R := mins_nn (k := (k : Int)) (by omega) hr
      have e1 : (k : Int) * j - (k : Int) * ((k : Int) - 1) - ((j : Int) + 1 - k) * k = 0 := by
        rw [Int.mul_comm ((j : Int) + 1 - k) k, ← Int.mul_sub, ← Int.mul_sub, show (j : Int) - (k - 1) - (j + 1 - k) = 0 by omega, Int.mul_zero]
      omega
  · unfold rA
    rw [List.sum_append, sum_rep, h0]
    push_cast
    rw [Int.add_zero]
    have : ((j : Int) + 1) * j = j * j + j := by rw [Int.add_mul, Int.one_mul]
    rw [this]
    rcases Int.emod_two_eq j with e | e
    · obtain ⟨z, hz⟩ : ∃ z, (j : Int) = 2 * z := ⟨j / 2, by omega⟩
      rw [hz, show 2 * z * (2 * z) + 2 * z = 2 * (z * (2 * z) + z) by rw [Int.mul_add, Int.mul_assoc]]
      omega
    · obtain ⟨z, hz⟩ : ∃ z, (j : Int) = 2 * z + 1 := ⟨j / 2, by omega⟩
      have : (j : Int) * j + j = (j : Int) * (j + 1) := by rw [Int.mul_add, Int.mul_one]
      rw [this, show (j : Int) + 1 = 2 * (z + 1) by omega, Int.mul_comm (j : Int), Int.mul_assoc]
      omega
end Sp
namespace Sp
open PySem PySem.Spec PyProof.Rows L2 SQ XQ XD
/-- one unit from a greatest entry -/
def Cut1 (a b : List Int) : Prop := ∃ (m : Int) (rest : List Int), a.Perm (m :: rest) ∧ (∀ x ∈ rest, x ≤ m) ∧ b.Perm ((m - 1) :: rest)
theorem cut_form {a b : List Int} (h : Cut1 a b) : ∃ (j : Nat) (m : Int) (r : List Int), down a = rA j m r ∧ down b = rB j m r ∧ (∀ x ∈ r, x ≤ m - 1) ∧ (∀ x ∈ r, x ∈ a) ∧ m ∈ a := by
  obtain ⟨m, rest, p, hm, q⟩ := h
  let r := down (rest.filter fun x => decide (x < m))
  have hr : ∀ x ∈ r, x ≤ m - 1 ∧ x ∈ rest := fun x hx => by
    have := (down_perm _).mem_iff.mp hx
    obtain ⟨h1, h2⟩ := List.mem_filter.mp this
    have := of_decide_eq_true h2
    exact ⟨by omega, h1⟩
  have he : (rest.filter fun x => !decide (x < m)) = List.replicate (rest.filter fun x => !decide (x < m)).length m := by
    refine List.eq_replicate_iff.mpr ⟨rfl, fun x hx => ?_⟩
    obtain ⟨h1, h2⟩ := List.mem_filter.mp hx
    have := hm x h1
    simp at h2; omega
  have hp : rest.Perm (List.replicate (rest.filter fun x => !decide (x < m)).length m ++ r) := by
    have f := List.filter_append_perm (fun x => decide (x < m)) rest
    rw [he] at f
    refine f.symm.trans (List.perm_append_comm.trans ?_)
    exact List.Perm.append_left _ (down_perm _).symm
  generalize hj : (rest.filter fun x => !decide (x < m)).length = j at hp
  have fr : r.Pairwise (· ≥ ·) := down_falls _
  refine ⟨j, m, r, ?_, ?_, fun x hx => (hr x hx).1, fun x hx => p.mem_iff.mpr (List.mem_cons_of_mem _ (hr x hx).2), p.mem_iff.mpr List.mem_cons_self⟩
  · refine (down_of ?_ ?_).symm
    · refine List.Perm.trans ?_ p.symm
      show (List.replicate (j + 1) m ++ r).Perm _
      rw [List.replicate_succ, List.cons_append]
      exact hp.symm.cons _
    · refine List.pairwise_append.mpr ⟨List.pairwise_replicate.mpr (Or.inr (Int.le_refl _)), fr, fun x hx y hy => ?_⟩
      rw [List.eq_of_mem_replicate hx]
      have := (hr y hy).1
      omega
  · refine (down_of ?_ ?_).symm
    · refine List.Perm.trans ?_ q.symm
      show (List.replicate j m ++ (m - 1) :: r).Perm _
      exact List.perm_middle.trans (hp.symm.cons _)
    · refine List.pairwise_append.mpr ⟨List.pairwise_replicate.mpr (Or.inr (Int.le_refl _)), List.pairwise_cons.mpr ⟨fun y hy => (hr y hy).1, fr⟩, fun x hx y hy => ?_⟩
      rw [List.eq_of_mem_replicate hx]
      rcases List.mem_cons.mp hy with e | hy
      · omega
      · have := (hr y hy).1
        omega
theorem rA_len (j : Nat) (m : Int) (r : List Int) : (rA j m r).length = j + 1 + r.length := by simp [rA]
theorem rB_len (j : Nat) (m : Int) (r : List Int) : (rB j m r).length = j + 1 + r.length := by simp [rB]; omega
theorem cut_sum {a b : List Int} (h : Cut1 a b) : b.sum = a.sum - 1 ∧ b.length = a.length := by
  obtain ⟨m, rest, p, _, q⟩ := h
  have e1 := perm_sum p
  have e2 := perm_sum q
  rw [List.sum_cons] at e1 e2
  have l1 := p.length_eq
  have l2 := q.length_eq
  simp at l1 l2
  omega
theorem lk_all0 {n : Nat} (k : Nat) : lk (List.replicate n 0) k ≤ 0 := by
  have hd : NN ((List.replicate n (0 : Int)).drop k) := fun x hx => by
    rw [List.eq_of_mem_replicate (List.mem_of_mem_drop hx)]; omega
  have R := mins_nn (k := (k : Int)) (by omega) hd
  unfold lk
  rw [List.take_replicate, sum_rep, Int.mul_zero]
  have : 0 ≤ (k : Int) * ((k : Int) - 1) := by
    cases k with
    | zero => simp
    | succ k => exact Int.mul_nonneg (by omega) (by omega)
  omega
/-- what a unit less does -/
theorem cut_step {a b : List Int} (nn : NN a) (h : Cut1 a b) (c : 1 ≤ gl a ∨ (gl a = 0 ∧ a.sum % 2 = 1)) : NN b ∧ gl b = if 1 ≤ gl a then gl a - 1 else 0 := by
  obtain ⟨j, m, r, ea, eb, hr, hra, hma⟩ := cut_form h
  have nr : NN r := fun x hx => nn x (hra x hx)
  have hm0 := nn m hma
  have hs := cut_sum h
  have lena : a.length = j + 1 + r.length := by rw [← down_len, ea, rA_len]
  have m1 : 1 ≤ m := by
    rcases Int.lt_or_eq_of_le hm0 with z | z
    · exact z
    · exfalso
      subst z
      have z0 : down a = List.replicate (j + 1 + r.length) 0 := by
        rw [ea]
        refine List.eq_replicate_iff.mpr ⟨rA_len .., fun x hx => ?_⟩
        rcases List.mem_append.mp hx with q | q
        · exact List.eq_of_mem_replicate q
        · have := hr x q; have := nr x q; omega
      rcases c with c | ⟨_, c⟩
      · obtain ⟨k, _, e⟩ := gl_at a
        rw [z0] at e
        have := lk_all0 (n := j + 1 + r.length) k
        omega
      · have := perm_sum (down_perm a)
        rw [z0, sum_rep] at this
        omega
  have nb : NN b := by
    refine NN.perm (fun x hx => ?_) (down_perm b)
    rw [eb] at hx
    rcases List.mem_append.mp hx with q | q
    · rw [List.eq_of_mem_replicate q]; omega
    · rcases List.mem_cons.mp q with q | q
      · omega
      · exact nr x q
  refine ⟨nb, ?_⟩
  have le : ∀ k, k ≤ a.length → lk (rA j m r) k ≤ gl a := fun k hk => by rw [← ea]; exact gl_le hk
  have notfull : ∀ k, k ≤ j → m ≤ k → lk (rA j m r) k ≤ -1 ∨ 2 ≤ gl a := fun k hk hmk => by
    rcases lkA_le hk m1 hmk nr with q | ⟨q1, q2, q3, q4⟩
    · exact .inl q
    · subst q1
      subst q2
      obtain ⟨f1, f2⟩ := lk_full (j := k) nr q3
      exfalso
      rcases c with c | ⟨_, c⟩
      · obtain ⟨i, _, e⟩ := gl_at a
        rw [ea] at e
        have := f1 i
        omega
      · have := perm_sum (down_perm a)
        rw [ea] at this
        omega
  have up : ∀ k, k ≤ b.length → lk (rB j m r) k ≤ if 1 ≤ gl a then gl a - 1 else 0 := fun k hk => by
    rcases Nat.lt_or_ge j k with q | q
    · obtain ⟨i, rfl⟩ : ∃ i, k = j + 1 + i := ⟨k - (j + 1), by omega⟩
      rw [lkB_hi]
      have := le (j + 1 + i) (by omega)
      split <;> omega
    · rw [lkB_lo q]
      rcases Int.lt_or_le k m with z | z
      · rw [Int.min_eq_left (by omega), Int.min_eq_left (by omega)]
        rcases Nat.eq_zero_or_pos k with y | y
        · subst y
          have : lk (rA j m r) 0 = 0 := lk_zero (by rw [← ea]; exact nn.perm (down_perm a).symm)
          rw [this]
          split <;> omega
        · have l1 := le k (by omega)
          have l2 := le (j + 1) (by omega)
          split
          · by_cases w : 1 ≤ lk (rA j m r) k
            · have := lkA_gt (m := m) q y (by omega) nr w
              omega
            · omega
          · omega
      · rw [Int.min_eq_right (by omega), Int.min_eq_right (by omega)]
        have l1 := le k (by omega)
        rcases notfull k q z with w | w
        · split <;> omega
        · rcases lkA_le q m1 z nr with w' | w' <;> split <;> omega
  have at_ : ∃ k, k ≤ b.length ∧ lk (rB j m r) k = if 1 ≤ gl a then gl a - 1 else 0 := by
    split
    · rename_i g1
      obtain ⟨k, hk, e⟩ := gl_at a
      rw [ea] at e
      rcases Nat.lt_or_ge j k with q | q
      · obtain ⟨i, rfl⟩ : ∃ i, k = j + 1 + i := ⟨k - (j + 1), by omega⟩
        exact ⟨j + 1 + i, by omega, by rw [lkB_hi]; omega⟩
      · exfalso
        rcases Int.lt_or_le k m with z | z
        · rcases Nat.eq_zero_or_pos k with y | y
          · subst y
            have : lk (rA j m r) 0 = 0 := lk_zero (by rw [← ea]; exact nn.perm (down_perm a).symm)
            omega
          · have := lkA_gt (m := m) q y (by omega) nr (by omega)
            have := le (j + 1) (by omega)
            omega
        · rcases lkA_le q m1 z nr with w | w <;> omega
    · exact ⟨0, by omega, lk_zero (by rw [← eb]; exact nb.perm (down_perm b).symm)⟩
  obtain ⟨k, hk, e⟩ := at_
  have g1 := gl_le (d := b) hk
  obtain ⟨k', hk', e'⟩ := gl_at b
  have g2 := up k' hk'
  rw [eb] at g1 e'
  omega
end Sp
namespace Sp
open PySem PySem.Spec PyProof.Rows L2 SQ XQ XD
/-! entry by entry at most -/
def pw : List Int → List Int → Prop
  | [], [] => True
  | x :: a, y :: b => x ≤ y ∧ pw a b
  | _, _ => False
theorem pw_iff : ∀ {a b : List Int}, pw a b ↔ a.length = b.length ∧ ∀ (i : Nat) x y, a[i]? = some x → b[i]? = some y → x ≤ y
  | [], [] => by simp [pw]
  | [], _ :: _ => by simp [pw]
  | _ :: _, [] => by simp [pw]
  | x :: a, y :: b => by
    rw [pw, pw_iff (a := a) (b := b)]
    constructor
    · rintro ⟨h, hl, hi⟩
      refine ⟨by simp [hl], fun i u v hu hv => ?_⟩
      cases i with
      | zero => simp at hu hv; omega
      | succ i => exact hi i u v (by simpa using hu) (by simpa using hv)
    · rintro ⟨hl, hi⟩
      exact ⟨hi 0 x y rfl rfl, by simpa using hl, fun i u v hu hv => hi (i + 1) u v (by simpa using hu) (by simpa using hv)⟩
theorem pw.len {a b : List Int} (h : pw a b) : a.length = b.length := (pw_iff.mp h).1
theorem pw.refl : ∀ a : List Int, pw a a
  | [] => trivial
  | x :: a => ⟨Int.le_refl _, pw.refl a⟩
theorem pw.trans : ∀ {a b c : List Int}, pw a b → pw b c → pw a c
  | [], [], [], _, _ => trivial
  | x :: a, y :: b, z :: c, h, g => ⟨Int.le_trans h.1 g.1, pw.trans h.2 g.2⟩
theorem pw.take : ∀ {a b : List Int} (k : Nat), pw a b → pw (a.take k) (b.take k)
  | [], [], k, _ => by simp [pw]
  | x :: a, y :: b, 0, h => by simp [pw]
  | x :: a, y :: b, k + 1, h => ⟨h.1, pw.take k h.2⟩
theorem pw.drop : ∀ {a b : List Int} (k : Nat), pw a b → pw (a.drop k) (b.drop k)
  | [], [], k, _ => by simp [pw]
  | x :: a, y :: b, 0, h => h
  | x :: a, y :: b, k + 1, h => pw.drop (a := a) (b := b) k h.2
theorem pw.sum : ∀ {a b : List Int}, pw a b → a.sum ≤ b.sum
  | [], [], _ => by simp
  | x :: a, y :: b, h => by
    have := pw.sum h.2
    have := h.1
    rw [List.sum_cons, List.sum_cons]; omega
theorem pw.mins {k : Int} : ∀ {a b : List Int}, pw a b → mins k a ≤ mins k b
  | [], [], _ => by simp [Sp.mins]
  | x :: a, y :: b, h => by
    have := pw.mins (k := k) h.2
    have := h.1
    rw [mins_cons, mins_cons]; omega
theorem pw.count {t : Int} : ∀ {a b : List Int}, pw a b → a.countP (fun x => decide (t ≤ x)) ≤ b.countP (fun x => decide (t ≤ x))
  | [], [], _ => Nat.le_refl _
  | x :: a, y :: b, h => by
    have := pw.count (t := t) h.2
    have h1 := h.1
    rw [List.countP_cons, List.countP_cons]
    by_cases c : t ≤ x
    · have : t ≤ y := by omega
      simp [c, this]; omega
    · simp [c]; omega
theorem fall_at {l : List Int} (h : l.Pairwise (· ≥ ·)) {i j : Nat} (hij : i ≤ j) {x y : Int} (hx : l[i]? = some x) (hy : l[j]? = some y) : y ≤ x := by
  obtain ⟨hi, ei⟩ := List.getElem?_eq_some_iff.mp hx
  obtain ⟨hj, ej⟩ := List.getElem?_eq_some_iff.mp hy
  rcases Nat.lt_or_eq_of_le hij with c | c
  · have := List.pairwise_iff_getElem.mp h i j hi hj c
    omega
  · subst c; omega
/-- sorted rows keep it -/
theorem pw.dn {a b : List Int} (h : pw a b) : pw (down a) (down b) := by
  refine pw_iff.mpr ⟨by rw [down_len, down_len, h.len], fun i x y hx hy => ?_⟩
  refine Int.not_lt.mp fun lt => ?_
  have c1 : i + 1 ≤ (down a).countP (fun z => decide (x ≤ z)) := by
    have hi := (List.getElem?_eq_some_iff.mp hx).1
    have e : ((down a).take (i + 1)).countP (fun z => decide (x ≤ z)) = i + 1 := by
      have : ((down a).take (i + 1)).countP (fun z => decide (x ≤ z)) = ((down a).take (i + 1)).length := by
        refine List.countP_eq_length.mpr fun z hz => ?_
        obtain ⟨k, hk⟩ := List.mem_iff_getElem?.mp hz
        have k2 : k < i + 1 := by
          have := (List.getElem?_eq_some_iff.mp hk).1
          simp at this; omega
        rw [List.getElem?_take_of_lt k2] at hk
        exact decide_eq_true (fall_at (down_falls a) (show k ≤ i by omega) hk hx)
      rw [this]; simp; omega
    have := List.countP_append (p := fun z => decide (x ≤ z)) (l₁ := (down a).take (i + 1)) (l₂ := (down a).drop (i + 1))
    rw [List.take_append_drop] at this
    omega
  have c2 : (down b).countP (fun z => decide (x ≤ z)) ≤ i := by
    have e : ((down b).drop i).countP (fun z => decide (x ≤ z)) = 0 := by
      refine List.countP_eq_zero.mpr fun z hz => ?_
      obtain ⟨k, hk⟩ := List.mem_iff_getElem?.mp hz
      rw [List.getElem?_drop] at hk
      have := fall_at (down_falls b) (show i ≤ i + k by omega) hy hk
      simp; omega
    have := List.countP_append (p := fun z => decide (x ≤ z)) (l₁ := (down b).take i) (l₂ := (down b).drop i)
    rw [List.take_append_drop] at this
    have l := List.countP_le_length (p := fun z => decide (x ≤ z)) (l := (down b).take i)
    simp at l
    omega
  have c3 := h.count (t := x)
  rw [← (down_perm a).countP_eq, ← (down_perm b).countP_eq] at c3
  omega
/-- a lack sinks by at most what is taken away -/
theorem gl_pw {c d : List Int} (h : pw c d) : gl d - (d.sum - c.sum) ≤ gl c := by
  obtain ⟨k, hk, e⟩ := gl_at d
  have g := gl_le (d := c) (k := k) (by rw [h.len]; exact hk)
  have hd := h.dn
  have s1 := (hd.take k).sum
  have s2 := (hd.drop k).sum
  have s3 := (hd.drop k).mins (k := (k : Int))
  have t1 : ((down c).take k).sum + ((down c).drop k).sum = c.sum := by rw [← List.sum_append, List.take_append_drop]; exact perm_sum (down_perm c)
  have t2 : ((down d).take k).sum + ((down d).drop k).sum = d.sum := by rw [← List.sum_append, List.take_append_drop]; exact perm_sum (down_perm d)
  unfold lk at e g
  omega
theorem fw_least {c d : List Int} (h : pw c d) (h0 : gl c = 0) (h2 : c.sum % 2 = 0) : fw d ≤ d.sum - c.sum := by
  have := gl_pw h
  unfold fw
  omega
/-! units taken one by one -/
def Cuts : Nat → List Int → List Int → Prop
  | 0, a, b => a.Perm b
  | n + 1, a, c => ∃ b, Cuts n a b ∧ Cut1 b c
theorem Cut1.perm {a b c : List Int} (h : Cut1 a b) (p : a.Perm c) : Cut1 c b := by
  obtain ⟨m, r, h1, h2, h3⟩ := h
  exact ⟨m, r, p.symm.trans h1, h2, h3⟩
theorem cut_pw {a b : List Int} (h : Cut1 a b) : pw (down b) (down a) := by
  obtain ⟨j, m, r, ea, eb, _⟩ := cut_form h
  rw [ea, eb]
  unfold rA rB
  clear ea eb
  induction j with
  | zero => exact ⟨by omega, pw.refl _⟩
  | succ j ih => rw [List.replicate_succ, List.replicate_succ (n := j + 1)]; exact ⟨Int.le_refl _, ih⟩
theorem cuts_pw : ∀ {n : Nat} {a b : List Int}, Cuts n a b → pw (down b) (down a)
  | 0, a, b, h => by rw [down_eq h]; exact pw.refl _
  | n + 1, a, c, ⟨b, h, g⟩ => (cut_pw g).trans (cuts_pw h)
theorem cuts_sum : ∀ {n : Nat} {a b : List Int}, Cuts n a b → b.sum = a.sum - n ∧ b.length = a.length
  | 0, a, b, h => by
    have e := perm_sum h
    exact ⟨by simp [e], h.length_eq.symm⟩
  | n + 1, a, c, ⟨b, h, g⟩ => by
    obtain ⟨h1, h2⟩ := cuts_sum h
    obtain ⟨g1, g2⟩ := cut_sum g
    push_cast
    omega
theorem cuts_gl : ∀ {n : Nat} {a b : List Int}, NN a → Cuts n a b → (n : Int) ≤ gl a → NN b ∧ gl b = gl a - n
  | 0, a, b, nn, h, _ => ⟨nn.perm h, by rw [gl_perm h]; simp⟩
  | n + 1, a, c, nn, ⟨b, h, g⟩, le => by
    obtain ⟨nb, eb⟩ := cuts_gl nn h (by push_cast at le; omega)
    have := cut_step nb g (.inl (by push_cast at le; omega))
    rw [if_pos (by push_cast at le; omega)] at this
    exact ⟨this.1, by push_cast; omega⟩
theorem cuts_fw {a b : List Int} {n : Nat} (nn : NN a) (h : Cuts n a b) (e : (n : Int) = fw a) : NN b ∧ gl b = 0 ∧ b.sum % 2 = 0 := by
  have g0 := gl_nn nn
  have es := (cuts_sum h).1
  unfold fw at e
  rcases Int.emod_two_eq (a.sum - gl a) with c | c
  · have := cuts_gl nn h (by omega)
    exact ⟨this.1, by omega, by omega⟩
  · cases n with
    | zero => simp at e; omega
    | succ n =>
      obtain ⟨b', h1, h2⟩ := h
      obtain ⟨nb, eb⟩ := cuts_gl nn h1 (by push_cast at e; omega)
      have es' := (cuts_sum h1).1
      have := cut_step nb h2 (.inr ⟨by push_cast at e; omega, by push_cast at e; omega⟩)
      rw [if_neg (by push_cast at e; omega)] at this
      exact ⟨this.1, this.2, by omega⟩
end Sp
namespace Sp
open PySem PySem.Spec PyProof.Rows L2 SQ XQ XD
/-! places and what stands there -/
theorem plc_vals (l : List Int) : (plc l).map (fun p => nth0 l p.toNat) = down l := by
  have e : (plc l).map (fun p => nth0 l p.toNat) = (ptsL l).map fun p => -p.1 := by
    unfold plc
    rw [List.map_map]
    refine List.map_congr_left fun p hp => ?_
    obtain ⟨i, hi, rfl⟩ := pts_mem hp
    show nth0 l (i : Int).toNat = - -l[i]
    rw [Int.toNat_natCast, nth0_get hi]; omega
  rw [e]
  refine down_of ?_ ?_
  · refine ((upP_perm _).map _).trans ?_
    rw [List.map_map]
    have : ((fun p : Int × Int => -p.1) ∘ fun p : Int × Nat => (-p.1, (p.2 : Int))) = Prod.fst := by funext p; simp
    rw [this, List.zipIdx_map_fst]
  · rw [List.pairwise_map]
    exact (upP_rises _).imp fun {x y} h => by rw [leP_iff] at h; omega
theorem plc_range (l : List Int) : ((plc l).map Int.toNat).Perm (List.range l.length) := by
  unfold plc
  rw [List.map_map]
  refine ((upP_perm _).map _).trans ?_
  rw [List.map_map]
  have : ((Int.toNat ∘ Prod.snd) ∘ fun p : Int × Nat => (-p.1, (p.2 : Int))) = Prod.snd := by funext p; simp
  rw [this, List.zipIdx_map_snd]
  simp [List.range_eq_range']
theorem range_nth (l : List Int) : (List.range l.length).map (nth0 l) = l := by
  refine List.ext_getElem (by simp) fun i h1 h2 => ?_
  simp [nth0_get h2]
theorem arr_perm {a l : List Int} (h : a.length = l.length) : (arrF a l).Perm a := by
  have e : (plc l).map (fun p => nth0 (arrF a l) p.toNat) = down a := by
    refine List.ext_getElem? fun k => ?_
    rw [List.getElem?_map]
    cases hk : (ptsL l)[k]? with
    | none =>
      have := List.getElem?_eq_none_iff.mp hk
      rw [pts_len] at this
      rw [plc, List.getElem?_map, hk, List.getElem?_eq_none (by rw [down_len]; omega)]
      rfl
    | some p =>
      have kl : k < (down a).length := by
        have := (List.getElem?_eq_some_iff.mp hk).1
        rw [pts_len] at this
        rw [down_len]; omega
      have := arr_at h hk (List.getElem?_eq_getElem kl)
      rw [plc, List.getElem?_map, hk, List.getElem?_eq_getElem kl]
      show some (nth0 (arrF a l) p.2.toNat) = _
      have := (List.getElem?_eq_some_iff.mp this)
      rw [nth0_get this.1, this.2]
  have p := (plc_range l).map (nth0 (arrF a l))
  rw [List.map_map] at p
  have e2 : (plc l).map (nth0 (arrF a l) ∘ Int.toNat) = down a := e
  rw [e2, ← h, ← arr_len a l, range_nth] at p
  exact (p.symm.trans (down_perm a))
theorem arr_pw {c l : List Int} (h : c.length = l.length) (hp : pw (down c) (down l)) : pw (arrF c l) l := by
  refine pw_iff.mpr ⟨by rw [arr_len, h], fun i x y hx hy => ?_⟩
  obtain ⟨hi, ei⟩ := List.getElem?_eq_some_iff.mp hy
  obtain ⟨k, v, a1, a2, a3⟩ := arr_find h hi
  rw [hx] at a3
  cases a3
  have : (down l)[k]? = some y := by
    rw [← plc_vals, plc, List.map_map, List.getElem?_map, a1]
    show some (nth0 l (i : Int).toNat) = _
    rw [Int.toNat_natCast, nth0_get hi, ei]
  exact (pw_iff.mp hp).2 k x y a2 this
/-! units taken level by level -/
structure Stop (d : List Int) (u : Int) (h : Nat) : Prop where
  h1 : 1 ≤ h
  hn : h ≤ d.length
  go : ∀ h', 1 ≤ h' → h' < h → (d.take h').sum - u < nth0 d h' * h'
  st : h < d.length → nth0 d h * h ≤ (d.take h).sum - u
def evenF (T : Int) (h : Nat) : List Int := List.replicate (T % h).toNat (T / h + 1) ++ List.replicate (h - (T % h).toNat) (T / h)
def cutF (d : List Int) (u : Int) (h : Nat) : List Int := evenF ((d.take h).sum - u) h ++ d.drop h
theorem evenF_of {h : Nat} {q l : Int} (h0 : 0 ≤ l) (h1 : l < h) : evenF (q * h + l) h = List.replicate l.toNat (q + 1) ++ List.replicate (h - l.toNat) q := by
  have hp : (h : Int) ≠ 0 := by omega
  have e1 : (q * h + l) / h = q := by
    rw [Int.add_comm, Int.add_mul_ediv_right _ _ hp, Int.ediv_eq_zero_of_lt h0 h1]; omega
  have e2 : (q * h + l) % h = l := by
    rw [Int.add_comm, Int.add_mul_emod_self_right, Int.emod_eq_of_lt h0 h1]
  unfold evenF
  rw [e1, e2]
theorem Stop.uni {d : List Int} {u : Int} {h h' : Nat} (a : Stop d u h) (b : Stop d u h') : h = h' := by
  rcases Nat.lt_trichotomy h h' with c | c | c
  · have := b.go h a.h1 c
    have := a.st (by have := b.hn; omega)
    omega
  · exact c
  · have := a.go h' b.h1 c
    have := b.st (by have := a.hn; omega)
    omega
theorem stop_ex {d : List Int} (u : Int) (hd : 1 ≤ d.length) : ∃ h, Stop d u h := by
  have key : ∀ m h : Nat, h + m = d.length → 1 ≤ h → (∀ h', 1 ≤ h' → h' < h → (d.take h').sum - u < nth0 d h' * h') → ∃ h, Stop d u h := by
    intro m
    induction m with
    | zero => intro h e h1 g; exact ⟨h, h1, by omega, g, fun z => by omega⟩
    | succ m ih =>
      intro h e h1 g
      by_cases c : nth0 d h * h ≤ (d.take h).sum - u
      · exact ⟨h, h1, by omega, g, fun _ => c⟩
      · refine ih (h + 1) (by omega) (by omega) fun h' a b => ?_
        rcases Nat.lt_or_eq_of_le (show h' ≤ h by omega) with q | q
        · exact g h' a q
        · subst q; omega
  exact key (d.length - 1) 1 (by omega) (by omega) fun h' a b => by omega
theorem take_succ_sum {d : List Int} {j : Nat} (h : j < d.length) : (d.take (j + 1)).sum = (d.take j).sum + nth0 d j := by
  rw [List.take_add_one, List.getElem?_eq_getElem h, nth0_get h, List.sum_append]
  simp
theorem cut_zero {d : List Int} (fd : d.Pairwise (· ≥ ·)) {h : Nat} (s : Stop d 0 h) : cutF d 0 h = d := by
  have hn := s.hn
  have h1 := s.h1
  have s1 : Stop d 0 1 := by
    refine ⟨Nat.le_refl _, by omega, fun h' a b => by omega, fun z => ?_⟩
    have e := take_succ_sum (d := d) (j := 0) (by omega)
    have := fall_at fd (show 0 ≤ 1 by omega) (List.getElem?_eq_getElem (show 0 < d.length by omega)) (List.getElem?_eq_getElem z)
    rw [nth0_get (show 0 < d.length by omega)] at e
    rw [nth0_get z]
    simp at e ⊢
    omega
  rw [s.uni s1]
  have e := take_succ_sum (d := d) (j := 0) (by omega)
  cases d with
  | nil => simp at hn; omega
  | cons x r =>
    simp [cutF, evenF, Int.emod_one]
theorem rep_split (q : Int) {n : Nat} (h : 1 ≤ n) : List.replicate n q = q :: List.replicate (n - 1) q := by
  obtain ⟨m, rfl⟩ : ∃ m, n = m + 1 := ⟨n - 1, by omega⟩
  rfl
theorem cut_next {d : List Int} (fd : d.Pairwise (· ≥ ·)) {u : Int} {h h2 : Nat} (s : Stop d u h) (s2 : Stop d (u + 1) h2) : Cut1 (cutF d u h) (cutF d (u + 1) h2) := by
  have hn := s.hn
  have h1 := s.h1
  have hp : (0 : Int) < h := by omega
  generalize hT : (d.take h).sum - u = T
  generalize hq : T / h = q
  generalize hl : T % h = l
  have eT : T = q * h + l := by rw [← hq, ← hl, Int.mul_comm]; exact (Int.mul_ediv_add_emod T h).symm
  have l0 : 0 ≤ l := by rw [← hl]; exact Int.emod_nonneg _ (by omega)
  have l1 : l < h := by rw [← hl]; exact Int.emod_lt_of_pos _ hp
  have dq : ∀ x ∈ d.drop h, x ≤ q := fun x hx => by
    obtain ⟨k, hk⟩ := List.mem_iff_getElem?.mp hx
    rw [List.getElem?_drop] at hk
    have kl := (List.getElem?_eq_some_iff.mp hk).1
    have a := fall_at fd (show h ≤ h + k by omega) (List.getElem?_eq_getElem (show h < d.length by omega)) hk
    have b := s.st (by omega)
    rw [nth0_get (show h < d.length by omega)] at b
    have c : d[h] * (h : Int) < (q + 1) * h := by rw [Int.add_mul]; omega
    have := Int.lt_of_mul_lt_mul_right c (by omega)
    omega
  have ea : cutF d u h = List.replicate l.toNat (q + 1) ++ List.replicate (h - l.toNat) q ++ d.drop h := by
    unfold cutF
    rw [hT, eT, evenF_of l0 l1]
  have gos : ∀ h', 1 ≤ h' → h' < h → (d.take h').sum - (u + 1) < nth0 d h' * h' := fun h' a b => by have := s.go h' a b; omega
  by_cases cA : 1 ≤ l
  · -- the level is not even
    have s' : Stop d (u + 1) h := ⟨h1, hn, gos, fun z => by
      have := dq d[h] (by rw [List.drop_eq_getElem_cons z]; exact List.mem_cons_self)
      rw [nth0_get z]
      have : d[h] * (h : Int) ≤ q * h := Int.mul_le_mul_of_nonneg_right this (by omega)
      omega⟩
    rw [s2.uni s', ea]
    have eb : cutF d (u + 1) h = List.replicate (l - 1).toNat (q + 1) ++ List.replicate (h - (l - 1).toNat) q ++ d.drop h := by
      unfold cutF
      rw [show (d.take h).sum - (u + 1) = q * h + (l - 1) by omega, evenF_of (by omega) (by omega)]
    rw [eb]
    refine ⟨q + 1, List.replicate (l - 1).toNat (q + 1) ++ List.replicate (h - l.toNat) q ++ d.drop h, ?_, fun x hx => ?_, ?_⟩
    · rw [rep_split (q + 1) (show 1 ≤ l.toNat by omega), show l.toNat - 1 = (l - 1).toNat by omega]
      exact List.Perm.refl _
    · rcases List.mem_append.mp hx with hx | hx
      · rcases List.mem_append.mp hx with hx | hx
        · rw [List.eq_of_mem_replicate hx]; omega
        · rw [List.eq_of_mem_replicate hx]; omega
      · have := dq x hx; omega
    · rw [rep_split q (show 1 ≤ h - (l - 1).toNat by omega), show h - (l - 1).toNat - 1 = h - l.toNat by omega, show q + 1 - 1 = q by omega]
      simp only [List.append_assoc, List.cons_append]
      exact List.perm_middle
  · have l00 : l = 0 := by omega
    subst l00
    have ea : cutF d u h = List.replicate h q ++ d.drop h := by rw [ea]; simp
    by_cases cB : h = d.length ∨ nth0 d h ≤ q - 1
    · have s' : Stop d (u + 1) h := ⟨h1, hn, gos, fun z => by
        have := cB.resolve_left (by omega)
        have : nth0 d h * (h : Int) ≤ (q - 1) * h := Int.mul_le_mul_of_nonneg_right this (by omega)
        rw [Int.sub_mul] at this
        omega⟩
      rw [s2.uni s', ea]
      have eb : cutF d (u + 1) h = List.replicate (h - 1) q ++ [q - 1] ++ d.drop h := by
        unfold cutF
        rw [show (d.take h).sum - (u + 1) = (q - 1) * h + ((h : Int) - 1) by rw [Int.sub_mul]; omega, evenF_of (by omega) (by omega)]
        rw [show ((h : Int) - 1).toNat = h - 1 by omega, show h - (h - 1) = 1 by omega, show q - 1 + 1 = q by omega]
        rfl
      rw [eb]
      refine ⟨q, List.replicate (h - 1) q ++ d.drop h, ?_, fun x hx => ?_, ?_⟩
      · rw [rep_split q h1]; exact List.Perm.refl _
      · rcases List.mem_append.mp hx with hx | hx
        · rw [List.eq_of_mem_replicate hx]; omega
        · exact dq x hx
      · simp only [List.append_assoc, List.cons_append, List.nil_append]
        exact List.perm_middle
    · -- the level reaches the next entries
      have cB1 : h ≠ d.length := fun z => cB (.inl z)
      have cB2 : ¬ nth0 d h ≤ q - 1 := fun z => cB (.inr z)
      have hlt : h < d.length := by omega
      have dh : nth0 d h = q := by
        have := dq d[h] (by rw [List.drop_eq_getElem_cons hlt]; exact List.mem_cons_self)
        rw [nth0_get hlt] at cB2 ⊢
        omega
      have h2n := s2.hn
      have lt2 : h < h2 := by
        rcases Nat.lt_trichotomy h h2 with c | c | c
        · exact c
        · exfalso; subst c
          have := s2.st hlt
          rw [dh] at this; omega
        · exfalso
          have := s.go h2 s2.h1 c
          have := s2.st (by omega)
          omega
      have key : ∀ i, h + i ≤ h2 → (d.take (h + i)).sum - u = q * ((h : Int) + i) ∧ (∀ j, j < i → nth0 d (h + j) = q) := by
        intro i
        induction i with
        | zero => intro _; exact ⟨by simp; omega, fun j hj => by omega⟩
        | succ i ih =>
          intro hi
          obtain ⟨e, f⟩ := ih (by omega)
          have il : h + i < d.length := by omega
          have dv : nth0 d (h + i) = q := by
            have up := dq d[h + i] (by
              rw [← List.getElem_drop (xs := d) (i := h) (j := i) (h := by simp; omega)]
              exact List.getElem_mem _)
            rw [← nth0_get il] at up
            rcases Nat.eq_zero_or_pos i with z | z
            · subst z; exact dh
            · have g := s2.go (h + i) (by omega) (by omega)
              have g2 : q * ((h : Int) + i) < (nth0 d (h + i) + 1) * ((h : Int) + i) := by
                rw [Int.add_mul]
                push_cast at g
                omega
              have := Int.lt_of_mul_lt_mul_right g2 (by omega)
              omega
          refine ⟨?_, fun j hj => ?_⟩
          · rw [show h + (i + 1) = h + i + 1 by omega, take_succ_sum il, dv]
            push_cast
            rw [show (h : Int) + (i + 1) = (h + i) + 1 by omega, Int.mul_add]
            omega
          · rcases Nat.lt_or_eq_of_le (show j ≤ i by omega) with c | c
            · exact f j c
            · subst c; exact dv
      obtain ⟨e2, f2⟩ := key (h2 - h) (by omega)
      have ed : d.drop h = List.replicate (h2 - h) q ++ d.drop h2 := by
        refine List.ext_getElem? fun k => ?_
        rw [List.getElem?_append, List.length_replicate]
        split
        · rename_i c
          rw [List.getElem?_replicate_of_lt c, List.getElem?_drop, List.getElem?_eq_getElem (by omega), ← nth0_get (by omega), f2 k c]
        · rw [List.getElem?_drop, List.getElem?_drop]
          congr 1; omega
      have eb : cutF d (u + 1) h2 = List.replicate (h2 - 1) q ++ [q - 1] ++ d.drop h2 := by
        unfold cutF
        rw [show h + (h2 - h) = h2 by omega] at e2
        rw [show (d.take h2).sum - (u + 1) = (q - 1) * h2 + ((h2 : Int) - 1) by
          rw [Int.sub_mul]
          have : (h : Int) + ((h2 - h : Nat) : Int) = h2 := by omega
          rw [this] at e2
          omega, evenF_of (by omega) (by omega)]
        rw [show ((h2 : Int) - 1).toNat = h2 - 1 by omega, show h2 - (h2 - 1) = 1 by omega, show q - 1 + 1 = q by omega]
        rfl
      have ea2 : cutF d u h = List.replicate h2 q ++ d.drop h2 := by
        rw [ea, ed, ← List.append_assoc, List.replicate_append_replicate, show h + (h2 - h) = h2 by omega]
      rw [ea2, eb]
      refine ⟨q, List.replicate (h2 - 1) q ++ d.drop h2, ?_, fun x hx => ?_, ?_⟩
      · rw [rep_split q (show 1 ≤ h2 by omega)]; exact List.Perm.refl _
      · rcases List.mem_append.mp hx with hx | hx
        · rw [List.eq_of_mem_replicate hx]; omega
        · exact dq x (by rw [ed]; exact List.mem_append_right _ hx)
      · simp only [List.append_assoc, List.cons_append, List.nil_append]
        exact List.perm_middle
theorem cuts_prog {d : List Int} (fd : d.Pairwise (· ≥ ·)) (hd : 1 ≤ d.length) : ∀ (n : Nat) (h : Nat), Stop d n h → Cuts n d (cutF d n h)
  | 0, h, s => by
    have s' : Stop d 0 h := s
    have := cut_zero fd s'
    show d.Perm (cutF d ((0 : Nat) : Int) h)
    rw [show ((0 : Nat) : Int) = 0 from rfl, this]
  | n + 1, h, s => by
    obtain ⟨h', s'⟩ := stop_ex (d := d) (n : Int) hd
    refine ⟨_, cuts_prog fd hd n h' s', ?_⟩
    have s2 : Stop d ((n : Int) + 1) h := by have := s; push_cast at this; exact this
    have := cut_next fd s' s2
    push_cast
    exact this
end Sp
namespace Sp
open PySem PySem.Spec PyProof.Rows L2 SQ XQ XD
variable {V : Ve} {B : Sc} {X : XP} {C : D → Prop}
theorem cut_takeN (xs : List D) (k : Nat) : SQ.cutD xs none (some (k : Int)) = xs.take k := by
  unfold SQ.cutD
  rw [HT.sIx_none, HT.sIx_nat]
  simp only [List.drop_zero, Nat.sub_zero]
  rcases Nat.le_total k xs.length with h | h
  · rw [Nat.min_eq_left h]
  · rw [Nat.min_eq_right h, List.take_of_length_le (Nat.le_refl _), List.take_of_length_le h]
theorem cut_dropN (xs : List D) (k : Nat) : SQ.cutD xs (some (k : Int)) none = xs.drop k := by
  unfold SQ.cutD
  rw [HT.sIx_none, HT.sIx_nat]
  rcases Nat.le_total k xs.length with h | h
  · rw [Nat.min_eq_left h]
    exact List.take_of_length_le (by simp)
  · rw [Nat.min_eq_right h, List.drop_of_length_le h, List.drop_of_length_le (Nat.le_refl _)]; simp
theorem greatest_places {l : List Int} (hl : l.length ≤ 64) {k : Nat} : (F_greatest_places V).F B [row l, .int k] C X = C (row (up ((plc l).take k))) := by
  simp [F_greatest_places, X_greatest_places, xf_F, places_by_entry hl, cut_takeN]
  rw [← List.map_take, srtP_lst]
  have : (up ((plc l).take k)).length ≤ 100000 := by
    have := (up_perm ((plc l).take k)).length_eq
    rw [this]; simp; have := plc_len l; omega
  simp [this]
def vals (l P : List Int) : List Int := P.map fun p => nth0 l p.toNat
def lackP (l P : List Int) : Int := (vals l P).sum - (P.length : Int) * ((P.length : Int) - 1) - (mins P.length l - mins P.length (vals l P))
theorem lack_ {l P : List Int} (hl : l.length ≤ 64) (hp : P.length ≤ 64) (hP : ∀ p ∈ P, ∃ i : Nat, i < l.length ∧ p = i) : (F__lack V).F B [row l, row P] C X = C (.int (lackP l P)) := by
  have key : ∀ p ∈ P, ∀ C : D → Prop, (∃ d, atI (l.map D.int) p = some d ∧ C d) = C (.int (nth0 l p.toNat)) := fun p m C => by
    obtain ⟨i, hi, rfl⟩ := hP p m
    rw [exI_ints hi, Int.toNat_natCast]
  simp [F__lack, X__lack, xf_F, show l.length ≤ 100000 by omega, show P.length ≤ 100000 by omega]
  rw [lcW_map (f := fun x : Int => .int (min (P.length : Int) x)) (fun x _ Q => by simp), List.nil_append, intsM, sumP_lst]
  rw [lcW_map (f := fun p : Int => .int (min (P.length : Int) (nth0 l p.toNat))) (fun p m Q => by simp; rw [key p m fun d => minP [.int P.length, d] fun y => Q (some y)]; simp), List.nil_append, intsM, sumP_lst, I2_int]
  rw [lcW_map (f := fun p : Int => .int (nth0 l p.toNat)) (fun p m Q => by simp; rw [key p m fun d => Q (some d)]), List.nil_append, intsM, sumP_lst]
  simp [show CMul (P.length : Int) ((P.length : Int) - 1) ∨ CMulW (P.length : Int) ((P.length : Int) - 1) from cmul1 ⟨by omega, by omega⟩]
  rw [show lackP l P = (List.map (fun p => nth0 l p.toNat) P).sum - (P.length : Int) * ((P.length : Int) - 1) - ((List.map (min (P.length : Int)) l).sum - (List.map (fun x => min (P.length : Int) (nth0 l x.toNat)) P).sum) by
    unfold lackP vals mins; rw [List.map_map]; rfl]
theorem lackP_lk {l : List Int} {k : Nat} (hk : k ≤ l.length) : lackP l (up ((plc l).take k)) = lk (down l) k := by
  have p : (vals l (up ((plc l).take k))).Perm ((down l).take k) := by
    unfold vals
    refine ((up_perm _).map _).trans ?_
    rw [List.map_take, plc_vals]
  have e1 := perm_sum p
  have e2 : mins k (vals l (up ((plc l).take k))) = mins k ((down l).take k) := perm_sum (p.map _)
  have e3 : mins k l = mins k ((down l).take k) + mins k ((down l).drop k) := by
    rw [← mins_app, List.take_append_drop]
    exact (perm_sum ((down_perm l).map _)).symm
  have e4 : (up ((plc l).take k)).length = k := by rw [(up_perm _).length_eq]; simp; have := plc_len l; omega
  unfold lackP lk
  rw [e4]
  omega
theorem lacks_ {l : List Int} (hl : l.length ≤ 64) : (F__lacks V).F B [row l] C X = C (.lst (((List.range (l.length + 1)).map fun k => lk (down l) k).map D.int)) := by
  simp [-List.map_map, F__lacks, X__lacks, xf_F, show (l.length : Int) + 1 < 4611686018427387904 by omega, show -4611686018427387904 ≤ (l.length : Int) + 1 by omega, show (l.length : Int) + 1 ≤ 100000 by omega, rng0]
  rw [lcW_map (f := fun k : Nat => .int (lk (down l) k)) (fun k m Q => by
    have hk := List.mem_range.mp m
    simp [greatest_places hl]
    have hP : ∀ p ∈ up ((plc l).take k), ∃ i : Nat, i < l.length ∧ p = i := fun p h => by
      have h := List.mem_of_mem_take ((up_perm _).mem_iff.mp h)
      obtain ⟨q, hq, e⟩ := List.mem_map.mp h
      obtain ⟨i, hi, rfl⟩ := pts_mem hq
      exact ⟨i, hi, e.symm⟩
    have e4 : (up ((plc l).take k)).length = k := by rw [(up_perm _).length_eq]; simp; have := plc_len l; omega
    rw [lack_ hl (by omega) hP, lackP_lk (by omega)]), List.nil_append, intsM]
theorem greatest_lack {l : List Int} (h : Row l) : (F_greatest_lack V).F B [row l] C X = C (.int (gl l)) := by
  simp [-List.map_map, F_greatest_lack, X_greatest_lack, xf_F, check_row (typed1_row l), isRow_row h, lacks_ h.l2]
  rfl
theorem fewest_away {l : List Int} (h : Row l) : (F_fewest_away V).F B [row l] C X = C (.int (fw l)) := by
  simp [F_fewest_away, X_fewest_away, xf_F, greatest_lack h]
  rfl
theorem has_web {l : List Int} (h : Row l) : (F_has_web V).F B [row l] C X = C (.bl (decide (gl l = 0) && decide (l.sum % 2 = 0))) := by
  simp [F_has_web, X_has_web, xf_F, greatest_lack h]
  have e : (l.sum % 2 == 0) = decide (l.sum % 2 = 0) := by rw [Bool.eq_iff_iff]; simp
  by_cases c : gl l = 0 <;> simp [c, e]
end Sp
namespace Sp
open PySem PySem.Spec PyProof.Rows L2 SQ XQ XD
variable {V : Ve} {B : Sc} {X : XP} {C : D → Prop}
@[simp] theorem sumP_takeT {ns : List Int} {k : Nat} {C : D → Prop} : sumP [.tup ((ns.map D.int).take k)] C = C (.int (ns.take k).sum) := by rw [← List.map_take, sumP_tup]
@[simp] theorem sumP_takeL {ns : List Int} {k : Nat} {C : D → Prop} : sumP [.lst ((ns.map D.int).take k)] C = C (.int (ns.take k).sum) := by rw [← List.map_take, sumP_lst]
@[simp] theorem sumP_dropT {ns : List Int} {k : Nat} {C : D → Prop} : sumP [.tup ((ns.map D.int).drop k)] C = C (.int (ns.drop k).sum) := by rw [← List.map_drop, sumP_tup]
@[simp] theorem sumP_dropL {ns : List Int} {k : Nat} {C : D → Prop} : sumP [.lst ((ns.map D.int).drop k)] C = C (.int (ns.drop k).sum) := by rw [← List.map_drop, sumP_lst]
theorem cdivp {i : Int} {h : Nat} (h1 : 1 ≤ h) (h2 : h ≤ 1000) : CDivP i (h : Int) := cdivp_of (by omega) (by
  rw [Int.natAbs_natCast]
  exact Nat.lt_of_le_of_lt (Nat.log2_le_self h) (by omega))
theorem evenly_dealt {T : Int} {h : Nat} (h1 : 1 ≤ h) (h2 : h ≤ 64) : (F_evenly_dealt V).F B [.int T, .int h] C X = C (row (evenF T h)) := by
  have m0 := Int.emod_nonneg T (show (h : Int) ≠ 0 by omega)
  have m1 := Int.emod_lt_of_pos T (show (0 : Int) < h by omega)
  have e1 : ((h : Int) - T % (h : Int)).toNat = h - (T % (h : Int)).toNat := by omega
  simp [F_evenly_dealt, X_evenly_dealt, xf_F, cdivp h1 (show h ≤ 1000 by omega), m0, show T % (h : Int) ≤ 1000 by omega, show T % (h : Int) ≤ h by omega, show (h : Int) ≤ 1000 + T % (h : Int) by omega, e1, evenF, -List.map_replicate]
  simp only [row, List.map_append, List.map_replicate]
  constructor
  · exact fun x => x.2.2
  · exact fun x => ⟨by omega, by omega, x⟩
theorem cut_while {d : List Int} {u : Int} {h : Nat} (hd : d.length ≤ 64) (s : Stop d u h) {e : En} : ∀ (n j : Nat), 1 ≤ j → j ≤ h →
    (whW (tst (G := Good V) (andT (test (op rlt (var 2) (cb blen (acons (var 0) anil)))) (test (op rlt (op rsub (cb bsum (acons (slc (var 0) pno (psome (var 2))) anil)) (var 1)) (op rmul (op rix (var 0) (var 2)) (var 2))))) B X) (run (X__cut_L1 V) B X) n [.val (row d), .val (.int u), .val (.int j)] e
      ↔ (h - j < n ∧ e.nx [.val (row d), .val (.int u), .val (.int h)]))
  | 0, j, h1, h2 => by simp [whW]
  | n + 1, j, h1, h2 => by
    have hn := s.hn
    rw [whW]
    rcases Nat.lt_or_eq_of_le h2 with c | c
    · have g := s.go j h1 c
      have jl : j < d.length := by omega
      have ih := cut_while hd s (e := e) n (j + 1) (by omega) (by omega)
      have cm : CMul (nth0 d j) (j : Int) ∨ CMulW (nth0 d j) (j : Int) := cmul2 ⟨by omega, by omega⟩
      have jl2 : ¬ d.length ≤ j := by omega
      have g2 : ¬ nth0 d j * (j : Int) ≤ (List.take j d).sum - u := by omega
      simp [jl, jl2, cut_takeN, exI_ints jl, cm, g, g2, X__cut_L1]
      have e1 : ((j : Int) + 1) = ((j + 1 : Nat) : Int) := by omega
      rw [e1]
      refine Iff.trans ih ?_
      constructor
      · exact fun x => ⟨by omega, x.2⟩
      · exact fun x => ⟨by omega, x.2⟩
    · subst c
      have st := s.st
      by_cases jl : j < d.length
      · have g := st jl
        have jl2 : ¬ d.length ≤ j := by omega
        have g2 : ¬ (List.take j d).sum - u < nth0 d j * (j : Int) := by omega
        have cm : CMul (nth0 d j) (j : Int) ∨ CMulW (nth0 d j) (j : Int) := cmul2 ⟨by omega, by omega⟩
        simp [jl, jl2, cut_takeN, exI_ints jl, cm, g, g2]
      · have jl2 : d.length ≤ j := by omega
        simp [jl, jl2]
theorem cut_ {d : List Int} {u : Int} {h : Nat} (hd : d.length ≤ 64) (s : Stop d u h) : (F__cut V).F B [row d, .int u] C X = C (row (cutF d u h)) := by
  have h1 := s.h1
  have hn := s.hn
  have hl : (evenF ((d.take h).sum - u) h).length ≤ 64 := by
    have m1 := Int.emod_lt_of_pos ((d.take h).sum - u) (show (0 : Int) < h by omega)
    simp [evenF]; omega
  simp [F__cut, X__cut, xf_F]
  have w := fun n (e : En) => cut_while (V := V) (B := B) (X := X) hd s (e := e) n 1 (Nat.le_refl _) h1
  have c1 : ((1 : Nat) : Int) = 1 := rfl
  simp only [c1] at w
  simp only [w]
  have e1 : (evenF ((d.take h).sum - u) h).length + (d.length - h) ≤ 100000 := by omega
  simp [cut_takeN, cut_dropN, evenly_dealt h1 (show h ≤ 64 by omega), cutF, e1]
  simp only [row, List.map_append, List.map_drop]
  exact ⟨fun x => x.2, fun x => ⟨⟨h, by omega⟩, x⟩⟩
/-- nearest rows -/
structure Near (l r : List Int) : Prop where
  pw : pw r l
  nn : NN r
  g : gl r = 0
  ev : r.sum % 2 = 0
  am : l.sum - r.sum = fw l
theorem Near.len {l r : List Int} (h : Near l r) : r.length = l.length := h.pw.len
theorem row_pw {l r : List Int} (h : Row l) (p : Sp.pw r l) (n : NN r) : Row r := by
  have e := p.len
  refine ⟨by rw [e]; exact h.l1, by rw [e]; exact h.l2, fun x hx => ⟨n x hx, ?_⟩⟩
  obtain ⟨i, hi⟩ := List.mem_iff_getElem?.mp hx
  have il := (List.getElem?_eq_some_iff.mp hi).1
  have a := (pw_iff.mp p).2 i x l[i] hi (List.getElem?_eq_getElem (by omega))
  have b := (h.e l[i] (List.getElem_mem _)).2
  omega
theorem Near.row {l r : List Int} (h : Near l r) (hl : Row l) : Row r := row_pw hl h.pw h.nn
theorem nn_row {l : List Int} (h : Row l) : NN l := fun x hx => (h.e x hx).1
theorem fw_perm {a b : List Int} (p : a.Perm b) : fw a = fw b := by unfold fw; rw [gl_perm p, perm_sum p]
theorem fw_nn {l : List Int} (h : NN l) : 0 ≤ fw l := by have := gl_nn h; unfold fw; omega
theorem near_of {l c : List Int} {n : Nat} (h : Row l) (k : Cuts n (down l) c) (e : (n : Int) = fw l) : Row c ∧ c.length = l.length ∧ Near l (arrF c l) := by
  have nd : NN (down l) := (nn_row h).perm (down_perm l).symm
  have f := cuts_fw nd k (by rw [fw_perm (down_perm l)]; exact e)
  have s := cuts_sum k
  have p := cuts_pw k
  rw [down_eq (down_perm l)] at p
  have ll : c.length = l.length := by rw [s.2, down_len]
  have ap := arr_perm ll
  have q := arr_pw ll p
  have nr : NN (arrF c l) := f.1.perm ap.symm
  have N : Near l (arrF c l) := ⟨q, nr, by rw [gl_perm ap]; exact f.2.1, by rw [perm_sum ap]; exact f.2.2, by rw [perm_sum ap, s.1, perm_sum (down_perm l)]; omega⟩
  have R := N.row h
  exact ⟨⟨by rw [ll]; exact h.l1, by rw [ll]; exact h.l2, fun x hx => R.e x (ap.mem_iff.mpr hx)⟩, ll, N⟩
theorem nearest {l : List Int} (h : Row l) : ∃ r, Near l r ∧ ∀ {C : D → Prop} {X : XP}, (F_nearest V).F B [row l] C X = C (row r) := by
  have hd : 1 ≤ (down l).length := by rw [down_len]; exact h.l1
  have f0 := fw_nn (nn_row h)
  obtain ⟨k, s⟩ := stop_ex (d := down l) (fw l) hd
  have e : ((fw l).toNat : Int) = fw l := by omega
  have cu := cuts_prog (down_falls l) hd (fw l).toNat k (by rw [e]; exact s)
  rw [e] at cu
  obtain ⟨rc, lc, N⟩ := near_of h cu e
  refine ⟨_, N, fun {C X} => ?_⟩
  simp [F_nearest, X_nearest, xf_F, fewest_away h, cut_ (show (down l).length ≤ 64 by rw [down_len]; exact h.l2) s, arranged rc h, lc]
def nrB (l r : List Int) : Bool := decide (r.length = l.length) && ((r.zip l).all (fun q => decide (q.1 ≤ q.2)) && (decide (l.sum - r.sum = fw l) && (decide (gl r = 0) && decide (r.sum % 2 = 0))))
theorem pw_zip : ∀ {r l : List Int}, Sp.pw r l ↔ r.length = l.length ∧ (r.zip l).all (fun q => decide (q.1 ≤ q.2)) = true
  | [], [] => by simp [Sp.pw]
  | [], _ :: _ => by simp [Sp.pw]
  | _ :: _, [] => by simp [Sp.pw]
  | x :: a, y :: b => by
    rw [Sp.pw, pw_zip (r := a) (l := b)]
    simp
    exact and_left_comm
theorem nrB_iff {l r : List Int} (n : NN r) : nrB l r = true ↔ Near l r := by
  unfold nrB
  simp only [Bool.and_eq_true, decide_eq_true_eq]
  constructor
  · rintro ⟨a, b, c, d, e⟩
    exact ⟨pw_zip.mpr ⟨a, b⟩, n, d, e, c⟩
  · intro N
    obtain ⟨a, b⟩ := pw_zip.mp N.pw
    exact ⟨a, b, N.am, N.g, N.ev⟩
theorem is_nearest {l r : List Int} (h : Row l) (hr : Row r) : (F_is_nearest V).F B [row l, row r] C X = C (.bl (nrB l r)) := by
  simp [F_is_nearest, X_is_nearest, xf_F, check_row (typed1_row l), isRow_row h, is_row (typed1_row r), isRow_row hr]
  by_cases e : r.length = l.length
  · have := h.l2
    have ez : (r.zip l).length = l.length := by simp [e]
    simp [e, zipII, show l.length ≤ 100000 by omega]
    rw [lcW_map (f := fun q : Int × Int => .bl (decide (q.1 ≤ q.2))) (fun q _ Q => by simp), List.nil_append, blsM]
    have e2 : (gl r == 0) = decide (gl r = 0) := by rw [Bool.eq_iff_iff]; simp
    have e3 : (l.sum - r.sum == fw l) = decide (l.sum - r.sum = fw l) := by rw [Bool.eq_iff_iff]; simp
    unfold nrB
    cases ha : (r.zip l).all (fun q => decide (q.1 ≤ q.2)) with
    | false => simp [-List.map_map, ha, e]
    | true =>
      simp [-List.map_map, ha, e, fewest_away h, has_web hr]
      by_cases c : l.sum - r.sum = fw l <;> simp [c]
  · simp [e, nrB]
theorem is_nearest_no {l : List Int} {d : D} (h : Row l) (t : Typed1 d) (n : isRow d = false) : (F_is_nearest V).F B [row l, d] C X = C (.bl false) := by
  simp [F_is_nearest, X_is_nearest, xf_F, check_row (typed1_row l), isRow_row h, is_row t, n]
end Sp
namespace Sp
open PySem PySem.Spec PyProof.Rows L2 SQ XQ XD
variable {V : Ve} {B : Sc} {X : XP} {C : D → Prop}
theorem range_succ_map (f : Nat → Int) (n : Nat) : (List.range (n + 1)).map f = (List.range n).map f ++ [f n] := by rw [List.range_succ, List.map_append]; rfl
theorem law_greatest {d : D} {ns : List Int} (hd : d = row ns ∨ d = .lst (ns.map D.int)) (hl : ns.length ≤ 64) (nn : NN ns) : (F__law_greatest_3 V).F B [d] C X = C (.int (gl ns)) := by
  have hs : seqOf d = some (ns.map D.int) := by rcases hd with rfl | rfl <;> rfl
  have ll := down_len ns
  have nd : NN (down ns) := nn.perm (down_perm ns).symm
  simp [F__law_greatest_3, X__law_greatest_3, xf_F, hs, ll, show (ns.length : Int) + 1 < 4611686018427387904 by omega, show -4611686018427387904 ≤ (ns.length : Int) + 1 by omega]
  rw [rngD_map]
  refine forW_iff (fun (a : List Int × Sl × Sl) => [.val d, .val (.lst ((down ns).map D.int)), .own (a.1.map D.int), a.2.1, a.2.2, .un]) (fun i : Nat => D.int (1 + i))
    (fun a i => (a.1 ++ [lk (down ns) (i + 1)], .val (.int (1 + i)), .val (.int (mins (1 + i) ((down ns).drop (i + 1)))))) (fun i a => a.1 = (List.range (i + 1)).map (lk (down ns))) (a0 := ([0], .un, .un)) ?_ (fun i x a e' hx ha => ⟨?_, ?_⟩) fun a ha => ?_
  · show [0] = _
    simp [List.range_succ, lk_zero nd]
  · obtain ⟨rfl, hi⟩ := range_get hx
    have el : a.1.length = x + 1 := by rw [ha]; simp
    have e1 : (1 : Int) + x = ((x + 1 : Nat) : Int) := by omega
    have cm : CMul ((x + 1 : Nat) : Int) (((x + 1 : Nat) : Int) - 1) ∨ CMulW ((x + 1 : Nat) : Int) (((x + 1 : Nat) : Int) - 1) := cmul1 ⟨by omega, by omega⟩
    rw [e1]
    simp only [trn_cons, gname_pre, run_cons]
    simp [-Int.natCast_add, X__law_greatest_3_L1, cut_dropN, cut_takeN, ll, show ns.length - (x + 1) ≤ 100000 by omega]
    rw [← List.map_drop, lcW_map (f := fun e : Int => .int (min ((x + 1 : Nat) : Int) e)) (fun e _ Q => by simp [-Int.natCast_add]), List.nil_append, intsM, sumP_lst]
    simp only [I2_int, cm, true_and, show a.1.length < 100000 by omega]
    exact Iff.rfl
  · obtain ⟨rfl, hi⟩ := range_get hx
    show a.1 ++ [lk (down ns) (x + 1)] = _
    rw [ha, range_succ_map _ (x + 1)]
  · have e : a.1 = (List.range (ns.length + 1)).map fun k => lk (down ns) k := by
      rw [ha]; simp
    have h0 : 0 < a.1.length := by rw [e]; simp
    simp [h0]
    rw [show top a.1 = gl ns by rw [e]; rfl]
theorem law_is_possible {d : D} {ns : List Int} (hd : d = row ns ∨ d = .lst (ns.map D.int)) (hl : ns.length ≤ 64) (nn : NN ns) : (F__law_is_possible_2 V).F B [d] C X = C (.bl (decide (ns.sum % 2 = 0) && decide (gl ns = 0))) := by
  have e : (ns.sum % 2 == 0) = decide (ns.sum % 2 = 0) := by rw [Bool.eq_iff_iff]; simp
  have e2 : (gl ns == 0) = decide (gl ns = 0) := by rw [Bool.eq_iff_iff]; simp
  rcases hd with rfl | rfl
  · simp [F__law_is_possible_2, X__law_is_possible_2, xf_F, law_greatest (.inl rfl) hl nn, e2]
    by_cases c : ns.sum % 2 = 0 <;> simp [c]
  · simp [F__law_is_possible_2, X__law_is_possible_2, xf_F, law_greatest (.inr rfl) hl nn, e2]
    by_cases c : ns.sum % 2 = 0 <;> simp [c]
theorem law_fewest {d : D} {ns : List Int} (hd : d = row ns ∨ d = .lst (ns.map D.int)) (hl : ns.length ≤ 64) (nn : NN ns) : (F__law_fewest_2 V).F B [d] C X = C (.int (fw ns)) := by
  rcases hd with rfl | rfl
  · simp [F__law_fewest_2, X__law_fewest_2, xf_F, law_greatest (.inl rfl) hl nn]
    rfl
  · simp [F__law_fewest_2, X__law_fewest_2, xf_F, law_greatest (.inr rfl) hl nn]
    rfl
/-- a row with units taken one by one from a greatest entry -/
theorem set_cut {l : List Int} {j : Nat} {m : Int} (h : l[j]? = some m) (hm : ∀ y ∈ l, y ≤ m) : Cut1 l (l.set j (m - 1)) := by
  obtain ⟨hj, e⟩ := List.getElem?_eq_some_iff.mp h
  refine ⟨m, l.take j ++ l.drop (j + 1), ?_, fun x hx => ?_, ?_⟩
  · have : l = l.take j ++ m :: l.drop (j + 1) := by rw [← e, ← List.drop_eq_getElem_cons hj, List.take_append_drop]
    conv => lhs; rw [this]
    exact List.perm_middle
  · rcases List.mem_append.mp hx with hx | hx
    · exact hm x (List.mem_of_mem_take hx)
    · exact hm x (List.mem_of_mem_drop hx)
  · rw [List.set_eq_take_append_cons_drop, if_pos hj]
    exact List.perm_middle
theorem set_pw {l : List Int} {j : Nat} {m : Int} (h : l[j]? = some m) : Sp.pw (l.set j (m - 1)) l := by
  refine pw_iff.mpr ⟨by simp, fun i x y hx hy => ?_⟩
  rw [List.getElem?_set] at hx
  split at hx
  · rename_i e
    subst e
    rw [h] at hy
    split at hx
    · cases hx; cases hy; omega
    · cases hx
  · rw [hx] at hy; cases hy; omega
theorem law_taken {ns : List Int} {n : Nat} (h1 : 1 ≤ ns.length) (hl : ns.length ≤ 64) (hn : n ≤ 1000) (c : ∀ r : List Int, Cuts n ns r → Sp.pw r ns → C (row r)) : (F__law_taken V).F B [row ns, .int n] C X := by
  simp [F__law_taken, X__law_taken, xf_F, show ns.length ≤ 100000 by omega, show (n : Int) < 4611686018427387904 by omega, rng0]
  refine forW_inv (fun i ss => ∃ (r : List Int) (s3 s4 : Sl), ss = [.val (row ns), .val (.int n), .own (r.map D.int), s3, s4] ∧ Cuts i ns r ∧ Sp.pw r ns) ⟨ns, _, _, rfl, List.Perm.refl _, Sp.pw.refl _⟩ ?_ ?_
  · rintro i d ss' hi ⟨r, s3, s4, rfl, k, p⟩ e' n1 n2 n3 n4
    rw [List.getElem?_map] at hi
    obtain ⟨x, hx, rfl⟩ := Option.map_eq_some_iff.mp hi
    have el := p.len
    clear n2 n3 n4
    simp [X__law_taken_L1]
    refine ⟨r, rfl, by omega, fun j m hj hm _ => ?_⟩
    obtain ⟨jl, ej⟩ := List.getElem?_eq_some_iff.mp hj
    refine ⟨_, atI_ints jl, ?_⟩
    rw [nth0_get jl, ej, I2_int]
    refine ⟨j, ixN_nat jl, n1 _ ⟨r.set j (m - 1), .val (.int x), .val (.int j), by rw [List.map_set], ⟨r, k, set_cut hj hm⟩, (set_pw hj).trans p⟩⟩
  · rintro ss' ⟨r, s3, s4, rfl, k, p⟩
    have el := p.len
    simp at k
    simp [show r.length ≤ 100000 by omega]
    exact c r k p
/-- all rows that are at most a row, entry by entry -/
def belF (l : List Int) : List (List Int) := l.foldl (fun found entry => found.flatMap fun one => (List.range (entry + 1).toNat).map fun i : Nat => one ++ [(i : Int)]) [[]]
theorem bel_mem : ∀ (l : List Int) (acc : List (List Int)) (z : List Int), z ∈ l.foldl (fun found entry => found.flatMap fun one => (List.range (entry + 1).toNat).map fun i : Nat => one ++ [(i : Int)]) acc ↔ ∃ o ∈ acc, ∃ t, z = o ++ t ∧ NN t ∧ Sp.pw t l
  | [], acc, z => by
    simp only [List.foldl_nil]
    constructor
    · exact fun h => ⟨z, h, [], by simp, (fun x hx => by cases hx), trivial⟩
    · rintro ⟨o, ho, t, rfl, _, p⟩
      cases t with
      | nil => simpa using ho
      | cons x t => exact p.elim
  | e :: l, acc, z => by
    rw [List.foldl_cons, bel_mem l]
    constructor
    · rintro ⟨o, ho, t, rfl, nt, p⟩
      obtain ⟨o', ho', hm⟩ := List.mem_flatMap.mp ho
      obtain ⟨i, hi, rfl⟩ := List.mem_map.mp hm
      have hi := List.mem_range.mp hi
      refine ⟨o', ho', (i : Int) :: t, by simp, fun x hx => ?_, ⟨by omega, p⟩⟩
      rcases List.mem_cons.mp hx with rfl | hx
      · omega
      · exact nt x hx
    · rintro ⟨o, ho, t, rfl, nt, p⟩
      cases t with
      | nil => exact p.elim
      | cons x t =>
        have x0 := nt x List.mem_cons_self
        have x1 := p.1
        refine ⟨o ++ [x], List.mem_flatMap.mpr ⟨o, ho, List.mem_map.mpr ⟨x.toNat, List.mem_range.mpr (by omega), by rw [show ((x.toNat : Nat) : Int) = x by omega]⟩⟩, t, by simp, fun y hy => nt y (List.mem_cons_of_mem _ hy), p.2⟩
theorem mem_bel {l z : List Int} : z ∈ belF l ↔ NN z ∧ Sp.pw z l := by
  unfold belF
  rw [bel_mem]
  constructor
  · rintro ⟨o, ho, t, rfl, n, p⟩
    simp at ho; subst ho
    simpa using ⟨n, p⟩
  · rintro ⟨n, p⟩
    exact ⟨[], by simp, z, by simp, n, p⟩
theorem bel_len : ∀ (l : List Int) (acc : List (List Int)), (∀ e ∈ l, 0 ≤ e ∧ e ≤ 4) → (l.foldl (fun found entry => found.flatMap fun one => (List.range (entry + 1).toNat).map fun i : Nat => one ++ [(i : Int)]) acc).length ≤ acc.length * 5 ^ l.length
  | [], acc, _ => by simp
  | e :: l, acc, h => by
    rw [List.foldl_cons]
    refine Nat.le_trans (bel_len l _ fun x m => h x (List.mem_cons_of_mem _ m)) ?_
    have he := h e List.mem_cons_self
    have : (acc.flatMap fun one => (List.range (e + 1).toNat).map fun i : Nat => one ++ [(i : Int)]).length ≤ acc.length * 5 := by
      induction acc with
      | nil => simp
      | cons o acc ih =>
        rw [List.flatMap_cons, List.length_append, List.length_cons]
        simp only [List.length_map, List.length_range]
        omega
    rw [List.length_cons, Nat.pow_succ]
    calc _ ≤ (acc.length * 5) * 5 ^ l.length := Nat.mul_le_mul_right _ this
      _ = _ := by rw [Nat.mul_assoc, Nat.mul_comm 5]
theorem bel_take {l : List Int} {i : Nat} {e : Int} (h : l[i]? = some e) : belF (l.take (i + 1)) = (belF (l.take i)).flatMap fun one => (List.range (e + 1).toNat).map fun i : Nat => one ++ [(i : Int)] := by
  unfold belF
  rw [List.take_add_one, h, List.foldl_append]
  rfl
theorem belF_len {l : List Int} (hl : l.length ≤ 4) (he : ∀ e ∈ l, 0 ≤ e ∧ e ≤ 4) : (belF l).length ≤ 625 := by
  have := bel_len l [[]] he
  refine Nat.le_trans this ?_
  have : 5 ^ l.length ≤ 5 ^ 4 := Nat.pow_le_pow_right (by omega) hl
  simp; omega
theorem law_below {l : List Int} (hl : l.length ≤ 4) (he : ∀ e ∈ l, 0 ≤ e ∧ e ≤ 4) (c : C (.lst ((belF l).map row))) : (F__law_below V).F B [row l] C X := by
  simp [F__law_below, X__law_below, xf_F]
  refine forW_inv (fun i ss => ∃ s2 s3 s4 : Sl, ss = [.val (row l), .val (.lst ((belF (l.take i)).map row)), s2, s3, s4, .un]) ⟨_, _, _, rfl⟩ ?_ ?_
  · rintro i d ss' hi ⟨s2, s3, s4, rfl⟩ e' n1 n2 n3 n4
    rw [List.getElem?_map] at hi
    obtain ⟨x, hx, rfl⟩ := Option.map_eq_some_iff.mp hi
    have bx := he x (List.mem_of_getElem? hx)
    have lt : ∀ k, (belF (l.take k)).length ≤ 625 := fun k => belF_len (by simp; omega) fun e m => he e (List.mem_of_mem_take m)
    clear n2 n3 n4
    simp [-List.map_map, X__law_below_L2]
    refine forW_inv (fun j ss => ∃ s4 : Sl, ss = [.val (row l), .val (.lst ((belF (l.take i)).map row)), .val (.int x), .own ((((belF (l.take i)).take j).flatMap fun one => (List.range (x + 1).toNat).map fun i : Nat => one ++ [(i : Int)]).map row), s4, .un]) ⟨_, rfl⟩ ?_ ?_
    · rintro j d ss' hj ⟨s4, rfl⟩ e2 m1 m2 m3 m4
      rw [List.getElem?_map] at hj
      obtain ⟨o, ho, rfl⟩ := Option.map_eq_some_iff.mp hj
      have lo : o.length ≤ 4 := by
        have := (mem_bel.mp (List.mem_of_getElem? ho)).2.len
        rw [this]; simp; omega
      clear m2 m3 m4
      have g1 : (((belF (l.take i)).take j).flatMap fun one => (List.range (x + 1).toNat).map fun i : Nat => one ++ [(i : Int)]).length ≤ 625 * 5 := by
        have : ∀ L : List (List Int), (L.flatMap fun one => (List.range (x + 1).toNat).map fun i : Nat => one ++ [(i : Int)]).length ≤ L.length * 5 := by
          intro L
          induction L with
          | nil => simp
          | cons o acc ih =>
            rw [List.flatMap_cons, List.length_append, List.length_cons]
            simp only [List.length_map, List.length_range]
            omega
        refine Nat.le_trans (this _) (Nat.mul_le_mul_right _ ?_)
        simp
        have := lt i
        omega
      have g2 : ((belF (l.take i)).take (j + 1)).flatMap (fun one => (List.range (x + 1).toNat).map fun i : Nat => one ++ [(i : Int)]) = (((belF (l.take i)).take j).flatMap fun one => (List.range (x + 1).toNat).map fun i : Nat => one ++ [(i : Int)]) ++ (List.range (x + 1).toNat).map fun i : Nat => o ++ [(i : Int)] := by
        rw [List.take_add_one, ho, List.flatMap_append]; simp
      rw [g2] at m1
      generalize (((belF (l.take i)).take j).flatMap fun one => (List.range (x + 1).toNat).map fun i : Nat => one ++ [(i : Int)]) = Fl at g1 m1 ⊢
      simp [-List.map_map, X__law_below_L1, show -4611686018427387904 ≤ x + 1 ∧ x + 1 < 4611686018427387904 by omega, show (x + 1).toNat ≤ 100000 by omega, show (x + 1) ≤ 100000 by omega, rng0]
      rw [lcW_map (f := fun i : Nat => row (o ++ [(i : Int)])) (fun i m Q => by simp [show o.length ≤ 99999 by omega, row]), List.nil_append]
      refine ⟨by simp; omega, m1 _ ⟨.val (row o), ?_⟩⟩
      rw [List.map_append, List.map_map]
      rfl
    · rintro ss' ⟨s4, rfl⟩
      have e1 := bel_take hx
      simp [-List.map_map]
      rw [← e1]
      exact n1 _ ⟨_, _, _, rfl⟩
  · rintro ss' ⟨s2, s3, s4, rfl⟩
    simp
    exact c
end Sp
namespace Sp
open PySem PySem.Spec PyProof.Rows L2 SQ XQ XD
variable {V : Ve} {B : Sc} {X : XP} {C : D → Prop}
theorem law_row {p : Addr} (bp : B p) {most high : Int} (m1 : 1 ≤ most) (m2 : most ≤ 20) (h1 : 0 ≤ high) (h2 : high ≤ 25) (c : ∀ ns : List Int, 1 ≤ ns.length → (ns.length : Int) ≤ most → (∀ e ∈ ns, 0 ≤ e ∧ e ≤ high) → C (row ns)) : (F__law_row V).F B [.cell p, .int most, .int high] C X := by
  simp [F__law_row, X__law_row, xf_F, bp, show 0 < most by omega]
  refine ⟨by omega, fun r r0 r1 => ?_⟩
  simp [show -4611686018427387904 ≤ 1 + r ∧ 1 + r < 4611686018427387904 by omega, show (1 + r).toNat ≤ 100000 by omega, rng0]
  refine lcW_all (P := fun d => ∃ n : Int, d = .int n ∧ 0 ≤ n ∧ n < high + 1) (fun d _ Q q => by
    simp [bp, show 0 < high + 1 by omega]
    exact ⟨by omega, fun r r0 r1 => q _ ⟨r, rfl, r0, r1⟩⟩) fun ys hl hy => ?_
  obtain ⟨us, rfl, hu⟩ := ints_of hy
  have ul : us.length = (1 + r).toNat := by simpa using hl
  simp [show us.length ≤ 100000 by omega]
  exact c us (by omega) (by omega) fun e m => by have := hu e m; omega
theorem law_pick3 {p : Addr} {xs : List D} (b : B p) (h1 : xs ≠ []) (h2 : xs.length ≤ 100000) (c : ∀ x ∈ xs, C x) : (F__law_pick_3 V).F B [.cell p, .lst xs] C X := law_pick (V := V) b h1 h2 c
theorem small_right {p : Addr} (bp : B p) (c : C (.bl true)) : (F__law_small_right_4 V).F B [.cell p] C X := by
  simp [F__law_small_right_4, X__law_small_right_4, xf_F]
  refine law_row bp (by omega) (by omega) (by omega) (by omega) fun ns h1 h4 he => ?_
  have l4 : ns.length ≤ 4 := by omega
  have R : Row ns := ⟨h1, by omega, fun n m => ⟨(he n m).1, by have := (he n m).2; omega⟩⟩
  have nn := nn_row R
  refine law_below l4 he ?_
  have bl := belF_len l4 he
  have inb : ∀ {z}, z ∈ belF ns → Row z ∧ Sp.pw z ns := fun {z} hz => by
    obtain ⟨n, p⟩ := mem_bel.mp hz
    exact ⟨row_pw R p n, p⟩
  simp [bl, show (belF ns).length ≤ 100000 by omega]
  rw [lcW_fil (p := fun z : List Int => decide (z.sum % 2 = 0) && decide (gl z = 0)) (f := row) (fun z hz Q => by
    have := (inb hz).1
    simp
    rw [law_is_possible (.inl rfl) this.l2 (nn_row this)]
    by_cases a : z.sum % 2 = 0 <;> by_cases b : gl z = 0 <;> simp [a, b]), List.nil_append]
  have hP : ∀ z, z ∈ (belF ns).filter (fun z => decide (z.sum % 2 = 0) && decide (gl z = 0)) ↔ NN z ∧ Sp.pw z ns ∧ z.sum % 2 = 0 ∧ gl z = 0 := fun z => by
    rw [List.mem_filter, mem_bel, Bool.and_eq_true, decide_eq_true_eq, decide_eq_true_eq, and_assoc]
  have pl : ((belF ns).filter (fun z => decide (z.sum % 2 = 0) && decide (gl z = 0))).length ≤ 625 := Nat.le_trans (List.length_filter_le _ _) bl
  generalize (belF ns).filter (fun z => decide (z.sum % 2 = 0) && decide (gl z = 0)) = PL at hP pl ⊢
  obtain ⟨r, N, hr⟩ := nearest (V := V) (B := B) R
  have rP : r ∈ PL := (hP r).mpr ⟨N.nn, N.pw, N.ev, N.g⟩
  have f0 := fw_nn nn
  have s16 : ns.sum ≤ 4 * ns.length := by
    clear hP N hr rP f0 pl bl inb R nn h1 h4 l4
    induction ns with
    | nil => simp
    | cons x l ih =>
      have := ih fun e m => he e (List.mem_cons_of_mem _ m)
      have := he x List.mem_cons_self
      rw [List.sum_cons, List.length_cons]; push_cast; omega
  have rs : 0 ≤ r.sum := by
    have n := N.nn
    clear hr N rP
    induction r with
    | nil => simp
    | cons x l ih =>
      have := ih fun e m => n e (List.mem_cons_of_mem _ m)
      have := n x List.mem_cons_self
      rw [List.sum_cons]; omega
  have am := N.am
  have p0 : 0 < PL.length := List.length_pos_iff.mpr (List.ne_nil_of_mem rP)
  refine ⟨by simp; omega, ?_⟩
  rw [lcW_map (f := fun z : List Int => .int (ns.sum - z.sum)) (fun z hz Q => by simp), List.nil_append, intsM, minP_lst]
  have eb : bot (PL.map fun z => ns.sum - z.sum) = fw ns := by
    refine (bot_of (List.mem_map.mpr ⟨r, rP, am⟩) fun y hy => ?_).symm
    obtain ⟨z, hz, rfl⟩ := List.mem_map.mp hy
    obtain ⟨_, a, b, c⟩ := (hP z).mp hz
    exact fw_least a c b
  rw [eb, fewest_away R]
  refine ⟨by simpa using p0, ⟨XQ.pyk_int, XQ.pyk_int⟩, .inl ⟨by simp, ?_⟩⟩
  rw [law_fewest (.inl rfl) R.l2 nn]
  refine ⟨⟨XQ.pyk_int, XQ.pyk_int⟩, .inl ⟨by simp, by simp; omega, ?_⟩⟩
  rw [lcW_fil (p := fun z : List Int => decide (ns.sum - z.sum = fw ns)) (f := row) (fun z hz Q => by
    have e3 : (ns.sum - z.sum == fw ns) = decide (ns.sum - z.sum = fw ns) := by rw [Bool.eq_iff_iff]; simp
    by_cases a : ns.sum - z.sum = fw ns <;> simp [a, e3]), List.nil_append, hr]
  have hN : ∀ z, z ∈ PL.filter (fun z => decide (ns.sum - z.sum = fw ns)) ↔ Near ns z := fun z => by
    rw [List.mem_filter, decide_eq_true_eq, hP]
    exact ⟨fun ⟨⟨a, b, c, d⟩, e⟩ => ⟨b, a, d, c, e⟩, fun n => ⟨⟨n.nn, n.pw, n.ev, n.g⟩, n.am⟩⟩
  have nl : (PL.filter (fun z => decide (ns.sum - z.sum = fw ns))).length ≤ 625 := Nat.le_trans (List.length_filter_le _ _) pl
  generalize PL.filter (fun z => decide (ns.sum - z.sum = fw ns)) = NL at hN nl ⊢
  have en : ((fw ns).toNat : Int) = fw ns := by omega
  refine ⟨⟨by simp, by simp⟩, .inl ⟨⟨row r, List.mem_map.mpr ⟨r, (hN r).mpr N, rfl⟩, by simp⟩, ?_⟩⟩
  have tk : ∀ {C : D → Prop} {X : XP}, (∀ t : List Int, Cuts (fw ns).toNat ns t → Sp.pw t ns → C (row t)) → (F__law_taken V).F B [row ns, .int (fw ns)] C X := fun {C X} c => by
    have := law_taken (V := V) (B := B) (X := X) h1 R.l2 (n := (fw ns).toNat) (by omega) c
    rw [en] at this; exact this
  refine tk fun t k pt => ?_
  have fs := cuts_fw nn k en
  have ss := cuts_sum k
  have nt : Near ns t := ⟨pt, fs.1, fs.2.1, fs.2.2, by rw [ss.1]; omega⟩
  rw [is_nearest R (nt.row R), (nrB_iff nt.nn).mpr nt]
  refine .inr ⟨rfl, ?_⟩
  refine law_below l4 he ?_
  rw [mixed_lst]
  refine ⟨⟨bp, by simp; omega⟩, fun ys hy => ?_⟩
  rw [cutP_lst, show (12 : Int) = ((12 : Nat) : Int) from rfl, show (3 : Int) = ((3 : Nat) : Int) from rfl, cut_takeN, cut_takeN]
  have ho : ∀ d ∈ ys.take 12 ++ (NL.map row).take 3, ∃ z, d = row z ∧ z ∈ belF ns := fun d hd => by
    rcases List.mem_append.mp hd with h | h
    · obtain ⟨z, hz, rfl⟩ := List.mem_map.mp (hy.mem_iff.mp (List.mem_of_mem_take h))
      exact ⟨z, rfl, hz⟩
    · obtain ⟨z, hz, rfl⟩ := List.mem_map.mp (List.mem_of_mem_take h)
      have := (hN z).mp hz
      exact ⟨z, rfl, mem_bel.mpr ⟨this.nn, this.pw⟩⟩
  have lo : (ys.take 12 ++ (NL.map row).take 3).length ≤ 15 := by simp; omega
  simp only [addO]
  refine ⟨by simp; omega, by simp; omega, ?_⟩
  generalize ys.take 12 ++ (NL.map row).take 3 = os at ho lo ⊢
  rw [lcW_filD (p := fun _ => false) (f := id) (fun d hd Q => by
    obtain ⟨z, rfl, hz⟩ := ho d hd
    obtain ⟨rz, pz⟩ := inb hz
    simp
    rw [is_nearest R rz]
    have e : (NL.any ((fun z_1 => eqD z_1 (row z)) ∘ row)) = nrB ns z := by
      rw [Bool.eq_iff_iff, List.any_eq_true, nrB_iff (nn_row rz), ← hN z]
      constructor
      · rintro ⟨y, hy, e⟩
        simp at e
        rw [← e]; exact hy
      · exact fun h => ⟨z, h, by simp⟩
    rw [e]
    simp), List.nil_append]
  have fe : List.map id (List.filter (fun _ : D => false) os) = [] := by simp
  rw [fe]
  simp
  exact c
end Sp
namespace Sp
open PySem PySem.Spec PyProof.Rows L2 SQ XQ XD
variable {V : Ve} {B : Sc} {X : XP} {C : D → Prop}
def T33 (V : Ve) : XS (Good V) :=
  (seq (par 1 2 (acons (cb btup (acons (var 1) anil)) (acons (call0 (F__law_fewest_2 V) (acons (var 1) anil)) anil)))
      (seq (set 3 (call0 (F_nearest V) (acons (var 1) anil)))
      (seq (ifS (orT (test (op rne (call0 (F_fewest_away V) (acons (var 1) anil)) (var 2))) (orT (test (op rne (op rsub (cb bsum (acons (var 1) anil)) (cb bsum (acons (var 3) anil))) (var 2))) (notT (tB' (call0 (F__law_is_possible_2 V) (acons (var 3) anil)))))) (ret (bl false)) skip)
      (seq (ifS (orT (test (op rne (frz (lc (izip (acons (var 3) (acons (var 1) anil))) (gpair 5 6) (notT (test (chain rle rle (int 0) (var 5) (var 6)))) (int 1))) (frz (lst anil)))) (notT (tB' (call0 (F_is_nearest V) (acons (var 1) (acons (var 3) anil)))))) (ret (bl false)) skip)
      (seq (set 4 (frz (lst (acons non (acons (int 0) (acons (tup anil) (acons (frz (cbO blst (acons (var 3) anil))) (acons (op radd (var 3) (tup (acons (int 0) anil))) (acons (slc (var 3) (psome (int 1)) pno) (acons (op rtmul (tup (acons non anil)) (cb blen (acons (var 1) anil))) (acons (ifE (test (op rgt (var 2) (int 0))) (var 1) (op radd (var 1) (var 1))) (acons dnew anil))))))))))))
      (ret (notV (call0 (F_is_nearest V) (acons (var 1) (acons (call0 (F__law_pick_3 V) (acons (var 0) (acons (var 4) anil))) anil))))))))))
theorem nrB_len {l r : List Int} (h : r.length ≠ l.length) : nrB l r = false := by simp [nrB, h]
theorem t33 {p : Addr} {ns : List Int} (bp : B p) (R : Row ns) (l20 : ns.length ≤ 20) (c : C (.bl true)) : (T33 V).pre B X [.val (.cell p), .val (.lst (ns.map D.int)), .un, .un, .un, .un, .un] (en0 C) := by
  have nn := nn_row R
  obtain ⟨r, N, hr⟩ := nearest (V := V) (B := B) R
  have Rr := N.row R
  have rl := N.len
  simp [T33, show ns.length ≤ 100000 by omega]
  rw [law_fewest (.inr rfl) R.l2 nn]
  simp
  rw [hr, fewest_away R]
  simp [N.am]
  rw [law_is_possible (.inl rfl) Rr.l2 N.nn]
  simp [N.ev, N.g, zipII, rl, show ns.length ≤ 100000 by omega]
  have z0 : ∀ q ∈ r.zip ns, 0 ≤ q.1 ∧ q.1 ≤ q.2 := fun q hq => by
    have := (pw_zip.mp N.pw).2
    have := of_decide_eq_true (List.all_eq_true.mp this q hq)
    exact ⟨N.nn _ (List.of_mem_zip hq).1, this⟩
  rw [lcW_fil (p := fun _ : Int × Int => false) (f := fun _ => .int 1) (fun q hq Q => by
    obtain ⟨a, b⟩ := z0 q hq
    simp [a, b, Int.not_lt.mpr a, Int.not_lt.mpr b]), List.nil_append]
  have fe : List.map (fun _ : Int × Int => D.int 1) (List.filter (fun _ => false) (r.zip ns)) = [] := by simp
  rw [fe]
  simp
  rw [is_nearest R Rr, (nrB_iff N.nn).mpr N]
  refine .inr ⟨rfl, ?_⟩
  have e1 : SQ.cutD (List.map D.int r) (some 1) none = (r.drop 1).map D.int := by
    rw [show (1 : Int) = ((1 : Nat) : Int) from rfl, cut_dropN, List.map_drop]
  have e2 : D.tup (List.map D.int r ++ [D.int 0]) = row (r ++ [0]) := by simp [row]
  have e3 : D.tup (List.map D.int ns ++ List.map D.int ns) = row (ns ++ ns) := by simp [row]
  have l1 := R.l1
  have k0 : ∀ x ∈ [D.non, D.int 0, D.tup [], D.lst (List.map D.int r), row (r ++ [0]), row (r.drop 1), D.tup (List.replicate ns.length D.non), row (ns ++ ns), D.dk [] []], ∀ (C : D → Prop) (X : XP), (F_is_nearest V).F B [row ns, x] C X = C (.bl false) := fun x hx C X => by
    have tn : ∀ {d : D}, Typed d → (∀ xs, d ≠ .tup xs) → Typed1 d := fun h n => ⟨h, fun xs e => absurd e (n xs)⟩
    simp only [List.mem_cons, List.not_mem_nil, or_false] at hx
    rcases hx with rfl | rfl | rfl | rfl | rfl | rfl | rfl | rfl | rfl
    · exact is_nearest_no R (tn ty_non (fun _ e => nomatch e)) rfl
    · exact is_nearest_no R (tn ty_int (fun _ e => nomatch e)) rfl
    · exact is_nearest_no R ⟨ty_tup, fun xs e x m => by cases e; cases m⟩ rfl
    · exact is_nearest_no R (tn ty_lst (fun _ e => nomatch e)) rfl
    · have R2 : Row (r ++ [0]) := ⟨by simp, by simp; omega, fun x h => by
        rcases List.mem_append.mp h with h | h
        · exact Rr.e x h
        · rw [List.mem_singleton.mp h]; exact ⟨by decide, by decide⟩⟩
      rw [is_nearest R R2, nrB_len (by simp; omega)]
    · rcases Nat.lt_or_ge 1 r.length with q | q
      · have R2 : Row (r.drop 1) := ⟨by simp; omega, by simp; omega, fun x h => Rr.e x (List.mem_of_mem_drop h)⟩
        rw [is_nearest R R2, nrB_len (by simp; omega)]
      · have z : r.drop 1 = [] := List.drop_of_length_le q
        rw [z]
        exact is_nearest_no R ⟨ty_tup, fun xs e x m => by cases e; cases m⟩ rfl
    · refine is_nearest_no R ⟨ty_tup, fun xs e x m => by cases e; rw [List.eq_of_mem_replicate m]; exact ty_non⟩ ?_
      obtain ⟨n, hn⟩ : ∃ n, ns.length = n + 1 := ⟨ns.length - 1, by omega⟩
      rw [hn, List.replicate_succ]
      simp [isRow, isEntry]
    · have R2 : Row (ns ++ ns) := ⟨by simp; omega, by simp; omega, fun x h => by
        rcases List.mem_append.mp h with h | h <;> exact R.e x h⟩
      rw [is_nearest R R2, nrB_len (by rw [List.length_append]; omega)]
    · exact is_nearest_no R (tn ty_dk (fun _ e => nomatch e)) rfl
  have k1 : 0 < fw ns → ∀ (C : D → Prop) (X : XP), (F_is_nearest V).F B [row ns, row ns] C X = C (.bl false) := fun h C X => by
    rw [is_nearest R R]
    cases e : nrB ns ns with
    | false => rfl
    | true =>
      have := ((nrB_iff nn).mp e).am
      omega
  refine ⟨by omega, by omega, ?_⟩
  rw [e1, e2, e3]
  rcases Int.lt_or_le 0 (fw ns) with h | h
  · refine .inr ⟨h, law_pick3 bp (by simp) (by simp) fun x hx => ?_⟩
    by_cases hx2 : x = row ns
    · rw [hx2, k1 h]
      exact .inl ⟨rfl, c⟩
    · rw [k0 x (by
        simp only [List.mem_cons, List.not_mem_nil, or_false] at hx ⊢
        rcases hx with h | h | h | h | h | h | h | h | h
        · exact .inl h
        · exact .inr (.inl h)
        · exact .inr (.inr (.inl h))
        · exact .inr (.inr (.inr (.inl h)))
        · exact .inr (.inr (.inr (.inr (.inl h))))
        · exact .inr (.inr (.inr (.inr (.inr (.inl h)))))
        · exact .inr (.inr (.inr (.inr (.inr (.inr (.inl h))))))
        · exact absurd h hx2
        · exact .inr (.inr (.inr (.inr (.inr (.inr (.inr (.inr h)))))))) ]
      exact .inl ⟨rfl, c⟩
  · refine .inl ⟨h, by omega, law_pick3 bp (by simp) (by simp) fun x hx => ?_⟩
    rw [k0 x hx]
    exact .inl ⟨rfl, c⟩
theorem long_right {p : Addr} (bp : B p) (c : C (.bl true)) : (F__law_long_right V).F B [.cell p] C X := by
  unfold F__law_long_right X__law_long_right
  rw [xf_F]
  refine ⟨rfl, ?_⟩
  change (seq (setO 1 (cbO blst (acons (call0 (F__law_row V) (acons (var 0) (acons (int 20) (acons (int 25) anil)))) anil)))
      (seq (ifS (test (op req (call0 ladleF (acons (var 0) (acons (int 3) anil))) (int 0))) (put 1 (call0 (F__law_pick_3 V) (acons (var 0) (acons (frz (lst (acons (op rsub (op rpow (int 10) (int 30)) (int 1)) (acons (op rpow (int 10) (int 12)) (acons (int 19) (acons (int 20) anil)))))) anil))) (int 0)) skip)
      (freeze 1 (T33 V)))).pre B X [.val (.cell p), .un, .un, .un, .un, .un, .un] (en0 C)
  have c12 : CPowW 10 12 = True := eq_true ⟨by decide, by decide +kernel⟩
  have p12 : (10 : Int) ^ Int.toNat 12 = 10 ^ 12 := rfl
  simp only [seq_pre, setO_pre, cbO_pre, acons_pre, anil_pre, call0_pre, var_pre, getV_0, int_pre, blst_pre]
  refine ⟨by simp, ?_⟩
  refine law_row bp (by omega) (by omega) (by omega) (by omega) fun ns h1 h4 he => ?_
  have R : Row ns := ⟨h1, by omega, fun n m => ⟨(he n m).1, by have := (he n m).2; omega⟩⟩
  have l20 : ns.length ≤ 20 := by omega
  obtain ⟨x0, rest, rfl⟩ : ∃ x0 rest, ns = x0 :: rest := by cases ns with
    | nil => simp at h1
    | cons a b => exact ⟨a, b, rfl⟩
  have k1 := t33 (V := V) (X := X) bp R l20 c
  have lr : rest.length ≤ 19 := by simp at l20; omega
  simp [bp, c12, p12, show rest.length ≤ 99999 by omega]
  intro r r0 r1
  by_cases hr : r = 0
  · simp [hr]
    refine law_pick3 bp (by simp) (by simp) fun d hd => ?_
    obtain ⟨y, rfl, y0, y1⟩ : ∃ y : Int, d = .int y ∧ 0 ≤ y ∧ y < 10 ^ 30 := by
      simp only [List.mem_cons, List.not_mem_nil, or_false] at hd
      rcases hd with rfl | rfl | rfl | rfl
      · exact ⟨_, rfl, by decide, by decide⟩
      · exact ⟨_, rfl, by decide, by decide⟩
      · exact ⟨_, rfl, by decide, by decide⟩
      · exact ⟨_, rfl, by decide, by decide⟩
    refine ⟨0, ixN_nat (show 0 < rest.length + 1 by omega), ?_⟩
    have R2 : Row (y :: rest) := ⟨by simp, by simp; omega, fun n m => by
      rcases List.mem_cons.mp m with rfl | m
      · exact ⟨y0, y1⟩
      · exact R.e n (List.mem_cons_of_mem _ m)⟩
    exact t33 (V := V) (X := X) bp R2 (by simp; omega) c
  · simp [hr]
    exact k1
def glL (l : List Int) : Int := top ((List.range (l.length + 1)).map fun k => lk l k)
def fwL (l : List Int) : Int := glL l + (l.sum - glL l) % 2
theorem gl_lit {l : List Int} (h : l.Pairwise (· ≥ ·)) : gl l = glL l := by unfold gl glL; rw [← down_of (List.Perm.refl l) h]
theorem fw_lit {l : List Int} (h : l.Pairwise (· ≥ ·)) : fw l = fwL l := by unfold fw fwL; rw [gl_lit h]
def nrL (l r : List Int) : Bool := decide (r.length = l.length) && ((r.zip l).all (fun q => decide (q.1 ≤ q.2)) && (decide (l.sum - r.sum = fwL l) && (decide (glL r = 0) && decide (r.sum % 2 = 0))))
theorem nr_lit {l r : List Int} (h : l.Pairwise (· ≥ ·)) (h2 : r.Pairwise (· ≥ ·)) : nrB l r = nrL l r := by unfold nrB nrL; rw [gl_lit h2, fw_lit h]
theorem rlit3 {xs : List Int} (h1 : 1 ≤ xs.length) (h2 : xs.length ≤ 64) (h : xs.all (fun n => decide (0 ≤ n ∧ n < 10 ^ 30)) = true) : Row xs := ⟨h1, h2, fun n m => of_decide_eq_true (List.all_eq_true.mp h n m)⟩
theorem nlit1 : (F_fewest_away V).F B [.tup [.int 3, .int 3, .int 1, .int 1]] C X = C (.int 2) := by
  have := fewest_away (V := V) (B := B) (X := X) (C := C) (l := [3, 3, 1, 1]) (rlit3 (by decide) (by decide) (by decide))
  rw [fw_lit (by decide), show fwL [3, 3, 1, 1] = 2 by decide +kernel] at this
  exact this
theorem nlit2 : (F_fewest_away V).F B [.tup [.int 5, .int 2, .int 2, .int 2]] C X = C (.int 3) := by
  have := fewest_away (V := V) (B := B) (X := X) (C := C) (l := [5, 2, 2, 2]) (rlit3 (by decide) (by decide) (by decide))
  rw [fw_lit (by decide), show fwL [5, 2, 2, 2] = 3 by decide +kernel] at this
  exact this
theorem nlit3 : (F_fewest_away V).F B [.tup [.int 1, .int 1, .int 1]] C X = C (.int 1) := by
  have := fewest_away (V := V) (B := B) (X := X) (C := C) (l := [1, 1, 1]) (rlit3 (by decide) (by decide) (by decide))
  rw [fw_lit (by decide), show fwL [1, 1, 1] = 1 by decide +kernel] at this
  exact this
theorem nlit4 : (F_fewest_away V).F B [.tup [.int 6, .int 2, .int 2]] C X = C (.int 4) := by
  have := fewest_away (V := V) (B := B) (X := X) (C := C) (l := [6, 2, 2]) (rlit3 (by decide) (by decide) (by decide))
  rw [fw_lit (by decide), show fwL [6, 2, 2] = 4 by decide +kernel] at this
  exact this
theorem nlit5 : (F_is_nearest V).F B [.tup [.int 5, .int 2, .int 2, .int 2], .tup [.int 3, .int 2, .int 2, .int 1]] C X = C (.bl true) := by
  have := is_nearest (V := V) (B := B) (X := X) (C := C) (l := [5, 2, 2, 2]) (r := [3, 2, 2, 1]) (rlit3 (by decide) (by decide) (by decide)) (rlit3 (by decide) (by decide) (by decide))
  rw [nr_lit (by decide) (by decide), show nrL [5, 2, 2, 2] [3, 2, 2, 1] = true by decide +kernel] at this
  exact this
theorem nlit6 : (F_is_nearest V).F B [.tup [.int 5, .int 2, .int 2, .int 2], .tup [.int 2, .int 2, .int 2, .int 2]] C X = C (.bl true) := by
  have := is_nearest (V := V) (B := B) (X := X) (C := C) (l := [5, 2, 2, 2]) (r := [2, 2, 2, 2]) (rlit3 (by decide) (by decide) (by decide)) (rlit3 (by decide) (by decide) (by decide))
  rw [nr_lit (by decide) (by decide), show nrL [5, 2, 2, 2] [2, 2, 2, 2] = true by decide +kernel] at this
  exact this
theorem nlit7 : (F_is_nearest V).F B [.tup [.int 6, .int 2, .int 2], .tup [.int 2, .int 2, .int 2]] C X = C (.bl true) := by
  have := is_nearest (V := V) (B := B) (X := X) (C := C) (l := [6, 2, 2]) (r := [2, 2, 2]) (rlit3 (by decide) (by decide) (by decide)) (rlit3 (by decide) (by decide) (by decide))
  rw [nr_lit (by decide) (by decide), show nrL [6, 2, 2] [2, 2, 2] = true by decide +kernel] at this
  exact this
theorem nlit8 : (F_is_nearest V).F B [.tup [.int 1, .int 1, .int 1], .tup [.int 0, .int 0, .int 0]] C X = C (.bl false) := by
  have := is_nearest (V := V) (B := B) (X := X) (C := C) (l := [1, 1, 1]) (r := [0, 0, 0]) (rlit3 (by decide) (by decide) (by decide)) (rlit3 (by decide) (by decide) (by decide))
  rw [nr_lit (by decide) (by decide), show nrL [1, 1, 1] [0, 0, 0] = false by decide +kernel] at this
  exact this
theorem nlit9 : (F_nearest V).F B [.tup [.int 0, .int 0]] C X = C (.tup [.int 0, .int 0]) := by
  obtain ⟨r, N, h⟩ := nearest (V := V) (B := B) (l := [0, 0]) (rlit3 (by decide) (by decide) (by decide))
  have e : r = [0, 0] := by
    have hl := N.len
    match r, hl with
    | [x, y], _ =>
      have p := N.pw
      have n := N.nn
      have n1 := n x (by simp)
      have n2 := n y (by simp)
      have p1 := p.1
      have p2 := p.2.1
      rw [show x = 0 by omega, show y = 0 by omega]
  rw [e] at h
  exact h
theorem law_33 {ns : List Int} (c : C (.bl true)) : (F_law_34 V).F B [.scr ns] C X := by
  simp [F_law_34, X_law_34, xf_F]
  refine ⟨by omega, ?_⟩
  refine forW_inv (fun _ ss => ∃ s1 s2 : Sl, ss = [.val (.scr ns), s1, s2, .un]) ⟨_, _, rfl⟩ ?_ ?_
  · rintro i d ss' hi ⟨s1, s2, rfl⟩ e' n1 n2 n3 n4
    obtain ⟨z, rfl, z0, z1⟩ := rng_in (List.mem_of_getElem? hi)
    obtain ⟨j, rfl⟩ : ∃ j : Nat, z = j := ⟨z.toNat, by omega⟩
    clear n2 n3 n4
    simp [X_law_34_L1]
    exact ⟨⟨_, _, ⟨rfl, rfl⟩, by omega⟩, fun B' p bp _ => small_right bp (.inr ⟨rfl, long_right bp (.inr ⟨rfl, n1 _ ⟨_, _, rfl⟩⟩)⟩)⟩
  · rintro ss' ⟨s1, s2, rfl⟩
    simp [nlit1, nlit2, nlit3, nlit4, nlit5, nlit6, nlit7, nlit8, nlit9]
    exact c
theorem law_33e {ns : List Int} (_ : B.tb V.T0) (c : C (.bl true)) : (F_law_34 V).F B [.scr ns] C X := law_33 c
end Sp
namespace W30
open PySem PySem.Spec PyProof.Rows L2 SQ XQ XD
def clsV (E_sums E_operation : Nat) : XN → Nat
  | .sums => E_sums
  | .operation => E_operation
  | .number => E_sums + E_operation + 1
  | .many => E_sums + E_operation + 2
  | .table => E_sums + E_operation + 3
  | .web => E_sums + E_operation + 4
  | .tournament => E_sums + E_operation + 5
  | .filling => E_sums + E_operation + 6
  | .undo => E_sums + E_operation + 7
  | .parse => E_sums + E_operation + 8
  | .unknown => E_sums + E_operation + 9
  | .refused => E_sums + E_operation + 10
  | .command => E_sums + E_operation + 11
theorem clsV_inj {E_sums E_operation : Nat} (q_sums_operation : E_sums ≠ E_operation) : ∀ a b, clsV E_sums E_operation a = clsV E_sums E_operation b → a = b := by
  intro a b h
  cases a <;> cases b <;> first | rfl | (exfalso; simp only [clsV] at h; omega)
theorem all_mk {P : Program} {w : World} {K : PySem.W.Frag} {h : Heap} {mg : Str → Option Value} {fa E_sums E_operation c_law : Addr} (X : K.In h) (hfa : mg "law" = some (.ref fa))
    (b_abs : mg "abs" = none)
    (b_all : mg "all" = none)
    (b_bool : mg "bool" = none)
    (b_divmod : mg "divmod" = none)
    (b_enumerate : mg "enumerate" = none)
    (b_int : mg "int" = none)
    (b_isinstance : mg "isinstance" = none)
    (b_len : mg "len" = none)
    (b_list : mg "list" = none)
    (b_max : mg "max" = none)
    (b_min : mg "min" = none)
    (b_range : mg "range" = none)
    (b_sorted : mg "sorted" = none)
    (b_sum : mg "sum" = none)
    (b_tuple : mg "tuple" = none)
    (b_zip : mg "zip" = none)
    (k_MAX_LENGTH : ∃ u, mg "MAX_LENGTH" = some u ∧ RelV (.int 64) u)
    (x_InvalidOperation : Own0 K mg "InvalidOperation" E_operation)
    (x_InvalidSums : Own0 K mg "InvalidSums" E_sums)
    (e_sums_sums : PySem.W.exmOne K (.ref E_sums) (.ref E_sums) = some true)
    (e_sums_operation : PySem.W.exmOne K (.ref E_sums) (.ref E_operation) = some false)
    (e_operation_sums : PySem.W.exmOne K (.ref E_operation) (.ref E_sums) = some false)
    (e_operation_operation : PySem.W.exmOne K (.ref E_operation) (.ref E_operation) = some true)
    (q_sums_operation : E_sums ≠ E_operation)
    (d_is_whole : DefF K mg "is_whole" Y.s_is_whole ["value"])
    (d_is_entry : DefF K mg "is_entry" Y.s_is_entry ["value"])
    (d_is_row : DefF K mg "is_row" Y.s_is_row ["value"])
    (d_check_row : DefF K mg "check_row" Y.s_check_row ["value"])
    (d_places_by_entry : DefF K mg "places_by_entry" Y.s_places_by_entry ["row"])
    (d_greatest_places : DefF K mg "greatest_places" Y.s_greatest_places ["row", "many"])
    (d__lack : DefF K mg "_lack" Y.s__lack ["degrees", "places"])
    (d__lacks : DefF K mg "_lacks" Y.s__lacks ["degrees"])
    (d_greatest_lack : DefF K mg "greatest_lack" Y.s_greatest_lack ["degrees"])
    (d_fewest_away : DefF K mg "fewest_away" Y.s_fewest_away ["degrees"])
    (d_descending : DefF K mg "descending" Y.s_descending ["row"])
    (d_check_rows : DefF K mg "check_rows" Y.s_check_rows ["one", "other"])
    (d_arranged : DefF K mg "arranged" Y.s_arranged ["row", "like"])
    (d_evenly_dealt : DefF K mg "evenly_dealt" Y.s_evenly_dealt ["total", "length"])
    (d__cut : DefF K mg "_cut" Y.s__cut ["entries", "many"])
    (d_nearest : DefF K mg "nearest" Y.s_nearest ["degrees"])
    (d_has_web : DefF K mg "has_web" Y.s_has_web ["degrees"])
    (d_is_nearest : DefF K mg "is_nearest" Y.s_is_nearest ["degrees", "value"])
    (d__law_vat : DefF K mg "_law_vat" Y.s__law_vat ["_law_script", "_law_spot"])
    (d__law_dip : DefF K mg "_law_dip" Y.s__law_dip ["_law_vat_here", "_law_size"])
    (d__law_mixed : DefF K mg "_law_mixed" Y.s__law_mixed ["_law_vat_here", "_law_items"])
    (d__law_row : DefF K mg "_law_row" Y.s__law_row ["_law_vat_here", "_law_most", "_law_high"])
    (d__law_greatest : DefF K mg "_law_greatest" Y.s__law_greatest ["_law_degrees"])
    (d__law_is_possible : DefF K mg "_law_is_possible" Y.s__law_is_possible ["_law_degrees"])
    (d__law_below : DefF K mg "_law_below" Y.s__law_below ["_law_row_here"])
    (d__law_fewest : DefF K mg "_law_fewest" Y.s__law_fewest ["_law_row_here"])
    (d__law_taken : DefF K mg "_law_taken" Y.s__law_taken ["_law_row_here", "_law_units"])
    (d__law_small_right : DefF K mg "_law_small_right" Y.s__law_small_right ["_law_vat_here"])
    (d__law_pick : DefF K mg "_law_pick" Y.s__law_pick ["_law_vat_here", "_law_items"])
    (d__law_long_right : DefF K mg "_law_long_right" Y.s__law_long_right ["_law_vat_here"])
    (d_law : DefC K mg "law" Y.s_law ["_law_script"] c_law) : Ends P w 9 63 "_law_script" mg fa h := by
  obtain ⟨fL, fdL, DL, gL, bL, uL⟩ := d_law.ex
  have e := hfa.symm.trans gL
  cases e
  let V : Ve := ⟨clsV E_sums E_operation, clsV_inj q_sums_operation, [.sums, .operation], []⟩
  have gd : Good V K := ⟨fun a b ha hb => by
    simp only [V, List.mem_cons, List.not_mem_nil, or_false] at ha hb
    rcases ha with rfl | rfl <;> rcases hb with rfl | rfl
    · exact e_sums_sums
    · exact e_sums_operation
    · exact e_operation_sums
    · exact e_operation_operation⟩
  have T : Y.Txt K mg V := ⟨b_abs, b_all, b_bool, b_divmod, b_enumerate, b_int, b_isinstance, b_len, b_list, b_max, b_min, b_range, b_sorted, b_sum, b_tuple, b_zip, k_MAX_LENGTH, x_InvalidOperation, x_InvalidSums⟩
  have two : ∀ {Q : Addr × Addr → Prop}, ∀ p ∈ ([] : List (Addr × Addr)), Q p := fun p hp => (List.not_mem_nil hp).elim
  refine ⟨K, fdL, [], spF K (F_law_34 V).F, X, two , two , two , fun s u => .of_eq (uL [u] rfl), fun H a ns hl _ ht hs => ?_, fun base kb gb tb => ?_⟩
  · refine law_pre (T := V.T0) (fun p hp => ?_) hs (Sp.law_33e  (cx0_tb V.T0) rfl)
    exact (List.not_mem_nil hp).elim
  obtain ⟨a_is_whole, fd_is_whole, D_is_whole, g__is_whole, z_is_whole⟩ := d_is_whole.ex
  have v_is_whole := Y.cf_is_whole (P := P) (w := w) (base := base) T gd D_is_whole g__is_whole z_is_whole
  obtain ⟨a_is_entry, fd_is_entry, D_is_entry, g__is_entry, z_is_entry⟩ := d_is_entry.ex
  have v_is_entry := Y.cf_is_entry (P := P) (w := w) (base := base) T gd v_is_whole D_is_entry g__is_entry z_is_entry
  obtain ⟨a_is_row, fd_is_row, D_is_row, g__is_row, z_is_row⟩ := d_is_row.ex
  have v_is_row := Y.cf_is_row (P := P) (w := w) (base := base) T gd v_is_entry D_is_row g__is_row z_is_row
  obtain ⟨a_check_row, fd_check_row, D_check_row, g__check_row, z_check_row⟩ := d_check_row.ex
  have v_check_row := Y.cf_check_row (P := P) (w := w) (base := base) T gd v_is_row D_check_row g__check_row z_check_row
  obtain ⟨a_places_by_entry, fd_places_by_entry, D_places_by_entry, g__places_by_entry, z_places_by_entry⟩ := d_places_by_entry.ex
  have v_places_by_entry := Y.cf_places_by_entry (P := P) (w := w) (base := base) T gd D_places_by_entry g__places_by_entry z_places_by_entry
  obtain ⟨a_greatest_places, fd_greatest_places, D_greatest_places, g__greatest_places, z_greatest_places⟩ := d_greatest_places.ex
  have v_greatest_places := Y.cf_greatest_places (P := P) (w := w) (base := base) T gd v_places_by_entry D_greatest_places g__greatest_places z_greatest_places
  obtain ⟨a__lack, fd__lack, D__lack, g___lack, z__lack⟩ := d__lack.ex
  have v__lack := Y.cf__lack (P := P) (w := w) (base := base) T gd D__lack g___lack z__lack
  obtain ⟨a__lacks, fd__lacks, D__lacks, g___lacks, z__lacks⟩ := d__lacks.ex
  have v__lacks := Y.cf__lacks (P := P) (w := w) (base := base) T gd v_greatest_places v__lack D__lacks g___lacks z__lacks
  obtain ⟨a_greatest_lack, fd_greatest_lack, D_greatest_lack, g__greatest_lack, z_greatest_lack⟩ := d_greatest_lack.ex
  have v_greatest_lack := Y.cf_greatest_lack (P := P) (w := w) (base := base) T gd v_check_row v__lacks D_greatest_lack g__greatest_lack z_greatest_lack
  obtain ⟨a_fewest_away, fd_fewest_away, D_fewest_away, g__fewest_away, z_fewest_away⟩ := d_fewest_away.ex
  have v_fewest_away := Y.cf_fewest_away (P := P) (w := w) (base := base) T gd v_greatest_lack D_fewest_away g__fewest_away z_fewest_away
  obtain ⟨a_descending, fd_descending, D_descending, g__descending, z_descending⟩ := d_descending.ex
  have v_descending := Y.cf_descending (P := P) (w := w) (base := base) T gd D_descending g__descending z_descending
  obtain ⟨a_check_rows, fd_check_rows, D_check_rows, g__check_rows, z_check_rows⟩ := d_check_rows.ex
  have v_check_rows := Y.cf_check_rows (P := P) (w := w) (base := base) T gd v_check_row D_check_rows g__check_rows z_check_rows
  obtain ⟨a_arranged, fd_arranged, D_arranged, g__arranged, z_arranged⟩ := d_arranged.ex
  have v_arranged := Y.cf_arranged (P := P) (w := w) (base := base) T gd v_check_rows v_descending v_places_by_entry D_arranged g__arranged z_arranged
  obtain ⟨a_evenly_dealt, fd_evenly_dealt, D_evenly_dealt, g__evenly_dealt, z_evenly_dealt⟩ := d_evenly_dealt.ex
  have v_evenly_dealt := Y.cf_evenly_dealt (P := P) (w := w) (base := base) T gd D_evenly_dealt g__evenly_dealt z_evenly_dealt
  obtain ⟨a__cut, fd__cut, D__cut, g___cut, z__cut⟩ := d__cut.ex
  have v__cut := Y.cf__cut (P := P) (w := w) (base := base) T gd v_evenly_dealt D__cut g___cut z__cut
  obtain ⟨a_nearest, fd_nearest, D_nearest, g__nearest, z_nearest⟩ := d_nearest.ex
  have v_nearest := Y.cf_nearest (P := P) (w := w) (base := base) T gd v_descending v_arranged v_fewest_away v__cut D_nearest g__nearest z_nearest
  obtain ⟨a_has_web, fd_has_web, D_has_web, g__has_web, z_has_web⟩ := d_has_web.ex
  have v_has_web := Y.cf_has_web (P := P) (w := w) (base := base) T gd v_greatest_lack D_has_web g__has_web z_has_web
  obtain ⟨a_is_nearest, fd_is_nearest, D_is_nearest, g__is_nearest, z_is_nearest⟩ := d_is_nearest.ex
  have v_is_nearest := Y.cf_is_nearest (P := P) (w := w) (base := base) T gd v_is_row v_check_row v_has_web v_fewest_away D_is_nearest g__is_nearest z_is_nearest
  obtain ⟨a__law_vat, fd__law_vat, D__law_vat, g___law_vat, z__law_vat⟩ := d__law_vat.ex
  have v__law_vat := Y.cf__law_vat (P := P) (w := w) (base := base) T D__law_vat g___law_vat z__law_vat
  obtain ⟨a__law_dip, fd__law_dip, D__law_dip, g___law_dip, z__law_dip⟩ := d__law_dip.ex
  have v__law_dip := Y.cf__law_dip (P := P) (w := w) (base := base) T D__law_dip g___law_dip z__law_dip
  obtain ⟨a__law_mixed, fd__law_mixed, D__law_mixed, g___law_mixed, z__law_mixed⟩ := d__law_mixed.ex
  have v__law_mixed := Y.cf__law_mixed (P := P) (w := w) (base := base) T v__law_dip D__law_mixed g___law_mixed z__law_mixed
  obtain ⟨a__law_row, fd__law_row, D__law_row, g___law_row, z__law_row⟩ := d__law_row.ex
  have v__law_row := Y.cf__law_row (P := P) (w := w) (base := base) T gd v__law_dip D__law_row g___law_row z__law_row
  obtain ⟨a__law_greatest, fd__law_greatest, D__law_greatest, g___law_greatest, z__law_greatest⟩ := d__law_greatest.ex
  have v__law_greatest := Y.cf__law_greatest (P := P) (w := w) (base := base) T gd D__law_greatest g___law_greatest z__law_greatest
  obtain ⟨a__law_is_possible, fd__law_is_possible, D__law_is_possible, g___law_is_possible, z__law_is_possible⟩ := d__law_is_possible.ex
  have v__law_is_possible := Y.cf__law_is_possible (P := P) (w := w) (base := base) T gd v__law_greatest D__law_is_possible g___law_is_possible z__law_is_possible
  obtain ⟨a__law_below, fd__law_below, D__law_below, g___law_below, z__law_below⟩ := d__law_below.ex
  have v__law_below := Y.cf__law_below (P := P) (w := w) (base := base) T gd D__law_below g___law_below z__law_below
  obtain ⟨a__law_fewest, fd__law_fewest, D__law_fewest, g___law_fewest, z__law_fewest⟩ := d__law_fewest.ex
  have v__law_fewest := Y.cf__law_fewest (P := P) (w := w) (base := base) T gd v__law_greatest D__law_fewest g___law_fewest z__law_fewest
  obtain ⟨a__law_taken, fd__law_taken, D__law_taken, g___law_taken, z__law_taken⟩ := d__law_taken.ex
  have v__law_taken := Y.cf__law_taken (P := P) (w := w) (base := base) T gd D__law_taken g___law_taken z__law_taken
  obtain ⟨a__law_small_right, fd__law_small_right, D__law_small_right, g___law_small_right, z__law_small_right⟩ := d__law_small_right.ex
  have v__law_small_right := Y.cf__law_small_right (P := P) (w := w) (base := base) T gd v_fewest_away v_nearest v_is_nearest v__law_mixed v__law_row v__law_is_possible v__law_below v__law_fewest v__law_taken D__law_small_right g___law_small_right z__law_small_right
  obtain ⟨a__law_pick, fd__law_pick, D__law_pick, g___law_pick, z__law_pick⟩ := d__law_pick.ex
  have v__law_pick := Y.cf__law_pick (P := P) (w := w) (base := base) T gd v__law_dip D__law_pick g___law_pick z__law_pick
  obtain ⟨a__law_long_right, fd__law_long_right, D__law_long_right, g___law_long_right, z__law_long_right⟩ := d__law_long_right.ex
  have v__law_long_right := Y.cf__law_long_right (P := P) (w := w) (base := base) T gd v_fewest_away v_nearest v_is_nearest v__law_dip v__law_pick v__law_row v__law_is_possible v__law_fewest D__law_long_right g___law_long_right z__law_long_right
  exact Y.cf_law T gd v_fewest_away v_nearest v_is_nearest v__law_vat v__law_small_right v__law_long_right DL
end W30
set_option maxHeartbeats 0
open PySem PySem.W PyProof.Rows
theorem PySem.Challenge.cw_sumsalone_k33_whole_nearest_rows_holds : PySem.Challenge.rw_sumsalone_k33_whole_nearest_rows.Holds := by
  w_on; o_law; k_head; (case hw => w_witness2)
  k_fill
  refine SQ.walk_end (l := PySem.Challenge.rw_sumsalone_k33_whole_nearest_rows) (n := 63) (k := 9) (x := "_law_script") rfl (by decide) rfl ⟨rfl, by decide, by decide⟩ ?F
  case F =>
    intro w mg fa h Y G hmg
    have KX := kIn_of Y
    refine' W30.all_mk KX hmg ?b_abs ?b_all ?b_bool ?b_divmod ?b_enumerate ?b_int ?b_isinstance ?b_len ?b_list ?b_max ?b_min ?b_range ?b_sorted ?b_sum ?b_tuple ?b_zip ?k_MAX_LENGTH ?x_InvalidOperation ?x_InvalidSums ?e_sums_sums ?e_sums_operation ?e_operation_sums ?e_operation_operation ?q_sums_operation ?d_is_whole ?d_is_entry ?d_is_row ?d_check_row ?d_places_by_entry ?d_greatest_places ?d__lack ?d__lacks ?d_greatest_lack ?d_fewest_away ?d_descending ?d_check_rows ?d_arranged ?d_evenly_dealt ?d__cut ?d_nearest ?d_has_web ?d_is_nearest ?d__law_vat ?d__law_dip ?d__law_mixed ?d__law_row ?d__law_greatest ?d__law_is_possible ?d__law_below ?d__law_fewest ?d__law_taken ?d__law_small_right ?d__law_pick ?d__law_long_right ?d_law
    (case b_abs => exact mg_none_of KX G (by k_is))
    (case b_all => exact mg_none_of KX G (by k_is))
    (case b_bool => exact mg_none_of KX G (by k_is))
    (case b_divmod => exact mg_none_of KX G (by k_is))
    (case b_enumerate => exact mg_none_of KX G (by k_is))
    (case b_int => exact mg_none_of KX G (by k_is))
    (case b_isinstance => exact mg_none_of KX G (by k_is))
    (case b_len => exact mg_none_of KX G (by k_is))
    (case b_list => exact mg_none_of KX G (by k_is))
    (case b_max => exact mg_none_of KX G (by k_is))
    (case b_min => exact mg_none_of KX G (by k_is))
    (case b_range => exact mg_none_of KX G (by k_is))
    (case b_sorted => exact mg_none_of KX G (by k_is))
    (case b_sum => exact mg_none_of KX G (by k_is))
    (case b_tuple => exact mg_none_of KX G (by k_is))
    (case b_zip => exact mg_none_of KX G (by k_is))
    (case k_MAX_LENGTH => refine' ⟨?u, mg_of KX G ?e, ?r⟩; (case e => k_is); (case r => exact ⟨_, rfl⟩))
    (case x_InvalidOperation => refine' SQ.own0 KX G F.excBase_ValueError ?a ?e ?k ?h1 ?h2; (case a => k_is); (case e => k_exc); (case k => k_is); (case h1 => k_is); (case h2 => k_is))
    (case x_InvalidSums => refine' SQ.own0 KX G F.excBase_ValueError ?a ?e ?k ?h1 ?h2; (case a => k_is); (case e => k_exc); (case k => k_is); (case h1 => k_is); (case h2 => k_is))
    (case e_sums_sums => kts_exm)
    (case e_sums_operation => kts_exm)
    (case e_operation_sums => kts_exm)
    (case e_operation_operation => kts_exm)
    (case q_sums_operation => decide)
    (case d_is_whole => refine' SQ.defF KX G ?a ?l ?c ?k (fun _ _ _ _ _ _ us hl => match us, hl with | [_], _ => rfl); (case a => k_is); (case l => k_is); (case c => k_is); (case k => k_is))
    (case d_is_entry => refine' SQ.defF KX G ?a ?l ?c ?k (fun _ _ _ _ _ _ us hl => match us, hl with | [_], _ => rfl); (case a => k_is); (case l => k_is); (case c => k_is); (case k => k_is))
    (case d_is_row => refine' SQ.defF KX G ?a ?l ?c ?k (fun _ _ _ _ _ _ us hl => match us, hl with | [_], _ => rfl); (case a => k_is); (case l => k_is); (case c => k_is); (case k => k_is))
    (case d_check_row => refine' SQ.defF KX G ?a ?l ?c ?k (fun _ _ _ _ _ _ us hl => match us, hl with | [_], _ => rfl); (case a => k_is); (case l => k_is); (case c => k_is); (case k => k_is))
    (case d_places_by_entry => refine' SQ.defF KX G ?a ?l ?c ?k (fun _ _ _ _ _ _ us hl => match us, hl with | [_], _ => rfl); (case a => k_is); (case l => k_is); (case c => k_is); (case k => k_is))
    (case d_greatest_places => refine' SQ.defF KX G ?a ?l ?c ?k (fun _ _ _ _ _ _ us hl => match us, hl with | [_, _], _ => rfl); (case a => k_is); (case l => k_is); (case c => k_is); (case k => k_is))
    (case d__lack => refine' SQ.defF KX G ?a ?l ?c ?k (fun _ _ _ _ _ _ us hl => match us, hl with | [_, _], _ => rfl); (case a => k_is); (case l => k_is); (case c => k_is); (case k => k_is))
    (case d__lacks => refine' SQ.defF KX G ?a ?l ?c ?k (fun _ _ _ _ _ _ us hl => match us, hl with | [_], _ => rfl); (case a => k_is); (case l => k_is); (case c => k_is); (case k => k_is))
    (case d_greatest_lack => refine' SQ.defF KX G ?a ?l ?c ?k (fun _ _ _ _ _ _ us hl => match us, hl with | [_], _ => rfl); (case a => k_is); (case l => k_is); (case c => k_is); (case k => k_is))
    (case d_fewest_away => refine' SQ.defF KX G ?a ?l ?c ?k (fun _ _ _ _ _ _ us hl => match us, hl with | [_], _ => rfl); (case a => k_is); (case l => k_is); (case c => k_is); (case k => k_is))
    (case d_descending => refine' SQ.defF KX G ?a ?l ?c ?k (fun _ _ _ _ _ _ us hl => match us, hl with | [_], _ => rfl); (case a => k_is); (case l => k_is); (case c => k_is); (case k => k_is))
    (case d_check_rows => refine' SQ.defF KX G ?a ?l ?c ?k (fun _ _ _ _ _ _ us hl => match us, hl with | [_, _], _ => rfl); (case a => k_is); (case l => k_is); (case c => k_is); (case k => k_is))
    (case d_arranged => refine' SQ.defF KX G ?a ?l ?c ?k (fun _ _ _ _ _ _ us hl => match us, hl with | [_, _], _ => rfl); (case a => k_is); (case l => k_is); (case c => k_is); (case k => k_is))
    (case d_evenly_dealt => refine' SQ.defF KX G ?a ?l ?c ?k (fun _ _ _ _ _ _ us hl => match us, hl with | [_, _], _ => rfl); (case a => k_is); (case l => k_is); (case c => k_is); (case k => k_is))
    (case d__cut => refine' SQ.defF KX G ?a ?l ?c ?k (fun _ _ _ _ _ _ us hl => match us, hl with | [_, _], _ => rfl); (case a => k_is); (case l => k_is); (case c => k_is); (case k => k_is))
    (case d_nearest => refine' SQ.defF KX G ?a ?l ?c ?k (fun _ _ _ _ _ _ us hl => match us, hl with | [_], _ => rfl); (case a => k_is); (case l => k_is); (case c => k_is); (case k => k_is))
    (case d_has_web => refine' SQ.defF KX G ?a ?l ?c ?k (fun _ _ _ _ _ _ us hl => match us, hl with | [_], _ => rfl); (case a => k_is); (case l => k_is); (case c => k_is); (case k => k_is))
    (case d_is_nearest => refine' SQ.defF KX G ?a ?l ?c ?k (fun _ _ _ _ _ _ us hl => match us, hl with | [_, _], _ => rfl); (case a => k_is); (case l => k_is); (case c => k_is); (case k => k_is))
    (case d__law_vat => refine' SQ.defF KX G ?a ?l ?c ?k (fun _ _ _ _ _ _ us hl => match us, hl with | [_, _], _ => rfl); (case a => k_is); (case l => k_is); (case c => k_is); (case k => k_is))
    (case d__law_dip => refine' SQ.defF KX G ?a ?l ?c ?k (fun _ _ _ _ _ _ us hl => match us, hl with | [_, _], _ => rfl); (case a => k_is); (case l => k_is); (case c => k_is); (case k => k_is))
    (case d__law_mixed => refine' SQ.defF KX G ?a ?l ?c ?k (fun _ _ _ _ _ _ us hl => match us, hl with | [_, _], _ => rfl); (case a => k_is); (case l => k_is); (case c => k_is); (case k => k_is))
    (case d__law_row => refine' SQ.defF KX G ?a ?l ?c ?k (fun _ _ _ _ _ _ us hl => match us, hl with | [_, _, _], _ => rfl); (case a => k_is); (case l => k_is); (case c => k_is); (case k => k_is))
    (case d__law_greatest => refine' SQ.defF KX G ?a ?l ?c ?k (fun _ _ _ _ _ _ us hl => match us, hl with | [_], _ => rfl); (case a => k_is); (case l => k_is); (case c => k_is); (case k => k_is))
    (case d__law_is_possible => refine' SQ.defF KX G ?a ?l ?c ?k (fun _ _ _ _ _ _ us hl => match us, hl with | [_], _ => rfl); (case a => k_is); (case l => k_is); (case c => k_is); (case k => k_is))
    (case d__law_below => refine' SQ.defF KX G ?a ?l ?c ?k (fun _ _ _ _ _ _ us hl => match us, hl with | [_], _ => rfl); (case a => k_is); (case l => k_is); (case c => k_is); (case k => k_is))
    (case d__law_fewest => refine' SQ.defF KX G ?a ?l ?c ?k (fun _ _ _ _ _ _ us hl => match us, hl with | [_], _ => rfl); (case a => k_is); (case l => k_is); (case c => k_is); (case k => k_is))
    (case d__law_taken => refine' SQ.defF KX G ?a ?l ?c ?k (fun _ _ _ _ _ _ us hl => match us, hl with | [_, _], _ => rfl); (case a => k_is); (case l => k_is); (case c => k_is); (case k => k_is))
    (case d__law_small_right => refine' SQ.defF KX G ?a ?l ?c ?k (fun _ _ _ _ _ _ us hl => match us, hl with | [_], _ => rfl); (case a => k_is); (case l => k_is); (case c => k_is); (case k => k_is))
    (case d__law_pick => refine' SQ.defF KX G ?a ?l ?c ?k (fun _ _ _ _ _ _ us hl => match us, hl with | [_, _], _ => rfl); (case a => k_is); (case l => k_is); (case c => k_is); (case k => k_is))
    (case d__law_long_right => refine' SQ.defF KX G ?a ?l ?c ?k (fun _ _ _ _ _ _ us hl => match us, hl with | [_], _ => rfl); (case a => k_is); (case l => k_is); (case c => k_is); (case k => k_is))
    (case d_law => refine' SQ.defC KX G ?a ?l ?c ?k (fun _ _ _ _ _ _ us hl => match us, hl with | [_], _ => rfl); (case a => k_is); (case l => k_is); (case c => k_is); (case k => k_is))
