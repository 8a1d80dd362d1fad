import PyProof.Rows.All
import Wide.All
import OpenK.AllK
import Wide.FinOn
import HandS.ForMost
import HandS.Exc
import HandS.Wide
import HandS.Lambda
import HandS.Zip
import HandS.TupAny
import HandS.TupMul
import HandS.IsInst
import HandS.Conv
import HandS.Codes
import KE.KTupSum
import HandS.SortInts
import HandS.SortKw
import HandS.Style
import HandS.TryMany
import HandS.WordsExc
import KE.KExcInit
import HandS.ForSpec
import HandS.TupLe
import HandS.EndTab
import KE.KNestM
import KE.KExcLine
import KE.RegKTryMore
import KE.GoesMore
import KE.GoesEnum
import HandS.WideBits
import KE.KRevSl
import HandS.SortRule
import HandS.Defaults
import HandS.MakeKwOnly
import HandS.Flt
import KE.GoesZip
import HandS.TryOnly
import HandS.Deep
import HandS.List
import HandS.Star
import HandS.Property
import OpenK.KMeth
import KE.KDictZip
import HandS.SetFor
import HandS.ClsMeth
import PySem.Challenge.RW_sumsalone_k24_errors_of_tables_by_sums
set_option Elab.async false
set_option linter.all false
set_option maxRecDepth 100000
set_option maxHeartbeats 4000000
namespace SQ
open PySem PySem.Spec PyProof.Rows L2

/-- data as a tree -/
inductive D where
  | non | bl (b : Bool) | int (i : Int) | str (x : Str)
  | tup (xs : List D) | lst (xs : List D)
  | dk (ks : List Key) (ds : List D)
  | cell (a : Addr)
  | scr (ns : List Int)
  | ty (n : String)
  | ins (C : Addr) (ns : List Str) (ds : List D)

mutual
def Rep (K : PySem.W.Frag) (S : Addr → Prop) (H : Hp) : D → V → Prop
  | .non, v => v = .non
  | .bl b, v => v = .bl b
  | .int i, v => v = .int i
  | .str x, v => v = .str x
  | .tup xs, v => ∃ a vs, v = .ref a ∧ SqT K H a vs ∧ Reps K S H xs vs
  | .lst xs, v => ∃ a vs, v = .ref a ∧ ¬ S a ∧ H a = some (.lst vs) ∧ Reps K S H xs vs
  | .dk ks ds, v => ∃ a kws, v = .ref a ∧ ¬ S a ∧ H a = some (.dK kws) ∧ kws.map (·.1) = ks ∧ Reps K S H ds (kws.map (·.2))
  | .cell a, v => v = .ref a
  | .ty n, v => v = .ty n
  | .scr ns, v => ∃ a, v = .ref a ∧ ((¬ S a ∧ Rd H a (.lst (ns.map V.int))) ∨ SqL K (fun _ => none) a (ns.map V.int))
  | .ins C ns ds, v => ∃ a dx fs, v = .ref a ∧ ¬ S a ∧ H a = some (.ins C dx fs) ∧ fs.map (·.1) = ns ∧ Reps K S H ds (fs.map (·.2))
def Reps (K : PySem.W.Frag) (S : Addr → Prop) (H : Hp) : List D → List V → Prop
  | [], vs => vs = []
  | d :: ds, vs => ∃ v ws, vs = v :: ws ∧ Rep K S H d v ∧ Reps K S H ds ws
end

/-- what may change in its place -/
def Mt : HO → Prop
  | .lst _ => True
  | .dK _ => True
  | .dT _ => True
  | .tbl _ => True
  | .set _ _ => True
  | .ins _ _ _ => True
  | .own _ => True
  | _ => False
def Live (S : Addr → Prop) (H : Hp) : Prop := ∀ a, S a → ∃ o, H a = some o ∧ Mt o
/-- all but S (and tables) stays -/
def Rel (S : Addr → Prop) (H H' : Hp) : Prop := ∀ a o, ¬ S a → H a = some o → (∀ ps, o ≠ .tbl ps) → H' a = some o
/-- all stays -/
def Ext (H H' : Hp) : Prop := ∀ a o, H a = some o → H' a = some o
theorem Ext.refl (H : Hp) : Ext H H := fun _ _ h => h
theorem Ext.trans {H H1 H2 : Hp} (a : Ext H H1) (b : Ext H1 H2) : Ext H H2 := fun x o h => b x o (a x o h)
theorem Ext.new {H : Hp} {p : Addr} {o : HO} (h : H p = none) : Ext H (upd H p o) := fun a u e => by
  rw [upd_ne (ne_of_none e h)]; exact e
theorem Ext.rel {S : Addr → Prop} {H H' : Hp} (e : Ext H H') : Rel S H H' := fun a o _ h _ => e a o h
theorem Rel.refl (S : Addr → Prop) (H : Hp) : Rel S H H := fun _ _ _ h _ => h
theorem Rel.trans {S : Addr → Prop} {H H1 H2 : Hp} (a : Rel S H H1) (b : Rel S H1 H2) : Rel S H H2 := fun x o n h t => b x o n (a x o n h t) t
theorem Live.not {S : Addr → Prop} {H : Hp} (l : Live S H) {a : Addr} {o : HO} (h : H a = some o) (n : ¬ Mt o) : ¬ S a := fun z => by
  obtain ⟨u, hu, m⟩ := l a z
  rw [h] at hu; cases hu; exact n m
theorem Live.fresh {S : Addr → Prop} {H : Hp} (l : Live S H) {a : Addr} (h : H a = none) : ¬ S a := fun z => by
  obtain ⟨u, hu, _⟩ := l a z
  rw [h] at hu; cases hu
theorem Live.ext {S : Addr → Prop} {H H' : Hp} (l : Live S H) (e : Ext H H') : Live S H' := fun a z => by
  obtain ⟨u, hu, m⟩ := l a z
  exact ⟨u, e a u hu, m⟩

theorem rd_rel {S : Addr → Prop} {H H' : Hp} {a : Addr} {u : HO} (r : Rel S H H') (n : ¬ S a) (h : Rd H a u) (t : ∀ ps, u ≠ .tbl ps) : Rd H' a u := by
  rcases h with h | ⟨o, h⟩
  · exact .inl (r a _ n h t)
  · exact .inr ⟨o, r a _ n h (fun ps z => nomatch z)⟩
theorem sqt_rel {K : PySem.W.Frag} {S : Addr → Prop} {H H' : Hp} {a : Addr} {xs : List V} (r : Rel S H H') (l : Live S H) (h : SqT K H a xs) : SqT K H' a xs := by
  rcases h with (h | ⟨o, h⟩) | h
  · exact .inl (.inl (r a _ (l.not h (fun z => z)) h (fun ps z => nomatch z)))
  · exact .inl (.inr ⟨o, r a _ (l.not h (fun z => z)) h (fun ps z => nomatch z)⟩)
  · exact .inr h

mutual
theorem Rep.rel2 {K : PySem.W.Frag} {S T : Addr → Prop} {H H' : Hp} (r : Rel S H H') (l : Live S H) (hs : ∀ a, S a → T a) : ∀ (d : D) (v : V), Rep K T H d v → Rep K T H' d v
  | .non, v, h => h
  | .bl b, v, h => h
  | .int i, v, h => h
  | .str x, v, h => h
  | .tup xs, v, h => by
    obtain ⟨a, vs, e, t, q⟩ := h
    exact ⟨a, vs, e, sqt_rel r l t, Reps.rel2 r l hs xs vs q⟩
  | .lst xs, v, h => by
    obtain ⟨a, vs, e, n, t, q⟩ := h
    exact ⟨a, vs, e, n, r a _ (fun z => n (hs a z)) t (fun ps z => nomatch z), Reps.rel2 r l hs xs vs q⟩
  | .dk ks ds, v, h => by
    obtain ⟨a, kws, e, n, t, k, q⟩ := h
    exact ⟨a, kws, e, n, r a _ (fun z => n (hs a z)) t (fun ps z => nomatch z), k, Reps.rel2 r l hs ds _ q⟩
  | .scr ns, v, h => by
    obtain ⟨a, e, h⟩ := h
    rcases h with ⟨n, t⟩ | t
    · exact ⟨a, e, .inl ⟨n, rd_rel r (fun z => n (hs a z)) t (fun ps z => nomatch z)⟩⟩
    · exact ⟨a, e, .inr t⟩
  | .cell a, v, h => h
  | .ty n, v, h => h
  | .ins C ns ds, v, h => by
    obtain ⟨a, dx, fs, e, n, t, k, q⟩ := h
    exact ⟨a, dx, fs, e, n, r a _ (fun z => n (hs a z)) t (fun ps z => nomatch z), k, Reps.rel2 r l hs ds _ q⟩
theorem Reps.rel2 {K : PySem.W.Frag} {S T : Addr → Prop} {H H' : Hp} (r : Rel S H H') (l : Live S H) (hs : ∀ a, S a → T a) : ∀ (ds : List D) (vs : List V), Reps K T H ds vs → Reps K T H' ds vs
  | [], vs, h => h
  | d :: ds, vs, h => by
    obtain ⟨v, ws, e, a, b⟩ := h
    exact ⟨v, ws, e, Rep.rel2 r l hs d v a, Reps.rel2 r l hs ds ws b⟩
end
theorem Rep.rel {K : PySem.W.Frag} {S : Addr → Prop} {H H' : Hp} (r : Rel S H H') (l : Live S H) (d : D) (v : V) (h : Rep K S H d v) : Rep K S H' d v := Rep.rel2 r l (fun _ z => z) d v h
theorem Reps.rel {K : PySem.W.Frag} {S : Addr → Prop} {H H' : Hp} (r : Rel S H H') (l : Live S H) (d : List D) (v : List V) (h : Reps K S H d v) : Reps K S H' d v := Reps.rel2 r l (fun _ z => z) d v h
/-- nothing stands there but a table -/
def Fre (H : Hp) (a : Addr) : Prop := ∀ o, H a = some o → ∃ pt, o = .tbl pt
theorem Fre.of {H : Hp} {a : Addr} (h : H a = none) : Fre H a := fun o e => by rw [h] at e; cases e
theorem Fre.no {H : Hp} {a : Addr} {o : HO} (f : Fre H a) (h : H a = some o) (n : ∀ pt, o ≠ .tbl pt) : False := by
  obtain ⟨pt, e⟩ := f o h
  exact n pt e
/-! more addresses shut out, none of them of an object that stands -/
mutual
theorem Rep.more {K : PySem.W.Frag} {S S' : Addr → Prop} {H : Hp} (m : ∀ a, S' a → S a ∨ Fre H a) : ∀ (d : D) (v : V), Rep K S H d v → Rep K S' H d v
  | .non, v, h => h
  | .bl b, v, h => h
  | .int i, v, h => h
  | .str x, v, h => h
  | .tup xs, v, h => by
    obtain ⟨a, vs, e, t, q⟩ := h
    exact ⟨a, vs, e, t, Reps.more m xs vs q⟩
  | .lst xs, v, h => by
    obtain ⟨a, vs, e, n, t, q⟩ := h
    refine ⟨a, vs, e, fun z => ?_, t, Reps.more m xs vs q⟩
    rcases m a z with z | z
    · exact n z
    · exact z.no t (fun pt q => nomatch q)
  | .dk ks ds, v, h => by
    obtain ⟨a, kws, e, n, t, k, q⟩ := h
    refine ⟨a, kws, e, fun z => ?_, t, k, Reps.more m ds _ q⟩
    rcases m a z with z | z
    · exact n z
    · exact z.no t (fun pt q => nomatch q)
  | .scr ns, v, h => by
    obtain ⟨a, e, h⟩ := h
    rcases h with ⟨n, t⟩ | t
    · refine ⟨a, e, .inl ⟨fun z => ?_, t⟩⟩
      rcases m a z with z | z
      · exact n z
      · rcases t with t | ⟨o, t⟩
        · exact z.no t (fun pt q => nomatch q)
        · exact z.no t (fun pt q => nomatch q)
    · exact ⟨a, e, .inr t⟩
  | .cell a, v, h => h
  | .ty n, v, h => h
  | .ins C ns ds, v, h => by
    obtain ⟨a, dx, fs, e, n, t, k, q⟩ := h
    refine ⟨a, dx, fs, e, fun z => ?_, t, k, Reps.more m ds _ q⟩
    rcases m a z with z | z
    · exact n z
    · exact z.no t (fun pt q => nomatch q)
theorem Reps.more {K : PySem.W.Frag} {S S' : Addr → Prop} {H : Hp} (m : ∀ a, S' a → S a ∨ Fre H a) : ∀ (ds : List D) (vs : List V), Reps K S H ds vs → Reps K S' H ds vs
  | [], vs, h => h
  | d :: ds, vs, h => by
    obtain ⟨v, ws, e, a, b⟩ := h
    exact ⟨v, ws, e, Rep.more m d v a, Reps.more m ds ws b⟩
end
mutual
theorem Rep.ex {K : PySem.W.Frag} {S : Addr → Prop} {H H' : Hp} (r : Ext H H') : ∀ (d : D) (v : V), Rep K S H d v → Rep K S H' d v
  | .non, v, h => h
  | .bl b, v, h => h
  | .int i, v, h => h
  | .str x, v, h => h
  | .tup xs, v, h => by
    obtain ⟨a, vs, e, t, q⟩ := h
    refine ⟨a, vs, e, ?_, Reps.ex r xs vs q⟩
    rcases t with (t | ⟨o, t⟩) | t
    · exact .inl (.inl (r a _ t))
    · exact .inl (.inr ⟨o, r a _ t⟩)
    · exact .inr t
  | .lst xs, v, h => by
    obtain ⟨a, vs, e, n, t, q⟩ := h
    exact ⟨a, vs, e, n, r a _ t, Reps.ex r xs vs q⟩
  | .dk ks ds, v, h => by
    obtain ⟨a, kws, e, n, t, k, q⟩ := h
    exact ⟨a, kws, e, n, r a _ t, k, Reps.ex r ds _ q⟩
  | .cell a, v, h => h
  | .ty n, v, h => h
  | .scr ns, v, h => by
    obtain ⟨a, e, h⟩ := h
    rcases h with ⟨n, t⟩ | t
    · refine ⟨a, e, .inl ⟨n, ?_⟩⟩
      rcases t with t | ⟨o, t⟩
      · exact .inl (r a _ t)
      · exact .inr ⟨o, r a _ t⟩
    · exact ⟨a, e, .inr t⟩
  | .ins C ns ds, v, h => by
    obtain ⟨a, dx, fs, e, n, t, k, q⟩ := h
    exact ⟨a, dx, fs, e, n, r a _ t, k, Reps.ex r ds _ q⟩
theorem Reps.ex {K : PySem.W.Frag} {S : Addr → Prop} {H H' : Hp} (r : Ext H H') : ∀ (ds : List D) (vs : List V), Reps K S H ds vs → Reps K S H' ds vs
  | [], vs, h => h
  | d :: ds, vs, h => by
    obtain ⟨v, ws, e, a, b⟩ := h
    exact ⟨v, ws, e, Rep.ex r d v a, Reps.ex r ds ws b⟩
end
section
variable {K : PySem.W.Frag} {S S' : Addr → Prop} {H H' : Hp}
theorem Rep.less {d : D} {v : V} (h : Rep K S H d v) (m : ∀ a, S' a → S a) : Rep K S' H d v := Rep.more (fun a z => .inl (m a z)) d v h
theorem Reps.less {ds : List D} {vs : List V} (h : Reps K S H ds vs) (m : ∀ a, S' a → S a) : Reps K S' H ds vs := Reps.more (fun a z => .inl (m a z)) ds vs h
theorem Rep.ext {d : D} {v : V} (h : Rep K S H d v) (e : Ext H H') : Rep K S H' d v := Rep.ex e d v h
theorem Reps.ext {ds : List D} {vs : List V} (h : Reps K S H ds vs) (e : Ext H H') : Reps K S H' ds vs := Reps.ex e ds vs h
theorem Reps.length : ∀ {ds : List D} {vs : List V}, Reps K S H ds vs → ds.length = vs.length
  | [], vs, h => by have q : vs = [] := h; subst q; rfl
  | d :: ds, vs, h => by
    obtain ⟨v, ws, e, _, b⟩ := h
    rw [e, List.length_cons, List.length_cons, Reps.length b]
theorem Reps.nil : Reps K S H [] [] := rfl
theorem Reps.cons {d : D} {v : V} {ds : List D} {vs : List V} (h : Rep K S H d v) (t : Reps K S H ds vs) : Reps K S H (d :: ds) (v :: vs) := ⟨v, vs, rfl, h, t⟩
theorem Reps.app : ∀ {ds es : List D} {vs ws : List V}, Reps K S H ds vs → Reps K S H es ws → Reps K S H (ds ++ es) (vs ++ ws)
  | [], es, vs, ws, h, t => by have e : vs = [] := h; rw [e]; exact t
  | d :: ds, es, vs, ws, h, t => by
    obtain ⟨v, us, e, a, b⟩ := h
    rw [e]
    exact ⟨v, us ++ ws, rfl, a, Reps.app b t⟩
theorem Reps.get : ∀ {ds : List D} {vs : List V} {i : Nat} {d : D}, Reps K S H ds vs → ds[i]? = some d → ∃ v, vs[i]? = some v ∧ Rep K S H d v
  | [], vs, i, d, h, e => by simp at e
  | d' :: ds, vs, 0, d, h, e => by
    obtain ⟨v, us, q, a, b⟩ := h
    simp at e; subst e
    exact ⟨v, by rw [q]; rfl, a⟩
  | d' :: ds, vs, i + 1, d, h, e => by
    obtain ⟨v, us, q, a, b⟩ := h
    obtain ⟨w, h1, h2⟩ := Reps.get (i := i) (d := d) b (by simpa using e)
    exact ⟨w, by rw [q]; simpa using h1, h2⟩
theorem Reps.getV : ∀ {ds : List D} {vs : List V} {i : Nat} {v : V}, Reps K S H ds vs → vs[i]? = some v → ∃ d, ds[i]? = some d ∧ Rep K S H d v
  | [], vs, i, v, h, e => by have q : vs = [] := h; subst q; simp at e
  | d' :: ds, vs, 0, v, h, e => by
    obtain ⟨w, us, q, a, b⟩ := h
    rw [q] at e; simp at e; subst e
    exact ⟨d', rfl, a⟩
  | d' :: ds, vs, i + 1, v, h, e => by
    obtain ⟨w, us, q, a, b⟩ := h
    rw [q] at e
    obtain ⟨d, h1, h2⟩ := Reps.getV (i := i) (v := v) b (by simpa using e)
    exact ⟨d, by simpa using h1, h2⟩
theorem Reps.ints : ∀ {ns : List Int} {vs : List V}, Reps K S H (ns.map D.int) vs ↔ vs = ns.map V.int
  | [], vs => Iff.rfl
  | n :: ns, vs => by
    constructor
    · rintro ⟨v, us, e, a, b⟩
      have a' : v = .int n := a
      rw [e, a', Reps.ints.mp b]; rfl
    · rintro e
      exact ⟨.int n, ns.map V.int, e, rfl, Reps.ints.mpr rfl⟩
theorem Reps.drop : ∀ {ds : List D} {vs : List V} (n : Nat), Reps K S H ds vs → Reps K S H (ds.drop n) (vs.drop n)
  | ds, vs, 0, h => h
  | [], vs, n + 1, h => by have q : vs = [] := h; subst q; exact rfl
  | d :: ds, vs, n + 1, h => by
    obtain ⟨w, us, q, a, b⟩ := h
    subst q
    exact Reps.drop n b
theorem Reps.take : ∀ {ds : List D} {vs : List V} (n : Nat), Reps K S H ds vs → Reps K S H (ds.take n) (vs.take n)
  | ds, vs, 0, h => rfl
  | [], vs, n + 1, h => by have q : vs = [] := h; subst q; exact rfl
  | d :: ds, vs, n + 1, h => by
    obtain ⟨w, us, q, a, b⟩ := h
    subst q
    exact ⟨w, us.take n, rfl, a, Reps.take n b⟩
theorem Reps.set : ∀ {ds : List D} {vs : List V} (n : Nat) {d : D} {v : V}, Reps K S H ds vs → Rep K S H d v → Reps K S H (ds.set n d) (vs.set n v)
  | [], vs, n, d, v, h, q => by have z : vs = [] := h; subst z; exact rfl
  | d' :: ds, vs, 0, d, v, h, q => by
    obtain ⟨w, us, z, a, b⟩ := h
    subst z
    exact ⟨v, us, rfl, q, b⟩
  | d' :: ds, vs, n + 1, d, v, h, q => by
    obtain ⟨w, us, z, a, b⟩ := h
    subst z
    exact ⟨w, us.set n v, rfl, a, Reps.set n b q⟩
theorem Reps.one {d : D} {v : V} (h : Rep K S H d v) : Reps K S H [d] [v] := .cons h .nil
end
end SQ
namespace SQ
open PySem PySem.Spec PyProof.Rows L2

/-! ### a def's body: slots, temporaries, what is owned -/
inductive Sl where
  | un | val (d : D) | own (xs : List D)
abbrev Ps := List (Sl × Option V)
/-- an exception, as a tree -/
structure Exc where
  cls : Addr
  ns : List Str
  ds : List D
def RepX (K : PySem.W.Frag) (S : Addr → Prop) (H : Hp) (x : Exc) (cls : Value) (d : Option Addr) : Prop :=
  cls = .ref x.cls ∧ (x.ns = [] ∨ ∃ dd fs, d = some dd ∧ H dd = some (.xd fs) ∧ fs.map (·.1) = x.ns ∧ Reps K S H x.ds (fs.map (·.2)))
/-- what a body stands in: addresses that may change, what holds of them; the wish of exceptions -/
structure Cxt where
  S : Addr → Prop
  W : Hp → Prop
  E : XK
  X : Exc → Prop
/-- what the library tells by its own words (code objects) stays -/
def Exo (H H' : Hp) : Prop := ∀ a φ, H a = some (.ext φ) → H' a = some (.ext φ)
structure Cxt.Ok (Γ : Cxt) : Prop where
  al : ∀ H, Γ.W H → Live Γ.S H
  st : ∀ H H', Γ.W H → (∀ a, Γ.S a → H' a = H a) → Exo H H' → Γ.W H'
def owned : Ps → List Addr
  | [] => []
  | (.own _, some (.ref a)) :: r => a :: owned r
  | _ :: r => owned r
def slot (K : PySem.W.Frag) (S : Addr → Prop) (H : Hp) : Sl → Option V → Prop
  | .un, _ => True
  | .val d, o => ∃ v, o = some v ∧ Rep K S H d v
  | .own xs, o => ∃ a vs, o = some (.ref a) ∧ H a = some (.lst vs) ∧ Reps K S H xs vs
/-- shut out: what the context may change, and what is owned -/
def Out (Γ : Cxt) (ps : Ps) : Addr → Prop := fun a => Γ.S a ∨ a ∈ owned ps
structure Env (K : PySem.W.Frag) (Γ : Cxt) (H0 H : Hp) (ps : Ps) : Prop where
  ok : Γ.Ok
  w : Γ.W H
  rel : Rel Γ.S H0 H
  nd : (owned ps).Nodup
  fr : ∀ a ∈ owned ps, ¬ Γ.S a ∧ ∀ o, H0 a = some o → ∃ pt, o = .tbl pt
  sl : ∀ p ∈ ps, slot K (Out Γ ps) H p.1 p.2
  thr : ∀ x cls d H', Rel Γ.S H0 H' → Γ.W H' → RepX K Γ.S H' x cls d → Γ.X x → Γ.E cls d H'

theorem owned_val {d : D} {o : Option V} {r : Ps} : owned ((.val d, o) :: r) = owned r := rfl
theorem owned_app : ∀ {p q : Ps}, owned (p ++ q) = owned p ++ owned q
  | [], q => rfl
  | (.un, o) :: r, q => owned_app (p := r)
  | (.val d, o) :: r, q => owned_app (p := r)
  | (.own xs, none) :: r, q => owned_app (p := r)
  | (.own xs, some (.ref a)) :: r, q => congrArg (a :: ·) (owned_app (p := r) (q := q))
  | (.own xs, some .non) :: r, q => owned_app (p := r)
  | (.own xs, some (.bl _)) :: r, q => owned_app (p := r)
  | (.own xs, some (.int _)) :: r, q => owned_app (p := r)
  | (.own xs, some (.str _)) :: r, q => owned_app (p := r)
  | (.own xs, some (.byt _)) :: r, q => owned_app (p := r)
  | (.own xs, some (.flt _)) :: r, q => owned_app (p := r)
  | (.own xs, some (.ty _)) :: r, q => owned_app (p := r)
theorem owned_perm {p q : Ps} (h : p.Perm q) : (owned p).Perm (owned q) := by
  induction h with
  | nil => exact List.Perm.refl _
  | @cons x l1 l2 _ ih =>
    have e1 : owned (x :: l1) = owned [x] ++ owned l1 := by rw [← owned_app]; rfl
    have e2 : owned (x :: l2) = owned [x] ++ owned l2 := by rw [← owned_app]; rfl
    rw [e1, e2]
    exact List.Perm.append_left _ ih
  | swap x y l =>
    have e1 : owned (y :: x :: l) = owned [y] ++ (owned [x] ++ owned l) := by
      rw [← owned_app, ← owned_app]; rfl
    have e2 : owned (x :: y :: l) = owned [x] ++ (owned [y] ++ owned l) := by
      rw [← owned_app, ← owned_app]; rfl
    rw [e1, e2, ← List.append_assoc, ← List.append_assoc]
    exact List.Perm.append_right _ List.perm_append_comm
  | trans _ _ a b => exact a.trans b

section
variable {K : PySem.W.Frag} {Γ : Cxt} {H0 H H' : Hp} {ps qs : Ps} {a : Addr} {d : D} {v : V} {xs : List D} {vs : List V} {p : Sl × Option V}
theorem slot.mono {S S' : Addr → Prop} (f : ∀ d v, Rep K S H d v → Rep K S' H' d v) (g : ∀ ds vs, Reps K S H ds vs → Reps K S' H' ds vs)
    (k : ∀ xs, p.1 = .own xs → ∀ a vs, p.2 = some (.ref a) → H a = some (.lst vs) → H' a = some (.lst vs)) (h : slot K S H p.1 p.2) : slot K S' H' p.1 p.2 := by
  obtain ⟨s, o⟩ := p
  cases s with
  | un => trivial
  | val d =>
    obtain ⟨v, e, r⟩ := h
    exact ⟨v, e, f d v r⟩
  | own xs =>
    obtain ⟨a, vs, e, t, r⟩ := h
    exact ⟨a, vs, e, k xs rfl a vs e t, g xs vs r⟩
theorem mem_owned {xs : List D} (h : (Sl.own xs, some (V.ref a)) ∈ ps) : a ∈ owned ps := by
  induction ps with
  | nil => cases h
  | cons q r ih =>
    rw [← List.singleton_append, owned_app]
    rcases List.mem_cons.mp h with h | h
    · rw [← h]; exact List.mem_append_left _ (by simp [owned])
    · exact List.mem_append_right _ (ih h)
theorem of_owned (h : a ∈ owned ps) : ∃ xs, (Sl.own xs, some (V.ref a)) ∈ ps := by
  induction ps with
  | nil => cases h
  | cons q r ih =>
    rw [← List.singleton_append, owned_app] at h
    rcases List.mem_append.mp h with h | h
    · obtain ⟨s, o⟩ := q
      cases s with
      | un => cases h
      | val d => cases h
      | own xs =>
        cases o with
        | none => cases h
        | some v =>
          cases v with
          | ref b =>
            have e : a = b := by simpa [owned] using h
            exact ⟨xs, by rw [e]; exact List.mem_cons_self⟩
          | _ => cases h
    · obtain ⟨xs, m⟩ := ih h
      exact ⟨xs, List.mem_cons_of_mem _ m⟩
theorem Env.live (I : Env K Γ H0 H ps) : Live (Out Γ ps) H := fun a z => by
  rcases z with z | z
  · exact I.ok.al H I.w a z
  · obtain ⟨xs, m⟩ := of_owned z
    obtain ⟨b, vs, e, t, _⟩ := I.sl _ m
    cases e
    exact ⟨_, t, trivial⟩
theorem Env.perm (I : Env K Γ H0 H ps) (h : ps.Perm qs) : Env K Γ H0 H qs where
  ok := I.ok
  w := I.w
  rel := I.rel
  nd := (owned_perm h).nodup_iff.mp I.nd
  fr := fun a m => I.fr a ((owned_perm h).mem_iff.mpr m)
  sl := fun p m => slot.mono (fun d v r => r.less fun a z => z.imp id (fun z => (owned_perm h).mem_iff.mpr z)) (fun d v r => r.less fun a z => z.imp id (fun z => (owned_perm h).mem_iff.mpr z)) (fun _ _ _ _ _ e => e) (I.sl p (h.mem_iff.mpr m))
  thr := I.thr
theorem Env.drop (I : Env K Γ H0 H (p :: ps)) : Env K Γ H0 H ps where
  ok := I.ok
  w := I.w
  rel := I.rel
  nd := by
    have := I.nd
    rw [← List.singleton_append, owned_app] at this
    exact (List.nodup_append.mp this).2.1
  fr := fun a m => I.fr a (by rw [← List.singleton_append, owned_app]; exact List.mem_append_right _ m)
  sl := fun q m => by
    have k : ∀ a, Out Γ ps a → Out Γ (p :: ps) a := fun a z => z.imp id fun z => by
      rw [← List.singleton_append, owned_app]; exact List.mem_append_right _ z
    exact slot.mono (fun d v r => r.less k) (fun d v r => r.less k) (fun _ _ _ _ _ e => e) (I.sl q (List.mem_cons_of_mem _ m))
  thr := I.thr
theorem Env.dropL : ∀ {qs : Ps}, Env K Γ H0 H (qs ++ ps) → Env K Γ H0 H ps
  | [], I => I
  | _ :: _, I => Env.dropL (Env.drop I)
theorem Env.push (I : Env K Γ H0 H ps) (r : Rep K (Out Γ ps) H d v) : Env K Γ H0 H ((.val d, some v) :: ps) where
  ok := I.ok
  w := I.w
  rel := I.rel
  nd := I.nd
  fr := I.fr
  sl := fun q m => by
    rcases List.mem_cons.mp m with m | m
    · subst m; exact ⟨v, rfl, r⟩
    · exact I.sl q m
  thr := I.thr
theorem Env.pushU (I : Env K Γ H0 H ps) (o : Option V) : Env K Γ H0 H ((.un, o) :: ps) where
  ok := I.ok
  w := I.w
  rel := I.rel
  nd := I.nd
  fr := I.fr
  sl := fun q m => by
    rcases List.mem_cons.mp m with m | m
    · subst m; trivial
    · exact I.sl q m
  thr := I.thr
theorem Env.val (I : Env K Γ H0 H ps) (m : (Sl.val d, some v) ∈ ps) : Rep K (Out Γ ps) H d v := by
  obtain ⟨w, e, r⟩ := I.sl _ m
  cases e; exact r
theorem Env.own (I : Env K Γ H0 H ps) (m : (Sl.own xs, some (V.ref a)) ∈ ps) : ∃ vs, H a = some (.lst vs) ∧ Reps K (Out Γ ps) H xs vs := by
  obtain ⟨b, vs, e, t, r⟩ := I.sl _ m
  cases e; exact ⟨vs, t, r⟩
/-- new objects -/
theorem Env.ext (I : Env K Γ H0 H ps) (e : Ext H H') : Env K Γ H0 H' ps where
  ok := I.ok
  w := I.ok.st H H' I.w (fun a z => by
    obtain ⟨o, ho, _⟩ := I.ok.al H I.w a z
    rw [ho]; exact e a o ho) fun a φ h => e a _ h
  rel := I.rel.trans e.rel
  nd := I.nd
  fr := I.fr
  sl := fun q m => slot.mono (fun d v r => r.ext e) (fun d v r => r.ext e) (fun _ _ _ _ _ t => e _ _ t) (I.sl q m)
  thr := I.thr
/-- a new list becomes owned -/
theorem Env.pushO (I : Env K Γ H0 H ps) (hn : H a = none) (r : Reps K (Out Γ ps) H xs vs) : Env K Γ H0 (upd H a (.lst vs)) ((.own xs, some (.ref a)) :: ps) := by
  have ex : Ext H (upd H a (.lst vs)) := Ext.new hn
  have I1 := I.ext ex
  have hS : ¬ Γ.S a := (I.ok.al H I.w).fresh hn
  have hO : a ∉ owned ps := fun z => by
    obtain ⟨o, ho, _⟩ := I.live a (.inr z)
    rw [hn] at ho; cases ho
  have h0 : ∀ o, H0 a = some o → ∃ pt, o = HO.tbl pt := fun o e => by
    refine Classical.byContradiction fun ht => ?_
    have := I.rel a o hS e (fun ps z => ht ⟨ps, z⟩)
    rw [hn] at this; cases this
  have m : ∀ b, Out Γ ((.own xs, some (.ref a)) :: ps) b → Out Γ ps b ∨ Fre H b := fun b z => by
    rcases z with z | z
    · exact .inl (.inl z)
    · rcases List.mem_cons.mp z with z | z
      · subst z; exact .inr (Fre.of hn)
      · exact .inl (.inr z)
  have up : ∀ d v, Rep K (Out Γ ps) H d v → Rep K (Out Γ ((.own xs, some (.ref a)) :: ps)) (upd H a (.lst vs)) d v := fun d v r => (Rep.more m d v r).ext ex
  have ups : ∀ d v, Reps K (Out Γ ps) H d v → Reps K (Out Γ ((.own xs, some (.ref a)) :: ps)) (upd H a (.lst vs)) d v := fun d v r => (Reps.more m d v r).ext ex
  refine ⟨I1.ok, I1.w, I1.rel, List.nodup_cons.mpr ⟨hO, I.nd⟩, fun b z => ?_, fun q z => ?_, I1.thr⟩
  · rcases List.mem_cons.mp z with z | z
    · subst z; exact ⟨hS, h0⟩
    · exact I.fr b z
  · rcases List.mem_cons.mp z with z | z
    · subst z; exact ⟨a, vs, rfl, upd_same, ups _ _ r⟩
    · exact slot.mono up ups (fun _ _ _ _ _ t => ex _ _ t) (I.sl q z)
/-- what is owned is written -/
theorem Env.write {ys : List D} {ws : List V} (I : Env K Γ H0 H ((.own xs, some (.ref a)) :: ps)) (r : Reps K (Out Γ ((.own xs, some (.ref a)) :: ps)) H ys ws) : Env K Γ H0 (upd H a (.lst ws)) ((.own ys, some (.ref a)) :: ps) := by
  have hf := I.fr a List.mem_cons_self
  have ha : a ∉ owned ps := (List.nodup_cons.mp I.nd).1
  have rl : Rel (Out Γ ((.own xs, some (.ref a)) :: ps)) H (upd H a (.lst ws)) := fun b o n e _ => by
    rw [upd_ne (fun z => n (by rw [z]; exact .inr List.mem_cons_self))]; exact e
  have up : ∀ d v, Rep K (Out Γ ((.own xs, some (.ref a)) :: ps)) H d v → Rep K (Out Γ ((.own ys, some (.ref a)) :: ps)) (upd H a (.lst ws)) d v := fun d v r => Rep.rel rl I.live d v r
  have ups : ∀ d v, Reps K (Out Γ ((.own xs, some (.ref a)) :: ps)) H d v → Reps K (Out Γ ((.own ys, some (.ref a)) :: ps)) (upd H a (.lst ws)) d v := fun d v r => Reps.rel rl I.live d v r
  refine ⟨I.ok, I.ok.st H _ I.w (fun b z => upd_ne (fun e => hf.1 (e ▸ z))) (fun b φ h => by
    obtain ⟨vs0, hv0, _⟩ := I.own (a := a) List.mem_cons_self
    rw [upd_ne (fun z => by rw [z, hv0] at h; cases h)]; exact h), fun b o n e t => ?_, I.nd, fun b z => I.fr b z, fun q z => ?_, I.thr⟩
  · by_cases hb : b = a
    · subst hb
      obtain ⟨pt, hp⟩ := hf.2 o e
      exact absurd hp (t pt)
    · rw [upd_ne hb]; exact I.rel b o n e t
  · rcases List.mem_cons.mp z with z | z
    · subst z; exact ⟨a, ws, rfl, upd_same, ups _ _ r⟩
    · refine slot.mono up ups (fun xs' e1 b vs e2 e3 => ?_) (I.sl q (List.mem_cons_of_mem _ z))
      have hb : b ≠ a := fun e => ha (by
        obtain ⟨s, o⟩ := q
        have e1' : s = .own xs' := e1
        have e2' : o = some (.ref b) := e2
        subst e1' e2'
        exact e ▸ mem_owned z)
      rw [upd_ne hb]; exact e3
/-- a list that is owned is given up: it never changes from now on -/
theorem Env.freeze (I : Env K Γ H0 H ((.own xs, some (.ref a)) :: ps)) : Env K Γ H0 H ((.val (.lst xs), some (.ref a)) :: ps) := by
  obtain ⟨vs, h, r⟩ := I.own List.mem_cons_self
  have ha : a ∉ owned ps := (List.nodup_cons.mp I.nd).1
  refine I.drop.push (d := .lst xs) ⟨a, vs, rfl, fun z => ?_, h, r.less fun b z => z.imp id (List.mem_cons_of_mem _)⟩
  rcases z with z | z
  · exact (I.fr a List.mem_cons_self).1 z
  · exact ha z
/-- the context of a callee: what is owned may not be changed by it -/
def Cxt.sub (Γ : Cxt) (ps : Ps) (H : Hp) : Cxt := ⟨Out Γ ps, fun H' => Γ.W H' ∧ ∀ a ∈ owned ps, H' a = H a, fun _ _ _ => False, fun _ => False⟩
theorem Env.subOk (I : Env K Γ H0 H ps) : (Γ.sub ps H).Ok where
  al := fun H' w a z => by
    rcases z with z | z
    · exact I.ok.al H' w.1 a z
    · obtain ⟨xs, m⟩ := of_owned z
      obtain ⟨b, vs, e, t, _⟩ := I.sl _ m
      cases e
      exact ⟨.lst vs, by rw [w.2 a z]; exact t, trivial⟩
  st := fun H1 H2 w h x => ⟨I.ok.st H1 H2 w.1 (fun a z => h a (.inl z)) x, fun a z => (h a (.inr z)).trans (w.2 a z)⟩
theorem Env.subW (I : Env K Γ H0 H ps) : (Γ.sub ps H).W H := ⟨I.w, fun _ _ => rfl⟩
/-- behind a callee -/
theorem Env.back (I : Env K Γ H0 H ps) (r : Rel (Γ.sub ps H).S H H') (w : (Γ.sub ps H).W H') : Env K Γ H0 H' ps where
  ok := I.ok
  w := w.1
  rel := fun a o n e t => by
    have h := I.rel a o n e t
    refine r a o (fun z => ?_) h t
    rcases z with z | z
    · exact n z
    · obtain ⟨pt, hp⟩ := (I.fr a z).2 o e
      exact t pt hp
  nd := I.nd
  fr := I.fr
  sl := fun q m => slot.mono (fun d v x => Rep.rel r I.live d v x) (fun d v x => Reps.rel r I.live d v x) (fun xs e1 b vs e2 e3 => by
    obtain ⟨s, o⟩ := q
    have e1' : s = .own xs := e1
    have e2' : o = some (.ref b) := e2
    subst e1' e2'
    rw [w.2 b (mem_owned m)]; exact e3) (I.sl q m)
  thr := I.thr
end
end SQ
namespace SQ
open PySem PySem.Spec PyProof.Rows L2

/-! ### readings over trees -/
section
variable (K : PySem.W.Frag) (Γ : Cxt)
def wpE (te : TE) (ss : List Sl) (C : D → Prop) : Prop := ∀ H0 σ H τ, σ.length = ss.length → Env K Γ H0 H (ss.zip σ ++ τ) →
  ∀ Q : VK, (∀ v d H2, Env K Γ H0 H2 ((.val d, some v) :: (ss.zip σ ++ τ)) → C d → Q v H2) → te σ H Q
/-- .. a new list -/
def wpO (te : TE) (ss : List Sl) (C : List D → Prop) : Prop := ∀ H0 σ H τ, σ.length = ss.length → Env K Γ H0 H (ss.zip σ ++ τ) →
  ∀ Q : VK, (∀ a xs H2, Env K Γ H0 H2 ((.own xs, some (.ref a)) :: (ss.zip σ ++ τ)) → C xs → Q (.ref a) H2) → te σ H Q
def wpT (tt : TT) (ss : List Sl) (C : Bool → Prop) : Prop := ∀ H0 σ H τ, σ.length = ss.length → Env K Γ H0 H (ss.zip σ ++ τ) →
  ∀ Q : Bool → Hp → Prop, (∀ b H2, Env K Γ H0 H2 (ss.zip σ ++ τ) → C b → Q b H2) → tt σ H Q
/-- values on the pile -/
def pile (ds : List D) (vs : List V) : Ps := (ds.map Sl.val).zip (vs.map some)
def wpA (ta : TA) (ss : List Sl) (C : List D → Prop) : Prop := ∀ H0 σ H τ, σ.length = ss.length → Env K Γ H0 H (ss.zip σ ++ τ) →
  ∀ Q : List V → Hp → Prop, (∀ vs ds H2, ds.length = vs.length → Env K Γ H0 H2 (pile ds vs ++ (ss.zip σ ++ τ)) → C ds → Q vs H2) → ta σ H Q
structure En where
  nx : List Sl → Prop
  rt : Sl → Prop
  bk : List Sl → Prop := fun _ => False
  ct : List Sl → Prop := fun _ => False
/-- a value is handed back -/
def rtV (C : D → Prop) : Sl → Prop
  | .val d => C d
  | _ => False
/-- a new list is handed back -/
def rtO (C : List D → Prop) : Sl → Prop
  | .own xs => C xs
  | _ => False
structure EnOk (H0 : Hp) (τ : Ps) (e : En) (D : Ends) : Prop where
  nx : ∀ ss σ H, σ.length = ss.length → Env K Γ H0 H (ss.zip σ ++ τ) → e.nx ss → D.nx σ H
  rt : ∀ v s H, Env K Γ H0 H ((s, some v) :: τ) → e.rt s → D.rt v H
  bk : ∀ ss σ H, σ.length = ss.length → Env K Γ H0 H (ss.zip σ ++ τ) → e.bk ss → D.bk σ H
  ct : ∀ ss σ H, σ.length = ss.length → Env K Γ H0 H (ss.zip σ ++ τ) → e.ct ss → D.ct σ H
def wpS (ts : TS) (ss : List Sl) (e : En) : Prop := ∀ H0 σ H τ D, σ.length = ss.length → Env K Γ H0 H (ss.zip σ ++ τ) → EnOk K Γ H0 τ e D → ts D σ H
end

/-- operations on values -/
def wpR (K : PySem.W.Frag) (r : R2) (x y : D) (C : D → Prop) : Prop := ∀ S H v w, Live S H → Rep K S H x v → Rep K S H y w →
  ∀ Q : VK, (∀ z d H2, Ext H H2 → Rep K S H2 d z → C d → Q z H2) → r v w H Q
def wpRO (K : PySem.W.Frag) (r : R2) (x y : D) (C : List D → Prop) : Prop := ∀ S H v w, Live S H → Rep K S H x v → Rep K S H y w →
  ∀ Q : VK, (∀ p xs vs, H p = none → Reps K S H xs vs → C xs → Q (.ref p) (upd H p (.lst vs))) → r v w H Q
def wpU (K : PySem.W.Frag) (r : V → Hp → VK → Prop) (x : D) (C : D → Prop) : Prop := ∀ S H v, Live S H → Rep K S H x v →
  ∀ Q : VK, (∀ z d H2, Ext H H2 → Rep K S H2 d z → C d → Q z H2) → r v H Q
def wpB (K : PySem.W.Frag) (r : List V → Hp → VK → Prop) (xs : List D) (C : D → Prop) : Prop := ∀ S H vs, Live S H → Reps K S H xs vs →
  ∀ Q : VK, (∀ z d H2, Ext H H2 → Rep K S H2 d z → C d → Q z H2) → r vs H Q
def wpBO (K : PySem.W.Frag) (r : List V → Hp → VK → Prop) (xs : List D) (C : List D → Prop) : Prop := ∀ S H vs, Live S H → Reps K S H xs vs →
  ∀ Q : VK, (∀ p ys ws, H p = none → Reps K S H ys ws → C ys → Q (.ref p) (upd H p (.lst ws))) → r vs H Q

/-- a bowl: a list of three ints that is changed -/
def OkB (xs : List V) : Prop := ∃ a b c : Int, xs = [.int a, .int b, .int c]
def Bowl (S : Addr → Prop) (W : Hp → Prop) (p : Addr) : Prop := S p ∧ (∀ H, W H → ∃ xs, H p = some (.lst xs) ∧ OkB xs) ∧ ∀ H xs, W H → OkB xs → W (upd H p (.lst xs))
/-- the tables of code objects stand, and making code objects keeps the scene -/
def Tb (W : Hp → Prop) (T : List (Addr × Str)) : Prop := (∀ H, W H → LamX.Tabs T H) ∧ ∀ H H', W H → LamX.ExtN H H' → LamX.Tabs T H' → W H'
/-- what a promise may use of a scene: bowls, tables -/
structure Sc where
  b : Addr → Prop
  tb : List (Addr × Str) → Prop
instance : CoeFun Sc (fun _ => Addr → Prop) := ⟨Sc.b⟩
abbrev sc (Γ : Cxt) : Sc := ⟨Bowl Γ.S Γ.W, Tb Γ.W⟩
structure Sc.le (B B' : Sc) : Prop where
  b : ∀ p, B p → B' p
  tb : ∀ T, B.tb T → B'.tb T
abbrev Fn := Sc → List D → (D → Prop) → (Exc → Prop) → Prop
/-- a def's promise over trees -/
def spF (K : PySem.W.Frag) (F : Fn) : Sp := fun vs H Q E => ∃ (Γ : Cxt) (ds : List D) (C : D → Prop), Γ.Ok ∧ Γ.W H ∧ Reps K Γ.S H ds vs ∧ F (sc Γ) ds C Γ.X ∧
  (∀ v d H2, Rel Γ.S H H2 → Γ.W H2 → Rep K Γ.S H2 d v → C d → Q v H2) ∧
  (∀ x cls d H2, Rel Γ.S H H2 → Γ.W H2 → RepX K Γ.S H2 x cls d → Γ.X x → E cls d H2)
/-- .. that hands back a new list -/
def spO (K : PySem.W.Frag) (F : Sc → List D → (List D → Prop) → (Exc → Prop) → Prop) : Sp := fun vs H Q E => ∃ (Γ : Cxt) (ds : List D) (C : List D → Prop), Γ.Ok ∧ Γ.W H ∧ Reps K Γ.S H ds vs ∧ F (sc Γ) ds C Γ.X ∧
  (∀ a xs vs H2, Fre H a → ¬ Γ.S a → Rel Γ.S H H2 → Γ.W H2 → H2 a = some (.lst vs) → Reps K (fun b => Γ.S b ∨ b = a) H2 xs vs → C xs → Q (.ref a) H2) ∧
  (∀ x cls d H2, Rel Γ.S H H2 → Γ.W H2 → RepX K Γ.S H2 x cls d → Γ.X x → E cls d H2)

section
variable {K : PySem.W.Frag} {Γ : Cxt} {H0 H H' : Hp} {ps qs τ : Ps} {a : Addr} {d : D} {v : V} {xs : List D} {vs : List V} {ss : List Sl} {σ : L2.St} {C C' : D → Prop} {te ta tb : TE} {tt tu : TT} {e : En}

theorem Bowl.sub {ps : Ps} (I : Env K Γ H0 H ps) {p : Addr} (b : Bowl Γ.S Γ.W p) : Bowl (Γ.sub ps H).S (Γ.sub ps H).W p :=
  ⟨.inl b.1, fun H' w => b.2.1 H' w.1, fun H' xs w o => ⟨b.2.2 H' xs w.1 o, fun a z => by
    rw [upd_ne (fun q : a = p => (I.fr a z).1 (by rw [q]; exact b.1))]; exact w.2 a z⟩⟩
theorem Sc.sub {ps : Ps} {X : Exc → Prop} {E : XK} (I : Env K Γ H0 H ps) : Sc.le (sc Γ) (sc { Γ.sub ps H with X := X, E := E }) := ⟨fun p b => Bowl.sub I b, fun T t => ⟨fun H' w => t.1 H' w.1, fun H1 H2 w e tt => ⟨t.2 H1 H2 w.1 e tt, fun a z => by
  obtain ⟨xs, m⟩ := of_owned z
  obtain ⟨b, vs, e1, hv, _⟩ := I.sl _ m
  cases e1
  rw [hv]
  exact e a _ ((w.2 a z).trans hv) (fun ps q => by cases q)⟩⟩⟩
theorem wpE.mono (h : wpE K Γ te ss C) (m : ∀ d, C d → C' d) : wpE K Γ te ss C' := fun H0 σ H τ hl I Q q => h H0 σ H τ hl I Q fun v d H2 J c => q v d H2 J (m d c)
theorem wpT.mono {C C' : Bool → Prop} (h : wpT K Γ tt ss C) (m : ∀ b, C b → C' b) : wpT K Γ tt ss C' := fun H0 σ H τ hl I Q q => h H0 σ H τ hl I Q fun b H2 J c => q b H2 J (m b c)
theorem zip_get : ∀ {ss : List Sl} {σ : L2.St} {i : Nat} {s : Sl} {o : Option V}, ss[i]? = some s → σ[i]? = some o → (s, o) ∈ ss.zip σ
  | [], _, _, _, _, h, _ => by simp at h
  | _ :: _, [], _, _, _, _, h => by simp at h
  | x :: ss, y :: σ, 0, s, o, h, h' => by simp at h h'; subst h h'; simp
  | x :: ss, y :: σ, i + 1, s, o, h, h' => by
    simp only [List.getElem?_cons_succ] at h h'
    exact List.mem_cons_of_mem _ (zip_get h h')
theorem get_of_len {ss : List Sl} {σ : L2.St} {i : Nat} {s : Sl} (hl : σ.length = ss.length) (h : ss[i]? = some s) : ∃ o, σ[i]? = some o := by
  have hi : i < ss.length := (List.getElem?_eq_some_iff.mp h).1
  exact ⟨σ[i]'(hl ▸ hi), List.getElem?_eq_getElem _⟩
/-- the slot i stands apart from the others -/
theorem zip_out : ∀ {ss : List Sl} {σ : L2.St} {i : Nat} {s : Sl} {o : Option V}, ss[i]? = some s → σ[i]? = some o → (ss.zip σ).Perm ((s, o) :: (ss.eraseIdx i).zip (σ.eraseIdx i))
  | [], _, _, _, _, h, _ => by simp at h
  | _ :: _, [], _, _, _, _, h => by simp at h
  | x :: ss, y :: σ, 0, s, o, h, h' => by simp at h h'; subst h h'; simp
  | x :: ss, y :: σ, i + 1, s, o, h, h' => by
    simp only [List.getElem?_cons_succ] at h h'
    have := (zip_out h h').cons (x, y)
    simp only [List.eraseIdx_cons_succ, List.zip_cons_cons]
    exact this.trans (List.Perm.swap _ _ _)
theorem zip_set {i : Nat} {s : Sl} {o : Option V} (hl : σ.length = ss.length) (hi : i < ss.length) : ((ss.set i s).zip (σ.set i o)).Perm ((s, o) :: (ss.eraseIdx i).zip (σ.eraseIdx i)) := by
  have h1 : (ss.set i s)[i]? = some s := by simp [hi]
  have h2 : (σ.set i o)[i]? = some o := by simp [hl, hi]
  have := zip_out h1 h2
  rw [List.eraseIdx_set_eq, List.eraseIdx_set_eq] at this
  exact this
/-- a slot is stored -/
theorem Env.store {i : Nat} {s : Sl} {o : Option V} (hl : σ.length = ss.length) (hi : i < ss.length) (I : Env K Γ H0 H ((s, o) :: (ss.zip σ ++ τ))) : Env K Γ H0 H ((ss.set i s).zip (σ.set i o) ++ τ) := by
  obtain ⟨s', h1⟩ : ∃ s', ss[i]? = some s' := ⟨ss[i], List.getElem?_eq_getElem hi⟩
  obtain ⟨o', h2⟩ := get_of_len hl h1
  have p1 : ((s, o) :: (ss.zip σ ++ τ)).Perm ((s', o') :: ((s, o) :: (ss.eraseIdx i).zip (σ.eraseIdx i) ++ τ)) :=
    (((zip_out h1 h2).append_right τ).cons _).trans (List.Perm.swap _ _ _)
  have I1 := (I.perm p1).drop
  exact I1.perm ((zip_set hl hi).symm.append_right τ)

/-! ### expressions -/
theorem wpE_var {i : Nat} (h : ss[i]? = some (.val d)) (c : C d) : wpE K Γ (tVar i) ss C := fun H0 σ H τ hl I Q q => by
  obtain ⟨o, ho⟩ := get_of_len hl h
  have m := zip_get h ho
  obtain ⟨v, e, r⟩ := I.sl _ (List.mem_append_left _ m)
  have e' : o = some v := e
  subst e'
  exact ⟨v, ho, q v d H (I.push r) c⟩
theorem wpE_int {i : Int} (c : C (.int i)) : wpE K Γ (tC (.int i)) ss C := fun H0 σ H τ hl I Q q => q _ _ H (I.push (d := .int i) rfl) c
theorem wpE_bl {b : Bool} (c : C (.bl b)) : wpE K Γ (tC (.bl b)) ss C := fun H0 σ H τ hl I Q q => q _ _ H (I.push (d := .bl b) rfl) c
theorem wpE_non (c : C .non) : wpE K Γ (tC .non) ss C := fun H0 σ H τ hl I Q q => q _ _ H (I.push (d := .non) rfl) c
theorem wpE_ty {x : String} (c : C (.ty x)) : wpE K Γ (tC (.ty x)) ss C := fun H0 σ H τ hl I Q q => q _ _ H (I.push (d := .ty x) rfl) c
theorem wpE_str {x : Str} (c : C (.str x)) : wpE K Γ (tC (.str x)) ss C := fun H0 σ H τ hl I Q q => q _ _ H (I.push (d := .str x) rfl) c
theorem wpE_op {r : R2} (h : wpE K Γ ta ss fun x => wpE K Γ tb ss fun y => wpR K r x y C) : wpE K Γ (tOp r ta tb) ss C := fun H0 σ H τ hl I Q q =>
  h H0 σ H τ hl I _ fun x dx H1 J1 h1 => h1 H0 σ H1 ((.val dx, some x) :: τ) hl (J1.perm (List.perm_middle.symm)) _ fun y dy H2 J2 h2 =>
    h2 (Out Γ ((.val dy, some y) :: (ss.zip σ ++ (.val dx, some x) :: τ))) H2 x y J2.live (J2.val (List.mem_cons_of_mem _ (List.mem_append_right _ List.mem_cons_self))) (J2.val List.mem_cons_self) Q fun z d H3 e r c => by
      have J3 : Env K Γ H0 H3 (ss.zip σ ++ τ) := ((J2.drop.perm List.perm_middle).drop).ext e
      refine q z d H3 (J3.push (r.less fun a m => ?_)) c
      rcases m with m | m
      · exact .inl m
      · refine .inr ?_
        show a ∈ owned (ss.zip σ ++ (Sl.val dx, some x) :: τ)
        rw [owned_app] at m ⊢
        exact m
theorem wpE_un {r : V → Hp → VK → Prop} (h : wpE K Γ ta ss fun x => wpU K r x C) : wpE K Γ (tUn r ta) ss C := fun H0 σ H τ hl I Q q =>
  h H0 σ H τ hl I _ fun x dx H1 J1 h1 => h1 (Out Γ ((.val dx, some x) :: (ss.zip σ ++ τ))) H1 x J1.live (J1.val List.mem_cons_self) Q fun z d H3 e r c => q z d H3 ((J1.drop.ext e).push r) c
theorem pile_cons {ds : List D} : pile (d :: ds) (v :: vs) = (.val d, some v) :: pile ds vs := rfl
theorem owned_pile : ∀ {ds : List D} {vs : List V}, owned (pile ds vs) = []
  | [], _ => rfl
  | _ :: _, [] => rfl
  | d :: ds, v :: vs => owned_pile (ds := ds) (vs := vs)
theorem Env.piled : ∀ {ds : List D} {vs : List V}, ds.length = vs.length → Env K Γ H0 H (pile ds vs ++ ps) → Reps K (Out Γ ps) H ds vs
  | [], [], _, _ => rfl
  | [], _ :: _, h, _ => by cases h
  | _ :: _, [], h, _ => by cases h
  | d :: ds, v :: vs, h, I => by
    refine ⟨v, vs, rfl, ?_, Env.piled (by simpa using h) I.drop⟩
    have := I.val (d := d) (v := v) List.mem_cons_self
    refine this.less fun a m => m.imp id fun m => ?_
    show a ∈ owned (pile (d :: ds) (v :: vs) ++ ps)
    rw [owned_app, owned_pile]; exact m
theorem wpA_nil {C : List D → Prop} (c : C []) : wpA K Γ tNil ss C := fun H0 σ H τ hl I Q q => q [] [] H rfl I c
theorem wpA_cons {tr : TA} {C : List D → Prop} (h : wpE K Γ ta ss fun x => wpA K Γ tr ss fun xs => C (x :: xs)) : wpA K Γ (tCons ta tr) ss C := fun H0 σ H τ hl I Q q =>
  h H0 σ H τ hl I _ fun x dx H1 J1 h1 => h1 H0 σ H1 ((.val dx, some x) :: τ) hl (J1.perm (List.perm_middle.symm)) _ fun vs ds H2 hd J2 c =>
    q (x :: vs) (dx :: ds) H2 (by simp [hd]) (J2.perm (by
      rw [pile_cons]
      have : (pile ds vs ++ (ss.zip σ ++ (Sl.val dx, some x) :: τ)).Perm ((Sl.val dx, some x) :: (pile ds vs ++ (ss.zip σ ++ τ))) := by
        rw [← List.append_assoc, ← List.append_assoc]; exact List.perm_middle
      exact this)) c
theorem wpE_cb {r : List V → Hp → VK → Prop} {ta : TA} (h : wpA K Γ ta ss fun xs => wpB K r xs C) : wpE K Γ (tCB r ta) ss C := fun H0 σ H τ hl I Q q =>
  h H0 σ H τ hl I _ fun vs ds H1 hd J1 h1 => h1 (Out Γ (ss.zip σ ++ τ)) H1 vs (J1.dropL).live (J1.piled hd) Q fun z d H3 e r c => q z d H3 ((J1.dropL.ext e).push r) c
theorem wpO_cb {r : List V → Hp → VK → Prop} {ta : TA} {C : List D → Prop} (h : wpA K Γ ta ss fun xs => wpBO K r xs C) : wpO K Γ (tCB r ta) ss C := fun H0 σ H τ hl I Q q =>
  h H0 σ H τ hl I _ fun vs ds H1 hd J1 h1 => h1 (Out Γ (ss.zip σ ++ τ)) H1 vs (J1.dropL).live (J1.piled hd) Q fun p xs ws hp r c => q p xs _ (J1.dropL.pushO hp r) c
/-- a new list is a value -/
theorem wpE_frz (h : wpO K Γ te ss fun xs => C (.lst xs)) : wpE K Γ te ss C := fun H0 σ H τ hl I Q q =>
  h H0 σ H τ hl I Q fun a xs H2 J c => q _ _ H2 J.freeze c
theorem wpE_tup {ta : TA} (h : wpA K Γ ta ss fun xs => xs.length ≤ 100000 ∧ C (.tup xs)) : wpE K Γ (tTup ta) ss C := fun H0 σ H τ hl I Q q =>
  h H0 σ H τ hl I _ fun vs ds H1 hd J1 h1 => ⟨by rw [← hd]; exact Nat.le_trans h1.1 (by decide), fun p hp => by
    have ex : Ext H1 (upd H1 p (.tup vs)) := Ext.new hp
    exact q _ _ _ ((J1.dropL.ext ex).push (d := .tup ds) ⟨p, vs, rfl, SqT.of upd_same, (J1.piled hd).ext ex⟩) h1.2⟩
theorem wpO_lst {ta : TA} {C : List D → Prop} (h : wpA K Γ ta ss fun xs => xs.length ≤ 100000 ∧ C xs) : wpO K Γ (tLst ta) ss C := fun H0 σ H τ hl I Q q =>
  h H0 σ H τ hl I _ fun vs ds H1 hd J1 h1 => ⟨by rw [← hd]; exact Nat.le_trans h1.1 (by decide), fun p hp => q p ds _ (J1.dropL.pushO hp (J1.piled hd)) h1.2⟩
/-- a call of a def -/
theorem wpE_call {F : Fn} {ta : TA} (mono : ∀ B B' ds C X, Sc.le B B' → F B ds C X → F B' ds C X)
    (h : wpA K Γ ta ss fun ds => F (sc Γ) ds C Γ.X) : wpE K Γ (tCall (spF K F) [] Γ.E ta) ss C := fun H0 σ H τ hl I Q q =>
  h H0 σ H τ hl I _ fun vs ds H1 hd J1 h1 => by
    have J := J1.dropL
    refine ⟨{ Γ.sub (ss.zip σ ++ τ) H1 with X := Γ.X, E := Γ.E }, ds, C, ⟨J.subOk.al, J.subOk.st⟩, J.subW, ?_, mono _ _ _ _ _ (Sc.sub J) h1, fun v d H2 r w x c => ?_, fun x cls d H2 r w y z => ?_⟩
    · rw [List.append_nil]; exact J1.piled hd
    · exact q v d H2 ((J.back r w).push x) c
    · have J2 := J.back r w
      refine J2.thr x cls d H2 J2.rel J2.w ?_ z
      refine ⟨y.1, y.2.imp id ?_⟩
      rintro ⟨dd, fs, e1, e2, e3, e4⟩
      exact ⟨dd, fs, e1, e2, e3, e4.less fun a z => .inl z⟩
theorem wpO_callG {X' : Exc → Prop} {E' : XK} (hX : ∀ x, X' x → Γ.X x ∧ Γ.E = E') {F : Sc → List D → (List D → Prop) → (Exc → Prop) → Prop} {C : List D → Prop} {ta : TA} (mono : ∀ B B' ds C X, Sc.le B B' → F B ds C X → F B' ds C X)
    (h : wpA K Γ ta ss fun ds => F (sc Γ) ds C X') : wpO K Γ (tCall (spO K F) [] E' ta) ss C := fun H0 σ H τ hl I Q q =>
  h H0 σ H τ hl I _ fun vs ds H1 hd J1 h1 => by
    have J := J1.dropL
    refine ⟨{ Γ.sub (ss.zip σ ++ τ) H1 with X := X', E := E' }, ds, C, ⟨J.subOk.al, J.subOk.st⟩, J.subW, ?_, mono _ _ _ _ _ (Sc.sub J) h1, fun a xs ws H2 hn hS r w e x c => ?_, fun x cls d H2 r w y z => ?_⟩
    · rw [List.append_nil]; exact J1.piled hd
    · have J2 := J.back r w
      refine q a xs H2 ⟨J2.ok, J2.w, J2.rel, List.nodup_cons.mpr ⟨fun z => hS (.inr z), J2.nd⟩, fun b z => ?_, fun p z => ?_, J2.thr⟩ c
      · rcases List.mem_cons.mp z with z | z
        · subst z
          refine ⟨fun z => hS (.inl z), fun o ho => Classical.byContradiction fun ht => ?_⟩
          have := J.rel b o (fun z => hS (.inl z)) ho (fun ps z => ht ⟨ps, z⟩)
          exact ht (hn o this)
        · exact J2.fr b z
      · have m : ∀ b, Out Γ ((Sl.own xs, some (V.ref a)) :: (ss.zip σ ++ τ)) b → Out Γ (ss.zip σ ++ τ) b ∨ b = a := fun b z => by
          rcases z with z | z
          · exact .inl (.inl z)
          · rcases List.mem_cons.mp z with z | z
            · exact .inr z
            · exact .inl (.inr z)
        rcases List.mem_cons.mp z with z | z
        · subst z
          exact ⟨a, ws, rfl, e, x.less m⟩
        · have m2 : ∀ b, Out Γ ((Sl.own xs, some (V.ref a)) :: (ss.zip σ ++ τ)) b → Out Γ (ss.zip σ ++ τ) b ∨ Fre H1 b := fun b z => (m b z).imp id fun z => by rw [z]; exact hn
          refine slot.mono (K := K) (H := H1) (S := Out Γ (ss.zip σ ++ τ)) ?_ ?_ ?_ (J.sl p z)
          · exact fun d v h => Rep.rel2 r J.live (fun b z => z.imp id (List.mem_cons_of_mem _)) d v (Rep.more m2 d v h)
          · exact fun d v h => Reps.rel2 r J.live (fun b z => z.imp id (List.mem_cons_of_mem _)) d v (Reps.more m2 d v h)
          · intro xs' e1 b vs' e2 e3
            obtain ⟨s, o⟩ := p
            have e1' : s = .own xs' := e1
            have e2' : o = some (.ref b) := e2
            subst e1' e2'
            rw [w.2 b (mem_owned z)]; exact e3
    · have J2 := J.back r w
      rw [← (hX x z).2]
      refine J2.thr x cls d H2 J2.rel J2.w ?_ (hX x z).1
      refine ⟨y.1, y.2.imp id ?_⟩
      rintro ⟨dd, fs, e1, e2, e3, e4⟩
      exact ⟨dd, fs, e1, e2, e3, e4.less fun a z => .inl z⟩
/-- .. that lets nothing out -/
theorem wpO_call0 {E' : XK} {F : Sc → List D → (List D → Prop) → (Exc → Prop) → Prop} {C : List D → Prop} {ta : TA} (mono : ∀ B B' ds C X, Sc.le B B' → F B ds C X → F B' ds C X)
    (h : wpA K Γ ta ss fun ds => F (sc Γ) ds C fun _ => False) : wpO K Γ (tCall (spO K F) [] E' ta) ss C := wpO_callG (fun x h => h.elim) mono h
end
end SQ
namespace SQ
open PySem PySem.Spec PyProof.Rows L2
section
variable {K : PySem.W.Frag} {Γ : Cxt} {H0 H H' : Hp} {ps qs τ : Ps} {a : Addr} {d : D} {v : V} {xs : List D} {vs : List V} {ss : List Sl} {σ : L2.St} {C : D → Prop} {te ta tb : TE} {tt t : TT} {e : En} {t1 t2 : TS} {D0 : Ends}

/-! ### statements -/
theorem EnOk.seq (k : EnOk K Γ H0 τ e D0) : EnOk K Γ H0 τ { e with nx := fun ss => wpS K Γ t2 ss e } { D0 with nx := t2 D0 } where
  nx := fun ss σ H hl I h => h H0 σ H τ D0 hl I k
  rt := k.rt
  bk := k.bk
  ct := k.ct
theorem wpS_seq (h : wpS K Γ t1 ss { e with nx := fun ss => wpS K Γ t2 ss e }) : wpS K Γ (tSeq t1 t2) ss e := fun H0 σ H τ D hl I k =>
  h H0 σ H τ _ hl I (EnOk.seq k)
theorem wpS_next (h : e.nx ss) : wpS K Γ tNext ss e := fun H0 σ H τ D hl I k => k.nx ss σ H hl I h
theorem wpS_brk (h : e.bk ss) : wpS K Γ tBreak ss e := fun H0 σ H τ D hl I k => k.bk ss σ H hl I h
theorem wpS_cont (h : e.ct ss) : wpS K Γ tCont ss e := fun H0 σ H τ D hl I k => k.ct ss σ H hl I h
theorem wpS_set {i : Nat} (hi : i < ss.length) (h : wpE K Γ te ss fun d => e.nx (ss.set i (.val d))) : wpS K Γ (tAsg te (gName i)) ss e := fun H0 σ H τ D hl I k =>
  h H0 σ H τ hl I _ fun v d H2 J c => k.nx _ _ H2 (by simp [hl]) (J.store hl hi) c
theorem wpS_setO {i : Nat} (hi : i < ss.length) (h : wpO K Γ te ss fun xs => e.nx (ss.set i (.own xs))) : wpS K Γ (tAsg te (gName i)) ss e := fun H0 σ H τ D hl I k =>
  h H0 σ H τ hl I _ fun a xs H2 J c => k.nx _ _ H2 (by simp [hl]) (J.store hl hi) c
theorem Env.shed {s : Sl} (I : Env K Γ H0 H ((s, some v) :: (ss.zip σ ++ τ))) : Env K Γ H0 H ((s, some v) :: τ) :=
  (I.perm ((List.perm_middle (l₁ := ss.zip σ) (a := (s, some v)) (l₂ := τ)).symm)).dropL
theorem wpS_ret (h : wpE K Γ te ss fun d => e.rt (.val d)) : wpS K Γ (tRet te) ss e := fun H0 σ H τ D hl I k =>
  h H0 σ H τ hl I _ fun v d H2 J c => k.rt v (.val d) H2 J.shed c
theorem wpS_retO (h : wpO K Γ te ss fun xs => e.rt (.own xs)) : wpS K Γ (tRet te) ss e := fun H0 σ H τ D hl I k =>
  h H0 σ H τ hl I _ fun a xs H2 J c => k.rt (.ref a) (.own xs) H2 J.shed c
theorem wpS_retN (h : e.rt (.val .non)) : wpS K Γ tRetN ss e := fun H0 σ H τ D hl I k => k.rt .non (.val .non) H (I.dropL.push (d := .non) rfl) h
theorem wpS_if (h : wpT K Γ t ss fun b => if b = true then wpS K Γ t1 ss e else wpS K Γ t2 ss e) : wpS K Γ (tIfS t t1 t2) ss e := fun H0 σ H τ D hl I k =>
  h H0 σ H τ hl I _ fun b H2 J c => by
    cases b with
    | true => exact c H0 σ H2 τ D hl J k
    | false => exact c H0 σ H2 τ D hl J k
theorem wpS_drop (h : wpE K Γ te ss fun _ => e.nx ss) : wpS K Γ (tDrop te) ss e := fun H0 σ H τ D hl I k =>
  h H0 σ H τ hl I _ fun v d H2 J c => k.nx ss σ H2 hl J.drop c
/-- the list in the slot i, which is owned, stands apart -/
theorem Env.ownAt {i : Nat} (hl : σ.length = ss.length) (h : ss[i]? = some (.own xs)) (I : Env K Γ H0 H (qs ++ (ss.zip σ ++ τ))) : ∃ a, σ[i]? = some (some (.ref a)) ∧
    ((qs ++ (ss.zip σ ++ τ)).Perm ((.own xs, some (.ref a)) :: (qs ++ ((ss.eraseIdx i).zip (σ.eraseIdx i) ++ τ)))) := by
  obtain ⟨o, ho⟩ := get_of_len hl h
  have m := zip_get h ho
  obtain ⟨a, vs, e, _⟩ := I.sl _ (List.mem_append_right _ (List.mem_append_left _ m))
  have e' : o = some (.ref a) := e
  subst e'
  refine ⟨a, ho, ?_⟩
  have p := (zip_out h ho).append_right τ
  exact (p.append_left qs).trans List.perm_middle
theorem zip_set_same : ∀ {ss : List Sl} {σ : L2.St} {i : Nat} {s : Sl} {o : Option V}, σ[i]? = some o → (ss.set i s).zip σ = (ss.set i s).zip (σ.set i o)
  | _, σ, i, s, o, h => by
    have : σ.set i o = σ := by
      apply List.ext_getElem?
      intro j
      by_cases e : i = j
      · subst e; rw [h]; simp [List.getElem?_set]; exact (List.getElem?_eq_some_iff.mp h).1
      · simp [List.getElem?_set, e]
    rw [this]
/-- the list in the slot i, which is owned, gets other items: what they are was found at qs -/
theorem Env.ownSet {i : Nat} {ys : List D} {ws : List V} (hl : σ.length = ss.length) (h : ss[i]? = some (.own xs)) (ha : σ[i]? = some (some (.ref a)))
    (I : Env K Γ H0 H (ss.zip σ ++ τ)) (r : Reps K (Out Γ (ss.zip σ ++ τ)) H ys ws) : Env K Γ H0 (upd H a (.lst ws)) ((ss.set i (.own ys)).zip σ ++ τ) := by
  have hi : i < ss.length := (List.getElem?_eq_some_iff.mp h).1
  have p := (zip_out h ha).append_right τ
  have I1 := I.perm p
  have I2 := I1.write (r.less fun b z => z.imp id fun z => (owned_perm p).mem_iff.mpr z)
  refine I2.perm ?_
  rw [zip_set_same ha]
  exact ((zip_set hl hi).symm.append_right τ)
/-- x.append(e) -/
theorem wpS_app {i : Nat} (h : ss[i]? = some (.own xs)) (hz : xs.length < 100000) (h1 : wpE K Γ te ss fun d => e.nx (ss.set i (.own (xs ++ [d])))) :
    wpS K Γ (tDrop (tBM K "list" rAppend (tVar i) (tCons te tNil))) ss e := fun H0 σ H τ D hl I k => by
  obtain ⟨a, ha, _⟩ := Env.ownAt (qs := []) hl h I
  obtain ⟨vs0, hv0, _⟩ := I.own (a := a) (xs := xs) (List.mem_append_left _ (zip_get h ha))
  refine ⟨.ref a, ha, .inl ⟨rfl, vs0, .inl (.inl hv0)⟩, h1 H0 σ H τ hl I _ fun v d H2 J c => ?_⟩
  obtain ⟨vs, hv, rv⟩ := J.drop.own (a := a) (xs := xs) (List.mem_append_left _ (zip_get h ha))
  refine ⟨a, vs, v, rfl, rfl, hv, Nat.lt_of_lt_of_le (by rw [← rv.length]; exact hz) (by decide), ?_⟩
  refine k.nx _ σ _ (by simp [hl]) (Env.ownSet hl h ha J.drop (rv.app (Reps.one ?_))) c
  exact (J.val List.mem_cons_self).less fun b z => z
/-- x op= e of two ints -/
theorem wpS_aug {i : Nat} {f : Int → Int → Int} {n : Int} (h : ss[i]? = some (.val (.int n))) (h1 : wpE K Γ te ss fun d => ∃ m, d = .int m ∧ e.nx (ss.set i (.val (.int (f n m))))) : wpS K Γ (tAug i te (ipI f)) ss e := fun H0 σ H τ D hl I k => by
  obtain ⟨o, ho⟩ := get_of_len hl h
  have m := zip_get h ho
  obtain ⟨x, ex, rx⟩ := I.sl _ (List.mem_append_left _ m)
  have ex' : o = some x := ex
  subst ex'
  have rx' : x = .int n := rx
  subst rx'
  refine ⟨.int n, ho, h1 H0 σ H τ hl I _ fun v d H2 J c => ?_⟩
  obtain ⟨m, rfl, c⟩ := c
  have rv : v = .int m := J.val List.mem_cons_self
  refine ⟨n, m, rfl, rv, ?_⟩
  have hi : i < ss.length := (List.getElem?_eq_some_iff.mp h).1
  exact k.nx _ _ H2 (by simp [hl]) (Env.store hl hi (J.drop.push (d := .int (f n m)) rfl)) c
/-- a, b = x, y -/
theorem wpS_par {i j : Nat} {tx : TA} (hi : i < ss.length) (hj : j < ss.length) (h : wpA K Γ tx ss fun ds => ∃ x y, ds = [x, y] ∧ e.nx ((ss.set i (.val x)).set j (.val y))) : wpS K Γ (tPar i j tx) ss e := fun H0 σ H τ D hl I k =>
  h H0 σ H τ hl I _ fun vs ds H2 hd J c => by
    obtain ⟨x, y, rfl, c⟩ := c
    match vs, hd with
    | [v, w], _ =>
      refine ⟨v, w, rfl, ?_⟩
      have J1 : Env K Γ H0 H2 ((.val x, some v) :: (.val y, some w) :: (ss.zip σ ++ τ)) := J
      have J2 : Env K Γ H0 H2 ((ss.set i (.val x)).zip (σ.set i (some v)) ++ ((.val y, some w) :: τ)) := Env.store hl hi (J1.perm ((List.perm_middle (l₁ := ss.zip σ)).symm.cons _))
      have J3 := J2.perm (List.perm_middle)
      exact k.nx _ _ H2 (by simp [hl]) (Env.store (by simp [hl]) (by simpa using hj) J3) c

/-! ### tests -/
theorem wpT_test (h : wpE K Γ te ss fun d => ∃ b, d = .bl b ∧ C2 b) : wpT K Γ (tTest te) ss C2 := fun H0 σ H τ hl I Q q =>
  h H0 σ H τ hl I _ fun v d H2 J c => by
    obtain ⟨b, rfl, c⟩ := c
    exact ⟨b, J.val List.mem_cons_self, q b H2 J.drop c⟩
theorem wpT_B (h : wpE K Γ te ss fun d => ∃ b, d = .bl b ∧ C2 b) : wpT K Γ (tB te) ss C2 := fun H0 σ H τ hl I Q q =>
  h H0 σ H τ hl I _ fun v d H2 J c => by
    obtain ⟨b, rfl, c⟩ := c
    exact ⟨b, J.val List.mem_cons_self, q b H2 J.drop c⟩
theorem wpT_yes {C2 : Bool → Prop} (c : C2 true) : wpT K Γ tYes ss C2 := fun H0 σ H τ hl I Q q => q true H I c
theorem wpT_not {C2 : Bool → Prop} (h : wpT K Γ t ss fun b => C2 (!b)) : wpT K Γ (tNot t) ss C2 := fun H0 σ H τ hl I Q q =>
  h H0 σ H τ hl I _ fun b H2 J c => q _ H2 J c
/-- .. in a row: the second one only behind a true first one -/
theorem wpT_and {C2 : Bool → Prop} {u : TT} (h : wpT K Γ t ss fun b => if b = true then wpT K Γ u ss C2 else C2 false) : wpT K Γ (tAnd t u) ss C2 := fun H0 σ H τ hl I Q q =>
  h H0 σ H τ hl I _ fun b H2 J c => by
    cases b with
    | true => exact c H0 σ H2 τ hl J Q q
    | false => exact q false H2 J c
theorem wpT_or {C2 : Bool → Prop} {u : TT} (h : wpT K Γ t ss fun b => if b = true then C2 true else wpT K Γ u ss C2) : wpT K Γ (tOr t u) ss C2 := fun H0 σ H τ hl I Q q =>
  h H0 σ H τ hl I _ fun b H2 J c => by
    cases b with
    | true => exact q true H2 J c
    | false => exact c H0 σ H2 τ hl J Q q
theorem wpE_andV {u : TE} (h : wpE K Γ te ss fun d => ∃ b, d = .bl b ∧ if b = true then wpE K Γ u ss C else C (.bl false)) : wpE K Γ (tAndV te u) ss C := fun H0 σ H τ hl I Q q =>
  h H0 σ H τ hl I _ fun v d H2 J c => by
    obtain ⟨b, rfl, c⟩ := c
    have rv : v = .bl b := J.val List.mem_cons_self
    refine ⟨b, rv, ?_⟩
    cases b with
    | true => exact c H0 σ H2 τ hl J.drop Q q
    | false => exact q _ _ H2 (J.drop.push (d := .bl false) rfl) c
theorem wpE_orV {u : TE} (h : wpE K Γ te ss fun d => ∃ b, d = .bl b ∧ if b = true then C (.bl true) else wpE K Γ u ss C) : wpE K Γ (tOrV te u) ss C := fun H0 σ H τ hl I Q q =>
  h H0 σ H τ hl I _ fun v d H2 J c => by
    obtain ⟨b, rfl, c⟩ := c
    have rv : v = .bl b := J.val List.mem_cons_self
    refine ⟨b, rv, ?_⟩
    cases b with
    | true => exact q _ _ H2 (J.drop.push (d := .bl true) rfl) c
    | false => exact c H0 σ H2 τ hl J.drop Q q
theorem wpE_notV (h : wpE K Γ te ss fun d => ∃ b, d = .bl b ∧ C (.bl (!b))) : wpE K Γ (tNotV te) ss C := fun H0 σ H τ hl I Q q =>
  h H0 σ H τ hl I _ fun v d H2 J c => by
    obtain ⟨b, rfl, c⟩ := c
    exact ⟨b, J.val List.mem_cons_self, q _ _ H2 (J.drop.push (d := .bl (!b)) rfl) c⟩
theorem wpE_if (h : wpT K Γ t ss fun b => if b = true then wpE K Γ ta ss C else wpE K Γ tb ss C) : wpE K Γ (tIf t ta tb) ss C := fun H0 σ H τ hl I Q q =>
  h H0 σ H τ hl I _ fun b H2 J c => by
    cases b with
    | true => exact c H0 σ H2 τ hl J Q q
    | false => exact c H0 σ H2 τ hl J Q q
/-- a op b op c -/
theorem wpE_chain {r r' : R2} {tc : TE} (h : wpE K Γ ta ss fun x => wpE K Γ tb ss fun y => wpR K r x y fun z => ∃ b, z = .bl b ∧ if b = true then wpE K Γ tc ss fun w => wpR K r' y w C else C (.bl false)) : wpE K Γ (tChain r r' ta tb tc) ss C := fun H0 σ H τ hl I Q q =>
  h H0 σ H τ hl I _ fun x dx H1 J1 h1 => h1 H0 σ H1 ((.val dx, some x) :: τ) hl (J1.perm (List.perm_middle.symm)) _ fun y dy H2 J2 h2 =>
    h2 (Out Γ ((.val dy, some y) :: (ss.zip σ ++ (.val dx, some x) :: τ))) H2 x y J2.live (J2.val (List.mem_cons_of_mem _ (List.mem_append_right _ List.mem_cons_self))) (J2.val List.mem_cons_self) _ fun z d H3 e r c => by
      obtain ⟨b, rfl, c⟩ := c
      have rz : z = .bl b := r
      refine ⟨b, rz, ?_⟩
      have J3 : Env K Γ H0 H3 ((.val dy, some y) :: (ss.zip σ ++ τ)) := by
        have J4 := J2.ext e
        exact (J4.perm ((List.perm_middle (l₁ := ss.zip σ)).cons _ |>.trans (List.Perm.swap _ _ _))).drop
      cases b with
      | false => exact q _ _ H3 (J3.drop.push (d := .bl false) rfl) c
      | true =>
        refine c H0 σ H3 ((.val dy, some y) :: τ) hl (J3.perm List.perm_middle.symm) _ fun w dw H4 J4 h4 => ?_
        refine h4 (Out Γ ((.val dw, some w) :: (ss.zip σ ++ (.val dy, some y) :: τ))) H4 y w J4.live (J4.val (List.mem_cons_of_mem _ (List.mem_append_right _ List.mem_cons_self))) (J4.val List.mem_cons_self) Q fun z d H5 e r c => ?_
        have J5 : Env K Γ H0 H5 (ss.zip σ ++ τ) := ((J4.drop.perm List.perm_middle).drop).ext e
        refine q z d H5 (J5.push (r.less fun a m => ?_)) c
        rcases m with m | m
        · exact .inl m
        · refine .inr ?_
          show a ∈ owned (ss.zip σ ++ (Sl.val dy, some y) :: τ)
          rw [owned_app] at m ⊢
          exact m
end
end SQ
namespace SQ
open PySem PySem.Spec PyProof.Rows L2 RZ
/-! ### walks -/
/-- while what τ holds stands, J gives the trees ds, one after the other -/
def Walks (K : PySem.W.Frag) (Γ : Cxt) (J : It) (ds : List D) (τ : Ps) : Prop := ∀ H0 H ps, Env K Γ H0 H ps → (∀ p ∈ τ, p ∈ ps) →
  (∀ i d, ds[i]? = some d → J.go i H ∧ ∀ x H', J.yld i H x H' → Env K Γ H0 H' ((.val d, some x) :: ps)) ∧ J.stop ds.length H
def wpI (K : PySem.W.Frag) (Γ : Cxt) (wi : TI) (ss : List Sl) (C : List D → Prop) : Prop := ∀ H0 σ H τ, σ.length = ss.length → Env K Γ H0 H (ss.zip σ ++ τ) →
  ∀ R : It → Hp → Prop, (∀ J H1 ds τ1, Env K Γ H0 H1 (ss.zip σ ++ (τ1 ++ τ)) → Walks K Γ J ds τ1 → C ds → R J H1) → wi σ H R
def wipeS (ss : List Sl) : List Nat → List Sl
  | [] => ss
  | v :: vs => (wipeS ss vs).set v .un
theorem wipeS_length (ss : List Sl) : ∀ vs, (wipeS ss vs).length = ss.length
  | [] => rfl
  | v :: vs => by rw [wipeS, List.length_set, wipeS_length ss vs]
/-- a target -/
def wpG (K : PySem.W.Frag) (Γ : Cxt) (vs : List Nat) (g : TG) (d : D) (ss : List Sl) (C : List Sl → Prop) : Prop := ∀ H0 σ H τ x, σ.length = ss.length → Env K Γ H0 H ((.val d, some x) :: (ss.zip σ ++ τ)) →
  ∀ Q : L2.St → Hp → Prop, (∀ ss' σ' H', σ'.length = ss'.length → wipe σ' vs = wipe σ vs → wipeS ss' vs = wipeS ss vs → Env K Γ H0 H' (ss'.zip σ' ++ τ) → C ss' → Q σ' H') → g x σ H Q
section
variable {K : PySem.W.Frag} {Γ : Cxt} {H0 H H' : Hp} {ps qs τ : Ps} {a : Addr} {d : D} {v : V} {xs : List D} {vs : List V} {ss : List Sl} {σ : L2.St} {C : D → Prop} {te ta tb : TE} {tt t : TT} {e : En} {t1 t2 : TS} {D0 : Ends} {wi : TI} {g : TG}

theorem wipe_in {σ : L2.St} {i : Nat} : ∀ {ws : List Nat}, i ∈ ws → (wipe σ ws)[i]? = if i < σ.length then some none else none
  | [], h => by cases h
  | w :: ws, h => by
    show ((wipe σ ws).set w none)[i]? = _
    by_cases hw : w = i
    · subst hw; rw [List.getElem?_set, if_pos rfl, wipe_length]
    · rw [List.getElem?_set, if_neg hw]
      exact wipe_in ((List.mem_cons.mp h).resolve_left (fun q => hw q.symm))
theorem wipe_notin {σ : L2.St} {i : Nat} : ∀ {ws : List Nat}, i ∉ ws → (wipe σ ws)[i]? = σ[i]?
  | [], _ => rfl
  | w :: ws, h => by
    show ((wipe σ ws).set w none)[i]? = _
    rw [List.getElem?_set, if_neg (fun q => h (by rw [q]; exact List.mem_cons_self))]
    exact wipe_notin fun q => h (List.mem_cons_of_mem _ q)
theorem wipe_ext {σ τ : L2.St} {ws : List Nat} (hl : σ.length = τ.length) (h : ∀ i, i ∉ ws → σ[i]? = τ[i]?) : wipe σ ws = wipe τ ws := by
  apply List.ext_getElem?
  intro i
  by_cases hi : i ∈ ws
  · rw [wipe_in hi, wipe_in hi, hl]
  · rw [wipe_notin hi, wipe_notin hi, h i hi]
theorem wipe_set_mem {σ : L2.St} {o : Option V} {j : Nat} {vs : List Nat} (h : j ∈ vs) : wipe (σ.set j o) vs = wipe σ vs :=
  wipe_ext (by simp) fun i hi => by rw [List.getElem?_set, if_neg (fun q : j = i => hi (by rw [← q]; exact h))]
theorem wipe_wipe (σ : L2.St) (vs : List Nat) : wipe (wipe σ vs) vs = wipe σ vs := wipe_ext (wipe_length σ vs) fun i hi => wipe_notin hi
theorem wipeS_in {σ : List Sl} {i : Nat} : ∀ {ws : List Nat}, i ∈ ws → (wipeS σ ws)[i]? = if i < σ.length then some .un else none
  | [], h => by cases h
  | w :: ws, h => by
    show ((wipeS σ ws).set w .un)[i]? = _
    by_cases hw : w = i
    · subst hw; rw [List.getElem?_set, if_pos rfl, wipeS_length]
    · rw [List.getElem?_set, if_neg hw]
      exact wipeS_in ((List.mem_cons.mp h).resolve_left (fun q => hw q.symm))
theorem wipeS_notin {σ : List Sl} {i : Nat} : ∀ {ws : List Nat}, i ∉ ws → (wipeS σ ws)[i]? = σ[i]?
  | [], _ => rfl
  | w :: ws, h => by
    show ((wipeS σ ws).set w .un)[i]? = _
    rw [List.getElem?_set, if_neg (fun q => h (by rw [q]; exact List.mem_cons_self))]
    exact wipeS_notin fun q => h (List.mem_cons_of_mem _ q)
theorem wipeS_ext {σ τ : List Sl} {ws : List Nat} (hl : σ.length = τ.length) (h : ∀ i, i ∉ ws → σ[i]? = τ[i]?) : wipeS σ ws = wipeS τ ws := by
  apply List.ext_getElem?
  intro i
  by_cases hi : i ∈ ws
  · rw [wipeS_in hi, wipeS_in hi, hl]
  · rw [wipeS_notin hi, wipeS_notin hi, h i hi]
theorem wipeS_set_mem {σ : List Sl} {o : Sl} {j : Nat} {vs : List Nat} (h : j ∈ vs) : wipeS (σ.set j o) vs = wipeS σ vs :=
  wipeS_ext (by simp) fun i hi => by rw [List.getElem?_set, if_neg (fun q : j = i => hi (by rw [← q]; exact h))]
theorem wipeS_wipeS (σ : List Sl) (vs : List Nat) : wipeS (wipeS σ vs) vs = wipeS σ vs := wipeS_ext (wipeS_length σ vs) fun i hi => wipeS_notin hi
/-- the slots that a block wipes lie on the pile meanwhile -/
theorem wiped_pile (hl : σ.length = ss.length) : ∀ (us : List Nat), ∃ lost : Ps, ∀ (K : PySem.W.Frag) (Γ : Cxt) (H0 H : Hp) (R : Ps), Env K Γ H0 H (ss.zip σ ++ R) ↔ Env K Γ H0 H ((wipeS ss us).zip (wipe σ us) ++ (lost ++ R))
  | [] => ⟨[], fun K Γ H0 H R => Iff.rfl⟩
  | u :: us => by
    obtain ⟨lost, h⟩ := wiped_pile hl us
    have hl1 : (wipe σ us).length = (wipeS ss us).length := by rw [wipe_length, wipeS_length, hl]
    by_cases hu : u < (wipeS ss us).length
    · obtain ⟨s, hs⟩ : ∃ s, (wipeS ss us)[u]? = some s := ⟨_, List.getElem?_eq_getElem hu⟩
      obtain ⟨o, ho⟩ := get_of_len hl1 hs
      refine ⟨(s, o) :: lost, fun K Γ H0 H R => (h K Γ H0 H R).trans ?_⟩
      have p1 := zip_out hs ho
      have p2 := zip_set (s := .un) (o := none) hl1 hu
      constructor
      · intro I
        have I1 := (I.perm (p1.append_right _)).pushU none
        refine I1.perm ?_
        show (((Sl.un, none) :: (s, o) :: ((wipeS ss us).eraseIdx u).zip ((wipe σ us).eraseIdx u) ++ (lost ++ R)) : Ps).Perm (((wipeS ss us).set u .un).zip ((wipe σ us).set u none) ++ ((s, o) :: lost ++ R))
        refine List.Perm.trans ?_ (p2.symm.append_right _)
        refine List.Perm.cons _ ?_
        exact List.perm_middle.symm
      · intro I
        have I1 := (I.perm ((p2.append_right _ : (((wipeS ss us).set u .un).zip ((wipe σ us).set u none) ++ ((s, o) :: lost ++ R)).Perm _))).drop
        refine I1.perm ?_
        refine List.Perm.trans ?_ (p1.symm.append_right _)
        exact List.perm_middle
    · have e1 : (wipeS ss us).set u .un = wipeS ss us := List.set_eq_of_length_le (by omega)
      have e2 : (wipe σ us).set u none = wipe σ us := List.set_eq_of_length_le (by omega)
      refine ⟨lost, fun K Γ H0 H R => ?_⟩
      show _ ↔ Env K Γ H0 H (((wipeS ss us).set u .un).zip ((wipe σ us).set u none) ++ (lost ++ R))
      rw [e1, e2]; exact h K Γ H0 H R
/-! ### targets -/
theorem wpG_name {us : List Nat} {i : Nat} {C : List Sl → Prop} (hi : i < ss.length) (hu : i ∈ us) (c : C (ss.set i (.val d))) : wpG K Γ us (gName i) d ss C := fun H0 σ H τ x hl I Q q =>
  q _ _ H (by simp [hl]) (wipe_set_mem hu) (wipeS_set_mem hu) (I.store hl hi) c
/-- i, j = a pair -/
theorem wpG_pair {us : List Nat} {i j : Nat} {C : List Sl → Prop} {x y : D} (hi : i < ss.length) (hj : j < ss.length) (hu : i ∈ us) (hv : j ∈ us) (hd : d = .tup [x, y]) (c : C ((ss.set i (.val x)).set j (.val y))) :
    wpG K Γ us (gTup K 2 (gCons (gName i) (gCons (gName j) gNil))) d ss C := fun H0 σ H τ w hl I Q q => by
  subst hd
  obtain ⟨a, vs, e, ht, r⟩ := I.val List.mem_cons_self
  obtain ⟨v1, ws, rfl, r1, r⟩ := r
  obtain ⟨v2, ws, rfl, r2, r⟩ := r
  have r : ws = [] := r
  subst r
  refine ⟨a, [v1, v2], e, ht, rfl, v1, [v2], rfl, v2, [], rfl, rfl, ?_⟩
  have I1 : Env K Γ H0 H (ss.zip σ ++ τ) := I.drop
  have I2 := Env.store hl hi (I1.push r1)
  refine q _ _ H (by simp [hl]) ?_ (by rw [wipeS_set_mem hv, wipeS_set_mem hu]) (Env.store (by simp [hl]) (by simpa using hj) (I2.push (r2.less fun b m => m.imp id fun m => ?_))) c
  · rw [wipe_set_mem hv, wipe_set_mem hu]
  · have p := ((zip_set (ss := ss) (σ := σ) (s := .val x) (o := some v1) hl hi).append_right τ)
    have m1 := (owned_perm p).mem_iff.mp m
    have m2 : b ∈ owned ((ss.eraseIdx i).zip (σ.eraseIdx i) ++ τ) := m1
    have hs : ∃ s, ss[i]? = some s := ⟨ss[i], List.getElem?_eq_getElem hi⟩
    obtain ⟨s, hs⟩ := hs
    obtain ⟨o, ho⟩ := get_of_len hl hs
    have p2 := (zip_out hs ho).append_right τ
    refine (owned_perm p2).mem_iff.mpr ?_
    rw [List.cons_append, ← List.singleton_append, owned_app]
    exact List.mem_append_right _ m2

/-! ### what is walked -/
theorem walks_list {a : Addr} {ds : List D} {o : Option V} (ho : o = some (.ref a)) : Walks K Γ (Itl K a) ds [(.val (.lst ds), o)] := fun H0 H ps I m => by
  subst ho
  obtain ⟨b, vs, e, n, h, r⟩ := I.val (m _ List.mem_cons_self)
  cases e
  have hq : SqL K H a vs := .inl (.inl h)
  refine ⟨fun i d hd => ?_, ⟨vs, hq, by rw [r.length]; exact Nat.le_refl _⟩⟩
  obtain ⟨v, hv, rv⟩ := r.get hd
  refine ⟨⟨vs, v, hq, hv⟩, fun x H' y => ?_⟩
  obtain ⟨rfl, y⟩ := y
  have : v = x := Option.some.inj (hv.symm.trans (y vs hq))
  subst this
  exact I.push rv
theorem walks_tup {a : Addr} {ds : List D} {o : Option V} (ho : o = some (.ref a)) : Walks K Γ (Itt K a) ds [(.val (.tup ds), o)] := fun H0 H ps I m => by
  subst ho
  obtain ⟨b, vs, e, h, r⟩ := I.val (m _ List.mem_cons_self)
  cases e
  refine ⟨fun i d hd => ?_, ⟨vs, h, by rw [r.length]; exact Nat.le_refl _⟩⟩
  obtain ⟨v, hv, rv⟩ := r.get hd
  refine ⟨⟨vs, v, h, hv⟩, fun x H' y => ?_⟩
  obtain ⟨rfl, y⟩ := y
  have : v = x := Option.some.inj (hv.symm.trans (y vs h))
  subst this
  exact I.push rv
def rngD (lo : Int) (n : Nat) : List D := (List.range n).map fun i => .int (lo + (i : Nat))
theorem walks_rng {lo : Int} {n : Nat} : Walks K Γ (Itr lo n) (rngD lo n) [] := fun H0 H ps I m => by
  refine ⟨fun i d hd => ?_, by show n ≤ _; simp [rngD]⟩
  have hi : i < n := by
    have := (List.getElem?_eq_some_iff.mp hd).1
    simpa [rngD] using this
  have e : d = .int (lo + (i : Nat)) := by
    have : (rngD lo n)[i]? = some (.int (lo + (i : Nat))) := by simp [rngD, hi]
    rw [this] at hd; exact (Option.some.inj hd).symm
  subst e
  refine ⟨hi, fun x H' y => ?_⟩
  obtain ⟨rfl, rfl⟩ := y
  exact I.push (d := .int _) rfl
theorem wpI_rng1 {ta : TA} {C : List D → Prop} (h : wpA K Γ ta ss fun ds => ∃ j : Int, ds = [.int j] ∧ (-(2 ^ 62) ≤ j ∧ j < 2 ^ 62) ∧ C (rngD 0 j.toNat)) : wpI K Γ (iRng1 ta) ss C := fun H0 σ H τ hl I R k =>
  h H0 σ H τ hl I _ fun vs ds H1 hd J c => by
    obtain ⟨j, rfl, hj, c⟩ := c
    match vs, hd with
    | [v], _ =>
      have rv : v = .int j := J.val List.mem_cons_self
      subst rv
      exact ⟨j, rfl, hj.1, hj.2, k _ H1 _ [] J.dropL walks_rng c⟩
theorem wpI_rng2 {ta : TA} {C : List D → Prop} (h : wpA K Γ ta ss fun ds => ∃ i j : Int, ds = [.int i, .int j] ∧ (-(2 ^ 62) ≤ i ∧ i < 2 ^ 62 ∧ -(2 ^ 62) ≤ j ∧ j < 2 ^ 62) ∧ C (rngD i (j - i).toNat)) : wpI K Γ (iRng2 ta) ss C := fun H0 σ H τ hl I R k =>
  h H0 σ H τ hl I _ fun vs ds H1 hd J c => by
    obtain ⟨i, j, rfl, hj, c⟩ := c
    match vs, hd with
    | [v, w], _ =>
      have rv : v = .int i := J.val List.mem_cons_self
      have rw' : w = .int j := J.val (List.mem_cons_of_mem _ List.mem_cons_self)
      subst rv rw'
      exact ⟨i, j, rfl, hj, k _ H1 _ [] J.dropL walks_rng c⟩
/-- a new tuple on the pile -/
theorem Env.newTup {p : Addr} {ds : List D} {ws : List V} (I : Env K Γ H0 H ps) (hp : H p = none) (r : Reps K (Out Γ ps) H ds ws) : Env K Γ H0 (upd H p (.tup ws)) ((.val (.tup ds), some (.ref p)) :: ps) :=
  (I.ext (Ext.new hp)).push (d := .tup ds) ⟨p, ws, rfl, SqT.of upd_same, r.ext (Ext.new hp)⟩
def zipD : List D → List D → List D
  | x :: xs, y :: ys => .tup [x, y] :: zipD xs ys
  | _, _ => []
theorem zipD_get : ∀ (xs ys : List D) {i : Nat} {d : D}, (zipD xs ys)[i]? = some d → ∃ x y, xs[i]? = some x ∧ ys[i]? = some y ∧ d = .tup [x, y]
  | [], _, _, _, h => by simp [zipD] at h
  | _ :: _, [], _, _, h => by simp [zipD] at h
  | x :: xs, y :: ys, 0, d, h => by simp [zipD] at h; exact ⟨x, y, rfl, rfl, h.symm⟩
  | x :: xs, y :: ys, i + 1, d, h => by
    simp only [zipD, List.getElem?_cons_succ] at h
    exact zipD_get xs ys h
theorem zipD_length : ∀ (xs ys : List D), (zipD xs ys).length = min xs.length ys.length
  | [], _ => by simp [zipD]
  | _ :: _, [] => by simp [zipD]
  | x :: xs, y :: ys => by simp [zipD, zipD_length xs ys]
theorem walks_zip {a b : Addr} {xs ys : List D} : Walks K Γ (Itz K a b) (zipD xs ys) [(.val (.lst xs), some (.ref a)), (.val (.lst ys), some (.ref b))] := fun H0 H ps I m => by
  obtain ⟨a', vs, e, n, h, r⟩ := I.val (m _ List.mem_cons_self)
  obtain ⟨b', ws, e', n', h', r'⟩ := I.val (m _ (List.mem_cons_of_mem _ List.mem_cons_self))
  cases e; cases e'
  have hq : SqL K H a vs := .inl (.inl h)
  have hq' : SqL K H b ws := .inl (.inl h')
  refine ⟨fun i d hd => ?_, ⟨vs, ws, hq, hq', by rw [zipD_length, ← r.length, ← r'.length]; omega⟩⟩
  obtain ⟨x, y, hx, hy, rfl⟩ := zipD_get _ _ hd
  obtain ⟨v, hv, rv⟩ := r.get hx
  obtain ⟨w, hw, rw'⟩ := r'.get hy
  refine ⟨⟨vs, ws, v, w, hq, hq', hv, hw⟩, fun z H' y => ?_⟩
  obtain ⟨T, v1, w1, rfl, hT, rfl, y1, y2⟩ := y
  have e1 : v = v1 := Option.some.inj (hv.symm.trans (y1 vs hq))
  have e2 : w = w1 := Option.some.inj (hw.symm.trans (y2 ws hq'))
  subst e1 e2
  exact I.newTup hT (.cons rv (.cons rw' .nil))
theorem walks_zipT {a b : Addr} {xs ys : List D} : Walks K Γ (ItzT K a b) (zipD xs ys) [(.val (.tup xs), some (.ref a)), (.val (.tup ys), some (.ref b))] := fun H0 H ps I m => by
  obtain ⟨a', vs, e, hq, r⟩ := I.val (m _ List.mem_cons_self)
  obtain ⟨b', ws, e', hq', r'⟩ := I.val (m _ (List.mem_cons_of_mem _ List.mem_cons_self))
  cases e; cases e'
  refine ⟨fun i d hd => ?_, ⟨vs, ws, hq, hq', by rw [zipD_length, ← r.length, ← r'.length]; omega⟩⟩
  obtain ⟨x, y, hx, hy, rfl⟩ := zipD_get _ _ hd
  obtain ⟨v, hv, rv⟩ := r.get hx
  obtain ⟨w, hw, rw'⟩ := r'.get hy
  refine ⟨⟨vs, ws, v, w, hq, hq', hv, hw⟩, fun z H' y => ?_⟩
  obtain ⟨T, v1, w1, rfl, hT, rfl, y1, y2⟩ := y
  have e1 : v = v1 := Option.some.inj (hv.symm.trans (y1 vs hq))
  have e2 : w = w1 := Option.some.inj (hw.symm.trans (y2 ws hq'))
  subst e1 e2
  exact I.newTup hT (.cons rv (.cons rw' .nil))
def enumD (k : Nat) : List D → List D
  | [] => []
  | x :: xs => .tup [.int k, x] :: enumD (k + 1) xs
theorem enumD_get : ∀ (xs : List D) {k i : Nat} {d : D}, (enumD k xs)[i]? = some d → ∃ x, xs[i]? = some x ∧ d = .tup [.int ((k + i : Nat)), x]
  | [], _, _, _, h => by simp [enumD] at h
  | x :: xs, k, 0, d, h => by simp [enumD] at h; exact ⟨x, rfl, by simpa using h.symm⟩
  | x :: xs, k, i + 1, d, h => by
    simp only [enumD, List.getElem?_cons_succ] at h
    obtain ⟨y, h1, h2⟩ := enumD_get xs h
    exact ⟨y, by simpa using h1, by rw [h2]; congr 3; omega⟩
theorem enumD_length : ∀ (xs : List D) (k : Nat), (enumD k xs).length = xs.length
  | [], _ => rfl
  | x :: xs, k => by simp [enumD, enumD_length xs]
theorem walks_enum {a : Addr} {xs : List D} : Walks K Γ (Ite K a) (enumD 0 xs) [(.val (.lst xs), some (.ref a))] := fun H0 H ps I m => by
  obtain ⟨a', vs, e, n, h, r⟩ := I.val (m _ List.mem_cons_self)
  cases e
  have hq : SqL K H a vs := .inl (.inl h)
  refine ⟨fun i d hd => ?_, ⟨vs, hq, by rw [enumD_length, ← r.length]; exact Nat.le_refl _⟩⟩
  obtain ⟨x, hx, rfl⟩ := enumD_get _ hd
  obtain ⟨v, hv, rv⟩ := r.get hx
  refine ⟨⟨vs, v, hq, hv⟩, fun z H' y => ?_⟩
  obtain ⟨T, v1, rfl, hT, rfl, y1⟩ := y
  have e1 : v = v1 := Option.some.inj (hv.symm.trans (y1 vs hq))
  subst e1
  rw [Nat.zero_add]
  exact I.newTup hT (.cons rfl (.cons rv .nil))
theorem wpI_enum {ta : TA} {C : List D → Prop} (h : wpA K Γ ta ss fun ds => ∃ xs, ds = [.lst xs] ∧ C (enumD 0 xs)) : wpI K Γ (iEnum K ta) ss C := fun H0 σ H τ hl I R k =>
  h H0 σ H τ hl I _ fun vs ds H1 hd J c => by
    obtain ⟨xs, rfl, c⟩ := c
    match vs, hd with
    | [v], _ =>
      obtain ⟨a, us, rfl, n, t, r⟩ := J.val (d := .lst xs) List.mem_cons_self
      exact ⟨a, us, rfl, .inl (.inl t), k _ H1 _ [(.val (.lst xs), some (.ref a))] (J.perm (List.perm_middle (l₁ := ss.zip σ) (a := (Sl.val (D.lst xs), some (V.ref a)))).symm) walks_enum c⟩
/-! ### for -/
theorem wpS_for {us : List Nat} (h : wpI K Γ wi ss fun ds => ∃ I : Nat → List Sl → Prop, I 0 ss ∧
      (∀ i d ss', ds[i]? = some d → I i ss' → wpG K Γ us g d ss' fun ss2 => wpS K Γ t1 ss2 { nx := I (i + 1), ct := I (i + 1), bk := e.nx, rt := e.rt }) ∧ (∀ ss', I ds.length ss' → e.nx ss')) :
    wpS K Γ (tFor wi g t1) ss e := fun H0 σ H τ D hl I k =>
  h H0 σ H τ hl I _ fun J H1 ds τ1 I1 w ⟨P, p0, ps, pd⟩ => by
    refine ⟨fun i m σ' H' => m = ds.length - i ∧ i ≤ ds.length ∧ ∃ ss', σ'.length = ss'.length ∧ Env K Γ H0 H' (ss'.zip σ' ++ (τ1 ++ τ)) ∧ P i ss', ⟨ds.length, by simp, Nat.zero_le _, ss, hl, I1, p0⟩, ?_⟩
    rintro i m σ' H' ⟨rfl, hi, ss', hl', I', p⟩
    obtain ⟨w1, w2⟩ := w H0 H' _ I' (fun q hq => List.mem_append_right _ (List.mem_append_left _ hq))
    by_cases hlt : i < ds.length
    · have hd : ds[i]? = some ds[i] := List.getElem?_eq_getElem hlt
      obtain ⟨g1, g2⟩ := w1 i _ hd
      refine .inr ⟨g1, fun σ2 H2 => i + 1 ≤ ds.length ∧ ∃ ss2, σ2.length = ss2.length ∧ Env K Γ H0 H2 (ss2.zip σ2 ++ (τ1 ++ τ)) ∧ P (i + 1) ss2, ?_, fun x H2 y => ?_⟩
      · rintro σ2 H2 ⟨h1, ss2, h2, I2, p2⟩
        exact ⟨ds.length - (i + 1), by omega, rfl, h1, ss2, h2, I2, p2⟩
      · refine ps i _ ss' hd p H0 σ' H2 (τ1 ++ τ) x hl' (g2 x H2 y) _ fun ss2 σ2 H3 hl2 _ _ I2 c => ?_
        refine c H0 σ2 H3 (τ1 ++ τ) _ hl2 I2 ⟨fun ss3 σ3 H4 hl3 I3 q => ⟨hlt, ss3, hl3, I3, q⟩, fun v d H4 I3 q => ?_, fun ss3 σ3 H4 hl3 I3 q => ?_, fun ss3 σ3 H4 hl3 I3 q => ⟨hlt, ss3, hl3, I3, q⟩⟩
        · exact k.rt v d H4 (I3.perm ((List.perm_middle (l₁ := τ1)).symm)).dropL q
        · refine k.nx ss3 σ3 H4 hl3 ?_ q
          have : (ss3.zip σ3 ++ (τ1 ++ τ)).Perm (τ1 ++ (ss3.zip σ3 ++ τ)) := by
            rw [← List.append_assoc, ← List.append_assoc]; exact List.perm_append_comm.append_right _
          exact (I3.perm this).dropL
    · have hi' : i = ds.length := by omega
      subst hi'
      refine .inl ⟨w2, k.nx ss' σ' H' hl' ?_ (pd ss' p)⟩
      have : (ss'.zip σ' ++ (τ1 ++ τ)).Perm (τ1 ++ (ss'.zip σ' ++ τ)) := by
        rw [← List.append_assoc, ← List.append_assoc]; exact List.perm_append_comm.append_right _
      exact (I'.perm this).dropL
/-! ### comprehensions -/
theorem wpO_lc {us : List Nat} {C : List D → Prop} (h : wpI K Γ wi ss fun ds => ds.length ≤ 100000 ∧ ∃ I : Nat → List D → Prop, I 0 [] ∧
      (∀ i d acc, ds[i]? = some d → I i acc → wpG K Γ us g d (wipeS ss us) fun ss2 => wpT K Γ tt ss2 fun b => if b = true then wpE K Γ te ss2 fun y => I (i + 1) (acc ++ [y]) else I (i + 1) acc) ∧ (∀ acc, I ds.length acc → C acc)) :
    wpO K Γ (tLc wi g tt te us) ss C := fun H0 σ H τ hl I Q q =>
  h H0 σ H τ hl I _ fun J H1 ds τ1 I1 w ⟨hz, P, p0, ps, pd⟩ => fun A hA => by
    obtain ⟨lost, hlost⟩ := wiped_pile hl us
    have hlw : (wipe σ us).length = (wipeS ss us).length := by rw [wipe_length, wipeS_length, hl]
    have pm : ∀ (X Y Z : Ps) (p : Sl × Option V), (p :: (X ++ (Y ++ Z))).Perm (X ++ (Y ++ p :: Z)) := fun X Y Z p => by
      rw [← List.append_assoc, ← List.append_assoc]
      exact List.perm_middle.symm
    refine ⟨fun i m H' => m = ds.length - i ∧ i ≤ ds.length ∧ ∃ acc, acc.length ≤ i ∧ Env K Γ H0 H' (ss.zip σ ++ (τ1 ++ ((.own acc, some (.ref A)) :: τ))) ∧ P i acc, ⟨ds.length, by simp, Nat.zero_le _, [], Nat.le_refl _, (I1.pushO hA (Reps.nil)).perm (pm _ _ _ _), p0⟩, ?_⟩
    rintro i m H' ⟨rfl, hi, acc, hacc, I', p⟩
    obtain ⟨w1, w2⟩ := w H0 H' _ I' (fun q hq => List.mem_append_right _ (List.mem_append_left _ hq))
    by_cases hlt : i < ds.length
    · have hd : ds[i]? = some ds[i] := List.getElem?_eq_getElem hlt
      obtain ⟨g1, g2⟩ := w1 i _ hd
      refine .inr ⟨g1, fun H2 => i + 1 ≤ ds.length ∧ ∃ acc, acc.length ≤ i + 1 ∧ Env K Γ H0 H2 (ss.zip σ ++ (τ1 ++ ((.own acc, some (.ref A)) :: τ))) ∧ P (i + 1) acc, ?_, fun x H2 y => ?_⟩
      · rintro H2 ⟨h1, acc, h2, I2, p2⟩
        exact ⟨ds.length - (i + 1), by omega, rfl, h1, acc, h2, I2, p2⟩
      · have J2 := g2 x H2 y
        -- the block's slots; what it wipes lies on the pile
        have J3 : Env K Γ H0 H2 ((.val ds[i], some x) :: ((wipeS ss us).zip (wipe σ us) ++ (lost ++ (τ1 ++ ((.own acc, some (.ref A)) :: τ))))) := by
          have a1 : Env K Γ H0 H2 (ss.zip σ ++ ((.val ds[i], some x) :: (τ1 ++ ((.own acc, some (.ref A)) :: τ)))) := J2.perm List.perm_middle.symm
          have a2 := (hlost K Γ H0 H2 _).mp a1
          refine a2.perm ?_
          rw [← List.append_assoc, ← List.append_assoc (bs := lost)]
          exact List.perm_middle
        have back : ∀ (acc : List D) (ss2 : List Sl) (σ2 : L2.St) (H3 : Hp), σ2.length = ss2.length → wipe σ2 us = wipe (wipe σ us) us → wipeS ss2 us = wipeS (wipeS ss us) us → Env K Γ H0 H3 (ss2.zip σ2 ++ (lost ++ (τ1 ++ ((.own acc, some (.ref A)) :: τ)))) → Env K Γ H0 H3 (ss.zip σ ++ (τ1 ++ ((.own acc, some (.ref A)) :: τ))) := fun acc ss2 σ2 H3 hl2 e1 e2 I3 => by
          obtain ⟨l2, h2⟩ := wiped_pile hl2 us
          have b1 := (h2 K Γ H0 H3 _).mp I3
          have b2 : Env K Γ H0 H3 ((wipeS ss2 us).zip (wipe σ2 us) ++ (lost ++ (τ1 ++ ((.own acc, some (.ref A)) :: τ)))) := (b1.perm (by
            rw [← List.append_assoc]
            exact (List.perm_append_comm.append_right _).trans (by rw [List.append_assoc]))).dropL (qs := l2)
          rw [e1, e2, wipe_wipe, wipeS_wipeS] at b2
          exact (hlost K Γ H0 H3 _).mpr b2
        refine ps i _ acc hd p H0 (wipe σ us) H2 _ x hlw J3 _ fun ss2 σ2 H3 hl2 e1 e2 I2 c => ⟨e1.trans (wipe_wipe σ us), ?_⟩
        refine c H0 σ2 H3 _ hl2 I2 _ fun b H4 I4 c4 => ?_
        cases b with
        | false => exact ⟨hlt, acc, Nat.le_succ_of_le hacc, back acc ss2 σ2 H4 hl2 e1 e2 I4, c4⟩
        | true =>
          refine c4 H0 σ2 H4 _ hl2 I4 _ fun v d H5 I5 c5 => ?_
          have pa : ((.val d, some v) :: (ss2.zip σ2 ++ (lost ++ (τ1 ++ ((Sl.own acc, some (V.ref A)) :: τ)))) : Ps).Perm ((.own acc, some (.ref A)) :: (.val d, some v) :: (ss2.zip σ2 ++ (lost ++ (τ1 ++ τ)))) := by
            refine List.Perm.trans (List.Perm.cons _ ?_) (List.Perm.swap _ _ _)
            rw [← List.append_assoc lost, ← List.append_assoc lost]
            exact (pm _ _ _ _).symm
          have I6 := I5.perm pa
          obtain ⟨ws, hw, rw'⟩ := I6.own List.mem_cons_self
          refine ⟨ws, hw, Nat.lt_of_le_of_lt (by rw [← rw'.length]; exact hacc) (Nat.lt_of_lt_of_le (Nat.lt_of_lt_of_le hlt hz) (by decide)), hlt, acc ++ [d], by simp; exact hacc, ?_, c5⟩
          have rd := I6.val (d := d) (v := v) (List.mem_cons_of_mem _ List.mem_cons_self)
          have I7 := I6.write (rw'.app (Reps.one rd))
          refine back (acc ++ [d]) ss2 σ2 _ hl2 e1 e2 ?_
          have I8 := (I7.perm (List.Perm.swap _ _ _)).drop
          refine I8.perm ?_
          rw [← List.append_assoc lost, ← List.append_assoc lost]
          exact pm _ _ _ _
    · have hi' : i = ds.length := by omega
      subst hi'
      refine .inl ⟨w2, ?_⟩
      have I3 := I'.perm (pm _ _ _ _).symm
      have I4 : Env K Γ H0 H' ((.own acc, some (.ref A)) :: (ss.zip σ ++ τ)) := (I3.perm (by
        have : (((Sl.own acc, some (V.ref A)) :: (ss.zip σ ++ (τ1 ++ τ))) : Ps).Perm (τ1 ++ ((Sl.own acc, some (V.ref A)) :: (ss.zip σ ++ τ))) := by
          refine List.Perm.trans (List.Perm.cons _ ?_) List.perm_middle.symm
          rw [← List.append_assoc, ← List.append_assoc]; exact List.perm_append_comm.append_right _
        exact this)).dropL
      exact q A acc H' I4 (pd acc p)
end
end SQ
namespace SQ
open PySem PySem.Spec PyProof.Rows L2 RZ

/-! ### the same as data of the library -/
mutual
def py : D → PyData
  | .non => .none
  | .bl b => .bool b
  | .int i => .int i
  | .str x => .str x
  | .tup xs => .tuple (pys xs)
  | .lst xs => .list (pys xs)
  | _ => .none
def pys : List D → List PyData
  | [] => []
  | d :: ds => py d :: pys ds
end
mutual
/-- plain data, not too deep -/
def pyk : Nat → D → Bool
  | _, .non => true
  | _, .bl _ => true
  | _, .int _ => true
  | _, .str x => PyData.canLay0 (.str x)
  | n + 1, .tup xs => pyks n xs
  | n + 1, .lst xs => pyks n xs
  | _, _ => false
def pyks : Nat → List D → Bool
  | _, [] => true
  | n, d :: ds => pyk n d && pyks n ds
end
mutual
theorem Rep.dp {K : PySem.W.Frag} {S : Addr → Prop} {H : Hp} : ∀ (n : Nat) (d : D) (v : V), pyk n d = true → Rep K S H d v → Dp K H v (py d)
  | _, .non, v, _, h => by have h : v = .non := h; subst h; exact .non
  | _, .bl b, v, _, h => by have h : v = .bl b := h; subst h; exact .bl b
  | _, .int i, v, _, h => by have h : v = .int i := h; subst h; exact .int i
  | _, .str x, v, _, h => by have h : v = .str x := h; subst h; exact .str x
  | n + 1, .tup xs, v, p, h => by
    obtain ⟨a, vs, e, t, q⟩ := h
    subst e
    exact .tup t (Reps.dp n xs vs p q)
  | n + 1, .lst xs, v, p, h => by
    obtain ⟨a, vs, e, _, t, q⟩ := h
    subst e
    exact .lst (.inl (.inl t)) (Reps.dp n xs vs p q)
theorem Reps.dp {K : PySem.W.Frag} {S : Addr → Prop} {H : Hp} : ∀ (n : Nat) (ds : List D) (vs : List V), pyks n ds = true → Reps K S H ds vs → DpAll K H vs (pys ds)
  | _, [], vs, _, h => by have h : vs = [] := h; subst h; exact .nil
  | n, d :: ds, vs, p, h => by
    obtain ⟨v, ws, e, a, b⟩ := h
    subst e
    have p' : (pyk n d && pyks n ds) = true := p
    rw [Bool.and_eq_true] at p'
    exact .cons (Rep.dp n d v p'.1 a) (Reps.dp n ds ws p'.2 b)
end
mutual
theorem py_shape : ∀ (n : Nat) (d : D), pyk n d = true → (py d).canLay0 = true ∧ (py d).depth ≤ n
  | _, .non, _ => ⟨rfl, Nat.zero_le _⟩
  | _, .bl b, _ => ⟨rfl, Nat.zero_le _⟩
  | _, .int i, _ => ⟨rfl, Nat.zero_le _⟩
  | _, .str x, p => ⟨p, Nat.zero_le _⟩
  | n + 1, .tup xs, p => by
    obtain ⟨a, b⟩ := pys_shape n xs p
    exact ⟨a, Nat.succ_le_succ b⟩
  | n + 1, .lst xs, p => by
    obtain ⟨a, b⟩ := pys_shape n xs p
    exact ⟨a, Nat.succ_le_succ b⟩
theorem pys_shape : ∀ (n : Nat) (ds : List D), pyks n ds = true → PyData.canLayAll0 (pys ds) = true ∧ PyData.depthAll (pys ds) ≤ n
  | _, [], _ => ⟨rfl, Nat.zero_le _⟩
  | n, d :: ds, p => by
    have p' : (pyk n d && pyks n ds) = true := p
    rw [Bool.and_eq_true] at p'
    obtain ⟨a, b⟩ := py_shape n d p'.1
    obtain ⟨a', b'⟩ := pys_shape n ds p'.2
    refine ⟨?_, Nat.max_le.mpr ⟨b, b'⟩⟩
    show (PyData.canLay0 (py d) && PyData.canLayAll0 (pys ds)) = true
    rw [a, a']; rfl
end
theorem py_shaped {d : D} (h : pyk 64 d = true) : SeqAt.shaped (py d) = true := by
  obtain ⟨a, b⟩ := py_shape 64 d h
  show (PyData.canLay0 (py d) && decide ((py d).depth ≤ 64)) = true
  rw [a, decide_eq_true b]; rfl
/-- == of plain data -/
def eqD (x y : D) : Bool := PyData.eqv (py x) (py y)
def eqDs (x y : List D) : Bool := PyData.eqvAll (pys x) (pys y)
@[simp] theorem eqD_int {i j : Int} : eqD (.int i) (.int j) = (i == j) := rfl
@[simp] theorem eqD_bl {i j : Bool} : eqD (.bl i) (.bl j) = (i == j) := rfl
@[simp] theorem eqD_str {i j : Str} : eqD (.str i) (.str j) = (i == j) := rfl
@[simp] theorem eqD_tup {x y : List D} : eqD (.tup x) (.tup y) = eqDs x y := rfl
@[simp] theorem eqD_lst {x y : List D} : eqD (.lst x) (.lst y) = eqDs x y := rfl
@[simp] theorem eqDs_nil : eqDs [] [] = true := rfl
@[simp] theorem eqDs_cons {x y : D} {xs ys : List D} : eqDs (x :: xs) (y :: ys) = (eqD x y && eqDs xs ys) := rfl
@[simp] theorem eqDs_nc {y : D} {ys : List D} : eqDs [] (y :: ys) = false := rfl
@[simp] theorem eqDs_cn {y : D} {ys : List D} : eqDs (y :: ys) [] = false := rfl
theorem eqDs_ints : ∀ {x y : List Int}, eqDs (x.map D.int) (y.map D.int) = decide (x = y)
  | [], [] => by simp
  | [], y :: ys => by simp
  | x :: xs, [] => by simp
  | x :: xs, y :: ys => by
    simp only [List.map_cons, eqDs_cons, eqD_int, eqDs_ints (x := xs) (y := ys), List.cons.injEq]
    by_cases h : x = y <;> by_cases h2 : xs = ys <;> simp [h, h2]
theorem pyks_ints {n : Nat} : ∀ {x : List Int}, pyks n (x.map D.int) = true
  | [] => rfl
  | x :: xs => by
    show (true && pyks n (xs.map D.int)) = true
    rw [pyks_ints]; rfl

/-! ### operators -/
/-- + of ints, texts, tuples, lists -/
def rAddA (K : PySem.W.Frag) : R2 := fun x y H Q => (∃ i j, x = .int i ∧ y = .int j ∧ Q (.int (i + j)) H) ∨ (∃ i j, x = .str i ∧ y = .str j ∧ i.length + j.length ≤ sizeLine ∧ Q (.str (i ++ j)) H) ∨ rCatA K x y H Q ∨ rCat x y H Q
theorem op_addA {X : Cx} : OpR X (binaryOp .Add) (rAddA X.K) := op_add.or (op_add_str.or (op_catA.or op_cat))
def rMulA (K : PySem.W.Frag) : R2 := fun x y H Q => (∃ i j, x = .int i ∧ y = .int j ∧ (CMul i j ∨ CMulW i j) ∧ Q (.int (i * j)) H) ∨ rRepT K x y H Q ∨ rRep x y H Q
theorem op_mulA {X : Cx} : OpR X (binaryOp .Mult) (rMulA X.K) := by
  intro pins s σ H x y v u Q I rx ry h
  rcases h with ⟨i, j, e1, e2, h | h, q⟩ | h | h
  · exact op_mul pins s σ H x y v u Q I rx ry ⟨i, j, e1, e2, h, q⟩
  · exact op_mulW pins s σ H x y v u Q I rx ry ⟨i, j, e1, e2, h, q⟩
  · exact op_repT pins s σ H x y v u Q I rx ry h
  · exact op_rep pins s σ H x y v u Q I rx ry h
/-- ** of ints: a result of at most 2 ^ 27 bits -/
def CPowW (i j : Int) : Prop := 0 ≤ j ∧ (Builtin.Int.intBits i : Int) * j ≤ 2 ^ 27
theorem op_powW {X : Cx} : OpR X (binaryOp .Pow) (rI CPowW fun i j => .int (i ^ j.toNat)) := opI fun _ _ _ _ _ _ _ hc q => pow_int hc.1 hc.2 q
section
variable {K : PySem.W.Frag} {Γ : Cxt} {ss : List Sl} {C : D → Prop} {CO : List D → Prop} {te ta tb : TE} {i j : Int} {xs ys : List D}
theorem wpR_addI (c : C (.int (i + j))) : wpR K (rAddA K) (.int i) (.int j) C := fun S H v w l rx ry Q q => by
  have rx : v = .int i := rx
  have ry : w = .int j := ry
  exact .inl ⟨i, j, rx, ry, q _ _ H (Ext.refl H) (show Rep K S H (.int (i + j)) _ from rfl) c⟩
theorem wpR_addS {x y : Str} (hz : x.length + y.length ≤ 2000000) (c : C (.str (x ++ y))) : wpR K (rAddA K) (.str x) (.str y) C := fun S H v w l rx ry Q q => by
  have e1 : v = .str x := rx
  have e2 : w = .str y := ry
  subst e1 e2
  exact .inr (.inl ⟨x, y, rfl, rfl, Nat.le_trans hz (by decide), q _ (.str _) H (Ext.refl H) rfl c⟩)
theorem wpR_addT (hz : xs.length + ys.length ≤ 100000) (c : C (.tup (xs ++ ys))) : wpR K (rAddA K) (.tup xs) (.tup ys) C := fun S H v w l rx ry Q q => by
  obtain ⟨a, vs, rfl, ta, ra⟩ := rx
  obtain ⟨b, ws, rfl, tb, rb⟩ := ry
  refine .inr (.inr (.inl ⟨a, b, vs, ws, rfl, rfl, ta, tb, by rw [← ra.length, ← rb.length]; exact Nat.le_trans hz (by decide), fun e => ?_, fun _ e => ?_, fun _ _ p hp => ?_⟩))
  · subst e
    have : xs = [] := List.eq_nil_of_length_eq_zero (by rw [ra.length]; rfl)
    subst this
    exact q _ _ H (Ext.refl H) (show Rep K S H (.tup ([] ++ ys)) _ from ⟨b, ws, rfl, tb, rb⟩) c
  · subst e
    have : ys = [] := List.eq_nil_of_length_eq_zero (by rw [rb.length]; rfl)
    subst this
    rw [List.append_nil] at c
    exact q _ _ H (Ext.refl H) (show Rep K S H (.tup xs) _ from ⟨a, vs, rfl, ta, ra⟩) c
  · exact q _ _ _ (Ext.new hp) (show Rep K S _ (.tup (xs ++ ys)) _ from ⟨p, vs ++ ws, rfl, SqT.of upd_same, (ra.app rb).ext (Ext.new hp)⟩) c
theorem wpRO_addL (hz : xs.length + ys.length ≤ 100000) (c : CO (xs ++ ys)) : wpRO K (rAddA K) (.lst xs) (.lst ys) CO := fun S H v w l rx ry Q q => by
  obtain ⟨a, vs, rfl, na, ta, ra⟩ := rx
  obtain ⟨b, ws, rfl, nb, tb, rb⟩ := ry
  exact .inr (.inr (.inr ⟨a, b, vs, ws, rfl, rfl, ta, tb, by rw [← ra.length, ← rb.length]; exact Nat.le_trans hz (by decide), fun p hp => q p (xs ++ ys) _ hp (ra.app rb) c⟩))
/-- a new list as a value -/
theorem wpR_frz {r : R2} {x y : D} (h : wpRO K r x y fun xs => C (.lst xs)) : wpR K r x y C := fun S H v w l rx ry Q q =>
  h S H v w l rx ry Q fun p xs vs hp rr c => q _ _ _ (Ext.new hp) (show Rep K S _ (.lst xs) _ from ⟨p, vs, rfl, l.fresh hp, upd_same, rr.ext (Ext.new hp)⟩) c
theorem wpR_addL (hz : xs.length + ys.length ≤ 100000) (c : C (.lst (xs ++ ys))) : wpR K (rAddA K) (.lst xs) (.lst ys) C := wpR_frz (wpRO_addL hz c)
theorem wpO_op {r : R2} (h : wpE K Γ ta ss fun x => wpE K Γ tb ss fun y => wpRO K r x y CO) : wpO K Γ (tOp r ta tb) ss CO := fun H0 σ H τ hl I Q q =>
  h H0 σ H τ hl I _ fun x dx H1 J1 h1 => h1 H0 σ H1 ((.val dx, some x) :: τ) hl (J1.perm (List.perm_middle.symm)) _ fun y dy H2 J2 h2 => by
    have J3 : Env K Γ H0 H2 (ss.zip σ ++ τ) := (J2.drop.perm List.perm_middle).drop
    have ow : ∀ b, Out Γ (ss.zip σ ++ τ) b → Out Γ ((Sl.val dy, some y) :: (ss.zip σ ++ (Sl.val dx, some x) :: τ)) b := fun b z => z.imp id fun z => by
      show b ∈ owned (ss.zip σ ++ (Sl.val dx, some x) :: τ)
      rw [owned_app] at z ⊢; exact z
    exact h2 (Out Γ (ss.zip σ ++ τ)) H2 x y J3.live ((J2.val (d := dx) (v := x) (List.mem_cons_of_mem _ (List.mem_append_right _ List.mem_cons_self))).less ow) ((J2.val (d := dy) (v := y) List.mem_cons_self).less ow) Q fun p xs vs hp r c => q p xs _ (J3.pushO hp r) c
theorem wpR_subI {f : Int → Int → Int} (c : C (.int (f i j))) : wpR K (rI0 fun i j => .int (f i j)) (.int i) (.int j) C := fun S H v w l rx ry Q q => by
  have rx : v = .int i := rx
  have ry : w = .int j := ry
  exact ⟨i, j, rx, ry, q _ _ H (Ext.refl H) (show Rep K S H (.int (f i j)) _ from rfl) c⟩
theorem wpR_cmpI {f : Int → Int → Bool} (c : C (.bl (f i j))) : wpR K (rI0 fun i j => .bl (f i j)) (.int i) (.int j) C := fun S H v w l rx ry Q q => by
  have rx : v = .int i := rx
  have ry : w = .int j := ry
  exact ⟨i, j, rx, ry, q _ _ H (Ext.refl H) (show Rep K S H (.bl (f i j)) _ from rfl) c⟩
theorem wpR_condI {f : Int → Int → Int} {P : Int → Int → Prop} (h : P i j) (c : C (.int (f i j))) : wpR K (rI P fun i j => .int (f i j)) (.int i) (.int j) C := fun S H v w l rx ry Q q => by
  have rx : v = .int i := rx
  have ry : w = .int j := ry
  exact ⟨i, j, rx, ry, h, q _ _ H (Ext.refl H) (show Rep K S H (.int (f i j)) _ from rfl) c⟩
theorem wpR_mulI (h : CMul i j ∨ CMulW i j) (c : C (.int (i * j))) : wpR K (rMulA K) (.int i) (.int j) C := fun S H v w l rx ry Q q => by
  have rx : v = .int i := rx
  have ry : w = .int j := ry
  exact .inl ⟨i, j, rx, ry, h, q _ _ H (Ext.refl H) (show Rep K S H (.int (i * j)) _ from rfl) c⟩
theorem Reps.flat {S : Addr → Prop} {H : Hp} {vs : List V} (r : Reps K S H xs vs) : ∀ n : Nat, Reps K S H (List.replicate n xs).flatten (List.replicate n vs).flatten
  | 0 => rfl
  | n + 1 => by
    rw [List.replicate_succ, List.replicate_succ, List.flatten_cons, List.flatten_cons]
    exact r.app (Reps.flat r n)
theorem wpR_mulT (hx : xs ≠ []) (h : 2 ≤ j ∧ j ≤ 1000) (hz : xs.length ≤ 1000) (c : C (.tup (List.replicate j.toNat xs).flatten)) : wpR K (rMulA K) (.tup xs) (.int j) C := fun S H v w l rx ry Q q => by
  obtain ⟨a, vs, rfl, ta, ra⟩ := rx
  have ry : w = .int j := ry
  refine .inr (.inl ⟨a, j, vs, rfl, ry, ta, fun e => hx (List.eq_nil_of_length_eq_zero (by rw [ra.length, e]; rfl)), h.1, h.2, by rw [← ra.length]; exact hz, fun p hp => ?_⟩)
  exact q _ _ _ (Ext.new hp) (show Rep K S _ (.tup (List.replicate j.toNat xs).flatten) _ from ⟨p, _, rfl, SqT.of upd_same, (ra.flat _).ext (Ext.new hp)⟩) c
theorem wpRO_mulL (h : 0 ≤ j ∧ j ≤ 100000) (hz : xs.length * j.toNat ≤ 100000) (c : CO (List.replicate j.toNat xs).flatten) : wpRO K (rMulA K) (.lst xs) (.int j) CO := fun S H v w l rx ry Q q => by
  obtain ⟨a, vs, rfl, na, ta, ra⟩ := rx
  have ry : w = .int j := ry
  exact .inr (.inr ⟨a, j, vs, rfl, ry, ta, by omega, by omega, by rw [← ra.length]; exact Nat.le_trans hz (by decide), fun p hp => q p _ _ hp (ra.flat _) c⟩)
theorem wpU_int {f : Int → Int} (c : C (.int (f i))) : wpU K (rU fun i => .int (f i)) (.int i) C := fun S H v l rx Q q => by
  have rx : v = .int i := rx
  exact ⟨i, rx, q _ _ H (Ext.refl H) (show Rep K S H (.int (f i)) _ from rfl) c⟩
/-! ### == and != -/
theorem wpR_eqD {x y : D} (hx : pyk 64 x = true) (hy : pyk 64 y = true) (c : C (.bl (eqD x y))) : wpR K (rEqD K) x y C := fun S H v w l rx ry Q q =>
  ⟨py x, py y, Rep.dp 64 x v hx rx, Rep.dp 64 y w hy ry, py_shaped hx, py_shaped hy, q _ _ H (Ext.refl H) (show Rep K S H (.bl (eqD x y)) _ from rfl) c⟩
theorem wpR_neD {x y : D} (hx : pyk 64 x = true) (hy : pyk 64 y = true) (c : C (.bl (!eqD x y))) : wpR K (rNeD K) x y C := fun S H v w l rx ry Q q =>
  ⟨py x, py y, Rep.dp 64 x v hx rx, Rep.dp 64 y w hy ry, py_shaped hx, py_shaped hy, q _ _ H (Ext.refl H) (show Rep K S H (.bl (!eqD x y)) _ from rfl) c⟩
/-! ### places -/
theorem wpR_ixT {d : D} (h : atI xs i = some d) (c : C d) : wpR K (rIx K) (.tup xs) (.int i) C := fun S H v w l rx ry Q q => by
  obtain ⟨a, vs, rfl, ta, ra⟩ := rx
  have ry : w = .int i := ry
  obtain ⟨k, h1, h2⟩ := Option.bind_eq_some_iff.mp (show (ixN xs.length i).bind (fun j => xs[j]?) = some d from h)
  obtain ⟨z, hz, rz⟩ := ra.get h2
  exact .inr (.inl ⟨a, vs, i, z, rfl, ry, ta, by show (ixN vs.length i).bind (fun j => vs[j]?) = some z; rw [← ra.length, h1]; exact hz, q _ _ H (Ext.refl H) rz c⟩)
theorem wpR_ixL {d : D} (h : atI xs i = some d) (c : C d) : wpR K (rIx K) (.lst xs) (.int i) C := fun S H v w l rx ry Q q => by
  obtain ⟨a, vs, rfl, na, ta, ra⟩ := rx
  have ry : w = .int i := ry
  obtain ⟨k, h1, h2⟩ := Option.bind_eq_some_iff.mp (show (ixN xs.length i).bind (fun j => xs[j]?) = some d from h)
  obtain ⟨z, hz, rz⟩ := ra.get h2
  exact .inl ⟨a, vs, i, z, rfl, ry, .inl (.inl ta), by show (ixN vs.length i).bind (fun j => vs[j]?) = some z; rw [← ra.length, h1]; exact hz, q _ _ H (Ext.refl H) rz c⟩
theorem sql_none {H : Hp} {a : Addr} {xs : List V} (h : SqL K (fun _ => none) a xs) : SqL K H a xs := by
  rcases h with (h | ⟨_, h⟩) | h
  · cases h
  · cases h
  · exact .inr h
theorem wpR_ixS {ns : List Int} {z : Int} (h : atI ns i = some z) (c : C (.int z)) : wpR K (rIx K) (.scr ns) (.int i) C := fun S H v w l rx ry Q q => by
  obtain ⟨a, rfl, ra⟩ := rx
  have ry : w = .int i := ry
  have ra : SqL K H a (ns.map V.int) := by
    rcases ra with ⟨_, t⟩ | t
    · exact .inl t
    · exact sql_none t
  refine .inl ⟨a, _, i, .int z, rfl, ry, ra, ?_, q _ _ H (Ext.refl H) (show Rep K S H (.int z) _ from rfl) c⟩
  obtain ⟨k, h1, h2⟩ := Option.bind_eq_some_iff.mp (show (ixN ns.length i).bind (fun j => ns[j]?) = some z from h)
  show (ixN (ns.map V.int).length i).bind (fun j => (ns.map V.int)[j]?) = some _
  rw [List.length_map, h1]
  simp [h2]
end
end SQ
namespace SQ
open PySem PySem.Spec PyProof.Rows L2 RZ
/-! ### calls of what is built in -/
def bLen (K : PySem.W.Frag) : List V → Hp → VK → Prop := fun xs H Q => ∃ x n, xs = [x] ∧ LenV K x H n ∧ Q (.int n) H
theorem cr_len {X : Cx} : CallR X (.builtin "len") (bLen X.K) := call_len
def bInt : List V → Hp → VK → Prop := fun xs H Q => (∃ i, xs = [.int i] ∧ Q (.int i) H) ∨ ∃ k, xs = [.bl k] ∧ Q (.int (if k then 1 else 0)) H
theorem cr_int {X : Cx} : CallR X (.type "int") bInt := call_int1
def bAbs : List V → Hp → VK → Prop := fun xs H Q => ∃ i, xs = [.int i] ∧ Q (.int (if i < 0 then -i else i)) H
theorem cr_abs {X : Cx} : CallR X (.builtin "abs") bAbs := call_abs
def bMax (K : PySem.W.Frag) : List V → Hp → VK → Prop := fun xs H Q => (∃ i j, xs = [.int i, .int j] ∧ Q (.int (if j > i then j else i)) H) ∨ rMax K xs H Q
theorem cr_maxA {X : Cx} (hc : X.calm = true) : CallR X (.builtin "max") (bMax X.K) := (call_max2 hc).or (cr_max hc)
def bMin (K : PySem.W.Frag) : List V → Hp → VK → Prop := fun xs H Q => (∃ i j, xs = [.int i, .int j] ∧ Q (.int (if j < i then j else i)) H) ∨ rMin K xs H Q
theorem cr_minA {X : Cx} (hc : X.calm = true) : CallR X (.builtin "min") (bMin X.K) := (call_min2 hc).or (cr_min hc)
def bSumT (K : PySem.W.Frag) : List V → Hp → VK → Prop := fun vs H Q => ∃ (a : Addr) (ns : List Int), vs = [V.ref a] ∧ SqT K H a (ns.map V.int) ∧ Q (.int ns.sum) H
theorem cr_sumT {X : Cx} (hc : X.calm = true) : CallR X (.builtin "sum") (bSumT X.K) := by
  intro pins s σ H vs us Q I r h
  obtain ⟨a, ns, rfl, hs, q⟩ := h
  obtain ⟨its, rv, hl, hz⟩ := I.tuple hs
  rw [Vals.ref1 r]
  have hi := rv.ints
  obtain ⟨xs, hx⟩ := hi.allInts.items
  have hn : numsOf its.toArray.toList = ns := by rw [show its.toArray.toList = its from rfl, hi.numsOf]
  have hl' : s.heap.IsTuple a its.toArray := by
    obtain ⟨o, h1, h2, n, h3⟩ := hl
    exact ⟨o, h1, h2, n, h3⟩
  rw [hx] at hl' hn
  rw [nums_intItems] at hn
  refine PySem.W.ktm_sumG (I.ok.hd hc) hl' fun h' tk t' hk => ?_
  refine ⟨.int ns.sum, H, I.kept (t' := tk) hk, ⟨t', ?_⟩, q⟩
  rw [preSum_eq, List.take_of_length_le (by simp), hn]
def bSum (K : PySem.W.Frag) : List V → Hp → VK → Prop := fun xs H Q => rSum K xs H Q ∨ bSumT K xs H Q
theorem cr_sumA {X : Cx} (hc : X.calm = true) : CallR X (.builtin "sum") (bSum X.K) := (cr_sum hc).or (cr_sumT hc)
def bTup (K : PySem.W.Frag) : List V → Hp → VK → Prop := fun xs H Q => ∃ p ys, xs = [.ref p] ∧ ((SqL K H p ys ∧ ∀ l, H l = none → Q (.ref l) (upd H l (.tup ys))) ∨ (SqT K H p ys ∧ Q (.ref p) H))
theorem cr_tup {X : Cx} : CallR X (.type "tuple") (bTup X.K) := call_tuple_of
def bLst (K : PySem.W.Frag) : List V → Hp → VK → Prop := fun xs H Q => ∃ p ys, xs = [.ref p] ∧ (SqL K H p ys ∨ SqT K H p ys) ∧ ∀ l, H l = none → Q (.ref l) (upd H l (.lst ys))
section
variable {K : PySem.W.Frag} {Γ : Cxt} {ss : List Sl} {C : D → Prop} {CO : List D → Prop} {te ta tb : TE} {i j : Int} {xs ys : List D} {b : Bool} {ns : List Int}
theorem reps1 {S : Addr → Prop} {H : Hp} {d : D} {vs : List V} (r : Reps K S H [d] vs) : ∃ v, vs = [v] ∧ Rep K S H d v := by
  obtain ⟨v, ws, rfl, a, b⟩ := r
  have b : ws = [] := b
  subst b
  exact ⟨v, rfl, a⟩
theorem reps2 {S : Addr → Prop} {H : Hp} {d e : D} {vs : List V} (r : Reps K S H [d, e] vs) : ∃ v w, vs = [v, w] ∧ Rep K S H d v ∧ Rep K S H e w := by
  obtain ⟨v, ws, rfl, a, b⟩ := r
  obtain ⟨w, rfl, c⟩ := reps1 b
  exact ⟨v, w, rfl, a, c⟩
theorem wpB_lenT (c : C (.int xs.length)) : wpB K (bLen K) [.tup xs] C := fun S H vs l r Q q => by
  obtain ⟨v, rfl, a, ws, rfl, t, r⟩ := reps1 r
  exact ⟨.ref a, ws.length, rfl, .inr ⟨ws, t, rfl⟩, q _ _ H (Ext.refl H) (show Rep K S H (.int xs.length) _ by rw [r.length]; rfl) c⟩
theorem wpB_lenL (c : C (.int xs.length)) : wpB K (bLen K) [.lst xs] C := fun S H vs l r Q q => by
  obtain ⟨v, rfl, a, ws, rfl, n, t, r⟩ := reps1 r
  exact ⟨.ref a, ws.length, rfl, .inl ⟨ws, .inl (.inl t), rfl⟩, q _ _ H (Ext.refl H) (show Rep K S H (.int xs.length) _ by rw [r.length]; rfl) c⟩
theorem wpB_lenS (c : C (.int ns.length)) : wpB K (bLen K) [.scr ns] C := fun S H vs l r Q q => by
  obtain ⟨v, rfl, a, rfl, ra⟩ := reps1 r
  have ra : SqL K H a (ns.map V.int) := by
    rcases ra with ⟨_, t⟩ | t
    · exact .inl t
    · exact sql_none t
  exact ⟨.ref a, _, rfl, .inl ⟨_, ra, rfl⟩, q _ _ H (Ext.refl H) (show Rep K S H (.int ns.length) _ by rw [List.length_map]; rfl) c⟩
theorem wpB_intI (c : C (.int i)) : wpB K bInt [.int i] C := fun S H vs l r Q q => by
  obtain ⟨v, rfl, r1⟩ := reps1 r
  have r1 : v = .int i := r1
  exact .inl ⟨i, by rw [r1], q _ _ H (Ext.refl H) (show Rep K S H (.int i) _ from rfl) c⟩
theorem wpB_intB (c : C (.int (if b = true then 1 else 0))) : wpB K bInt [.bl b] C := fun S H vs l r Q q => by
  obtain ⟨v, rfl, r1⟩ := reps1 r
  have r1 : v = .bl b := r1
  exact .inr ⟨b, by rw [r1], q _ _ H (Ext.refl H) (show Rep K S H (.int (if b = true then 1 else 0)) _ from rfl) c⟩
theorem wpB_abs (c : C (.int (if i < 0 then -i else i))) : wpB K bAbs [.int i] C := fun S H vs l r Q q => by
  obtain ⟨v, rfl, r1⟩ := reps1 r
  have r1 : v = .int i := r1
  exact ⟨i, by rw [r1], q _ _ H (Ext.refl H) (show Rep K S H (.int (if i < 0 then -i else i)) _ from rfl) c⟩
theorem wpB_max2 (c : C (.int (max i j))) : wpB K (bMax K) [.int i, .int j] C := fun S H vs l r Q q => by
  obtain ⟨v, w, rfl, r1, r2⟩ := reps2 r
  have r1 : v = .int i := r1
  have r2 : w = .int j := r2
  refine .inl ⟨i, j, by rw [r1, r2], q _ _ H (Ext.refl H) (show Rep K S H (.int (max i j)) _ from ?_) c⟩
  show V.int _ = V.int _
  congr 1
  omega
theorem wpB_min2 (c : C (.int (min i j))) : wpB K (bMin K) [.int i, .int j] C := fun S H vs l r Q q => by
  obtain ⟨v, w, rfl, r1, r2⟩ := reps2 r
  have r1 : v = .int i := r1
  have r2 : w = .int j := r2
  refine .inl ⟨i, j, by rw [r1, r2], q _ _ H (Ext.refl H) (show Rep K S H (.int (min i j)) _ from ?_) c⟩
  show V.int _ = V.int _
  congr 1
  omega
theorem wpB_sumL (c : C (.int ns.sum)) : wpB K (bSum K) [.lst (ns.map D.int)] C := fun S H vs l r Q q => by
  obtain ⟨v, rfl, a, ws, rfl, n, t, r⟩ := reps1 r
  rw [Reps.ints.mp r] at t
  exact .inl ⟨a, ns, rfl, .inl (.inl t), q _ _ H (Ext.refl H) (show Rep K S H (.int ns.sum) _ from rfl) c⟩
theorem wpB_sumT (c : C (.int ns.sum)) : wpB K (bSum K) [.tup (ns.map D.int)] C := fun S H vs l r Q q => by
  obtain ⟨v, rfl, a, ws, rfl, t, r⟩ := reps1 r
  rw [Reps.ints.mp r] at t
  exact .inr ⟨a, ns, rfl, t, q _ _ H (Ext.refl H) (show Rep K S H (.int ns.sum) _ from rfl) c⟩
theorem wpB_tupL (c : C (.tup xs)) : wpB K (bTup K) [.lst xs] C := fun S H vs l r Q q => by
  obtain ⟨v, rfl, a, ws, rfl, n, t, r⟩ := reps1 r
  exact ⟨a, ws, rfl, .inl ⟨.inl (.inl t), fun p hp => q _ _ _ (Ext.new hp) (show Rep K S _ (.tup xs) _ from ⟨p, ws, rfl, SqT.of upd_same, r.ext (Ext.new hp)⟩) c⟩⟩
theorem wpB_tupT (c : C (.tup xs)) : wpB K (bTup K) [.tup xs] C := fun S H vs l r Q q => by
  obtain ⟨v, rfl, a, ws, rfl, t, r⟩ := reps1 r
  exact ⟨a, ws, rfl, .inr ⟨t, q _ _ H (Ext.refl H) (show Rep K S H (.tup xs) _ from ⟨a, ws, rfl, t, r⟩) c⟩⟩
theorem wpBO_lstT (c : CO xs) : wpBO K (bLst K) [.tup xs] CO := fun S H vs l r Q q => by
  obtain ⟨v, rfl, a, ws, rfl, t, r⟩ := reps1 r
  exact ⟨a, ws, rfl, .inr t, fun p hp => q p xs ws hp r c⟩
theorem wpBO_lstL (c : CO xs) : wpBO K (bLst K) [.lst xs] CO := fun S H vs l r Q q => by
  obtain ⟨v, rfl, a, ws, rfl, n, t, r⟩ := reps1 r
  exact ⟨a, ws, rfl, .inl (.inl (.inl t)), fun p hp => q p xs ws hp r c⟩
end
/-! ### isinstance -/
def tyName : D → Option String
  | .non => some "NoneType"
  | .bl _ => some "bool"
  | .int _ => some "int"
  | .str _ => some "str"
  | .tup _ => some "tuple"
  | .lst _ => some "list"
  | .dk _ _ => some "dict"
  | _ => none
theorem tyx_of {K : PySem.W.Frag} {S : Addr → Prop} {H : Hp} {d : D} {v : V} {n : String} (h : tyName d = some n) (r : Rep K S H d v) : TyX K H v (.type n) := by
  cases d with
  | non => cases h; have r : v = .non := r; subst r; exact .base .non
  | bl b => cases h; have r : v = .bl b := r; subst r; exact .base (.bl b)
  | int i => cases h; have r : v = .int i := r; subst r; exact .base (.int i)
  | str x => cases h; have r : v = .str x := r; subst r; exact .base (.str x)
  | tup xs =>
    cases h
    obtain ⟨a, vs, rfl, t, _⟩ := r
    rcases t with (t | ⟨o, t⟩) | ⟨o, its, k, h1, h2, _⟩
    · exact .base (.tup t)
    · exact .fTuple t
    · exact .kTuple h1 h2
  | lst xs =>
    cases h
    obtain ⟨a, vs, rfl, _, t, _⟩ := r
    exact .base (.lst t)
  | dk ks ds =>
    cases h
    obtain ⟨a, kws, rfl, _, t, _⟩ := r
    exact .base (.dK t)
  | cell a => cases h
  | scr ns => cases h
  | ty n => cases h
  | ins C ns ds => cases h
def bIsi (K : PySem.W.Frag) : List V → Hp → VK → Prop := rIsi K
theorem wpB_isi {K : PySem.W.Frag} {C : D → Prop} {d : D} {n m : String} {b : Bool} (h : tyName d = some n) (hk : kitB n m = some b) (c : C (.bl b)) : wpB K (bIsi K) [d, .ty m] C := fun S H vs l r Q q => by
  obtain ⟨v, w, rfl, r1, r2⟩ := reps2 r
  have r2 : w = .ty m := r2
  subst r2
  exact ⟨v, .ty m, .type n, .type m, b, rfl, .ty m, tyx_of h r1, kit_ty hk, q _ _ H (Ext.refl H) (show Rep K S H (.bl b) _ from rfl) c⟩
/-! ### a def -/
theorem zip_start {K : PySem.W.Frag} {Γ : Cxt} {H0 H : Hp} : ∀ (ds : List D) (vs : List V) (k : Nat), ds.length = vs.length → Env K Γ H0 H (pile ds vs) → Env K Γ H0 H ((ds.map Sl.val ++ List.replicate k Sl.un).zip (vs.map some ++ List.replicate k none)) := by
  intro ds vs k hl I
  rw [List.zip_append (by simp [hl])]
  have : ∀ k : Nat, Env K Γ H0 H (pile ds vs ++ (List.replicate k Sl.un).zip (List.replicate k (none : Option V))) := by
    intro k
    induction k with
    | zero => simpa using I
    | succ k ih =>
      rw [List.replicate_succ, List.replicate_succ, List.zip_cons_cons]
      exact (ih.pushU none).perm List.perm_middle.symm
  exact this k
theorem run_def {K : PySem.W.Frag} {F : Fn} {vs : List V} {H : Hp} {Q : VK} {E : XK} {N : List Str} {t : TS} (h : spF K F vs H Q E)
    (hb : ∀ (Γ : Cxt) (ds : List D) (C : D → Prop), Γ.E = E → F (sc Γ) ds C Γ.X → wpS K Γ t (ds.map Sl.val ++ List.replicate (N.length - ds.length) .un) { nx := fun _ => C .non, rt := rtV C }) :
    t { nx := fun _ H' => Q .non H', rt := Q } (L2.start N vs) H := by
  obtain ⟨Γ, ds, C, ok, w, r, f, q, x⟩ := h
  have hl := r.length
  have I0 : Env K { Γ with E := E } H H [] := ⟨⟨ok.al, ok.st⟩, w, Rel.refl _ _, List.nodup_nil, fun a z => (by cases z), fun p z => (by cases z), fun x1 cls d H' h1 h2 h3 h4 => x x1 cls d H' h1 h2 h3 h4⟩
  have I1 : Env K { Γ with E := E } H H (pile ds vs) := by
    have : ∀ (ds : List D) (vs : List V), Reps K Γ.S H ds vs → Env K { Γ with E := E } H H (pile ds vs) := by
      intro ds
      induction ds with
      | nil => intro vs r; have r : vs = [] := r; subst r; exact I0
      | cons d ds ih =>
        intro vs r
        obtain ⟨v, ws, rfl, a, b⟩ := r
        have J := ih ws b
        refine J.push (a.less fun b z => ?_)
        rcases z with z | z
        · exact z
        · have : owned (pile ds ws) = [] := owned_pile
          rw [this] at z; cases z
    exact this ds vs r
  have I2 := zip_start ds vs (N.length - ds.length) hl I1
  have hz : L2.start N vs = vs.map some ++ List.replicate (N.length - ds.length) none := by
    unfold L2.start; rw [hl]
  refine hb { Γ with E := E } ds C rfl f H (L2.start N vs) H [] _ (by rw [hz]; simp [hl]) (by rw [hz, List.append_nil]; exact I2) ⟨fun ss σ H' _ I c => ?_, fun v s H' I c => ?_, fun ss σ H' _ I c => c.elim, fun ss σ H' _ I c => c.elim⟩
  · exact q .non .non H' I.rel I.w rfl c
  · cases s with
    | val d => exact q v d H' I.rel I.w ((I.val List.mem_cons_self).less fun a z => .inl z) c
    | un => exact c.elim
    | own xs => exact c.elim
end SQ
namespace SQ
open PySem PySem.Spec PyProof.Rows L2 RZ
/-! ### what is walked: a list or a tuple -/
def iSeq (K : PySem.W.Frag) (te : TE) : TI := fun σ H R => te σ H fun x H1 => ∃ a, x = .ref a ∧ (((∃ xs, SqL K H1 a xs) ∧ R (Itl K a) H1) ∨ ((∃ xs, SqT K H1 a xs) ∧ R (Itt K a) H1))
theorem pi_seq {X : Cx} {tg l : Expr} {te : TE} (he : PE X l te) : PI X tg l (iSeq X.K te) := by
  refine ⟨fun pins s σ H R I h => ?_⟩
  refine thn (he.run pins s σ H _ I h) fun v s1 ⟨x, H1, J, rx, q⟩ => ?_
  obtain ⟨a, ex, q⟩ := q
  rw [ex] at rx
  obtain rfl : v = Value.ref a := rx
  have fp : ∀ b ∈ [s1.heap.objs.size], FpOk X pins H1 b := fun b hb => by
    obtain rfl := List.mem_singleton.mp hb
    exact J.fpOk (Nat.le_refl _) J.fresh
  rcases q with ⟨⟨xs, hq⟩, q⟩ | ⟨⟨xs, hq⟩, q⟩
  · obtain ⟨us, _, hp, _⟩ := J.list hq
    exact wpAny_pyIter_list hp.isList ⟨_, _, _, _, H1, rfl, J.kept (t' := s1.toks) fun b o z => Heap.get?_push_of_some _ z, turn_list a s1.heap.objs.size, ⟨_, Heap.get?_push_size _ rfl, rfl, rfl⟩, fp, q⟩
  · obtain ⟨us, _, hp, _⟩ := J.tuple hq
    obtain ⟨o, h1, h2, n, h3⟩ := hp
    have ht : s1.heap.IsTuple a us.toArray := ⟨o, h1, h2, n, h3⟩
    exact wpAny_pyIter_tuple ht ⟨_, _, _, _, H1, rfl, J.kept (t' := s1.toks) fun b o z => Heap.get?_push_of_some _ z, turn_tuple a s1.heap.objs.size, ⟨_, Heap.get?_push_size _ rfl, rfl, rfl⟩, fp, q⟩
section
variable {K : PySem.W.Frag} {Γ : Cxt} {ss : List Sl} {C : D → Prop} {CO : List D → Prop} {te ta tb : TE} {i j : Int} {xs ys : List D} {b : Bool} {ns : List Int}
theorem wpI_seq {tl : TE} {C : List D → Prop} (h : wpE K Γ tl ss fun d => (∃ ds, d = .lst ds ∧ C ds) ∨ (∃ ds, d = .tup ds ∧ C ds)) : wpI K Γ (iSeq K tl) ss C := fun H0 σ H τ hl I R k =>
  h H0 σ H τ hl I _ fun v d H1 J c => by
    rcases c with ⟨ds, rfl, c⟩ | ⟨ds, rfl, c⟩
    · obtain ⟨a, vs, e, n, t, r⟩ := J.val List.mem_cons_self
      exact ⟨a, e, .inl ⟨⟨vs, .inl (.inl t)⟩, k _ H1 ds [(.val (.lst ds), some v)] (J.perm List.perm_middle.symm) (walks_list (by rw [e])) c⟩⟩
    · obtain ⟨a, vs, e, t, r⟩ := J.val List.mem_cons_self
      exact ⟨a, e, .inr ⟨⟨vs, t⟩, k _ H1 ds [(.val (.tup ds), some v)] (J.perm List.perm_middle.symm) (walks_tup (by rw [e])) c⟩⟩
theorem cr_isi {X : Cx} : CallR X (.builtin "isinstance") (bIsi X.K) := call_isi
theorem op_eqA {X : Cx} (hu : X.A.units + 64 < cLine) : OpR X (compareOp .Eq) (rEqD X.K) := op_eqD hu
theorem op_neA {X : Cx} (hu : X.A.units + 64 < cLine) : OpR X (compareOp .NotEq) (rNeD X.K) := op_neD hu
def bAll (K : PySem.W.Frag) := rAll K
theorem cr_allA {X : Cx} (hc : X.calm = true) : CallR X (.builtin "all") (bAll X.K) := cr_all hc
def bAny (K : PySem.W.Frag) := rAny K
theorem Reps.bls {S : Addr → Prop} {H : Hp} : ∀ {bs : List Bool} {vs : List V}, Reps K S H (bs.map D.bl) vs → vs = bs.map V.bl
  | [], vs, h => h
  | n :: ns, vs, h => by
    obtain ⟨v, us, e, a, b⟩ := h
    have a : v = .bl n := a
    rw [e, a, Reps.bls b]; rfl
theorem wpB_all {bs : List Bool} (c : C (.bl (bs.all id))) : wpB K (bAll K) [.lst (bs.map D.bl)] C := fun S H vs l r Q q => by
  obtain ⟨v, rfl, a, ws, rfl, n, t, r⟩ := reps1 r
  rw [Reps.bls r] at t
  exact ⟨a, bs, rfl, .inl (.inl t), q _ _ H (Ext.refl H) (show Rep K S H (.bl (bs.all id)) _ from rfl) c⟩
theorem wpB_any {bs : List Bool} (c : C (.bl (bs.any id))) : wpB K (bAny K) [.lst (bs.map D.bl)] C := fun S H vs l r Q q => by
  obtain ⟨v, rfl, a, ws, rfl, n, t, r⟩ := reps1 r
  rw [Reps.bls r] at t
  exact ⟨a, bs, rfl, .inl (.inl t), q _ _ H (Ext.refl H) (show Rep K S H (.bl (bs.any id)) _ from rfl) c⟩
end
end SQ
namespace SQ
open PySem PySem.Spec PyProof.Rows L2 RZ
/-! ### sorted of ints, from a list or a tuple, up or down -/
def Downs (b : Bool) (ns : List Int) : Prop := OrdB b ns
section
variable {prog : Program} {w : World} {A : Around} {E : Value → Shared → Prop} {s : Shared}
theorem sort_new {vs : List Value} {ns : List Int} {b : Bool} {h1 : Heap} {kw : List (Str × Value)} {Q : Value → Shared → Prop} (hI : IntsAre vs ns) (hz : vs.length ≤ sizeLine)
    (hk : Builtin.«list.sort» ⟨[.ref h1.objs.size], kw⟩ = if b = true then Builtin.«list.sort» ⟨[.ref h1.objs.size], [(Str.ofString "reverse", .bool true)]⟩ else Builtin.«list.sort» ⟨[.ref h1.objs.size], []⟩)
    (ha : argsOk "list.sort" ⟨[.ref h1.objs.size], kw⟩) (ho : (h1.push (seqObj "list" vs.toArray 0)).get? h1.objs.size = some (seqObj "list" vs.toArray 0))
    (h : ∀ (h' : Heap) (out : List Value) (ns' : List Int) (ep : Nat), (∀ c o, h1.get? c = some o → h'.get? c = some o) → h'.get? h1.objs.size = some (seqObj "list" out.toArray ep) → IntsAre out ns' → ns'.Perm ns → OrdB b ns' → Q .none { s with heap := h' }) :
    wpAny (model prog w) A (call (.builtin "list.sort") [.ref h1.objs.size] kw) Q E { s with heap := h1.push (seqObj "list" vs.toArray 0) } := by
  have old : ∀ (out : Array Value) c o, h1.get? c = some o → (sortedHeap (h1.push (seqObj "list" vs.toArray 0)) h1.objs.size vs out).get? c = some o := fun out c o e => by
    have hlt : c < h1.objs.size := Heap.lt_size e
    rw [sortedHeap_old (Nat.ne_of_lt hlt) (Nat.lt_of_lt_of_le hlt (by rw [Heap.size_push]; exact Nat.le_succ _))]
    exact Heap.get?_push_of_some _ e
  refine wpAny_call_entry_kw slot_list_sort ⟨_, ho, rfl⟩ entry_list_sort ?_ ha
  rw [hk]
  cases b with
  | false =>
    rw [if_neg Bool.false_ne_true]
    refine SrtO.list_sort_ord SrtO.swo_int ho hz (fun h2 => SrtO.ints_sortable hI h2) fun out h1' h2' => ⟨_, rfl, ?_⟩
    obtain ⟨k1, k2, k3⟩ := SrtO.ints_out hI h1' h2'
    obtain ⟨ep, he⟩ := sortedHeap_at (out := out.toArray) ho
    exact h _ out _ ep (old _) he k1 k2 k3
  | true =>
    rw [if_pos rfl]
    refine SrtR.list_sort_ordR (b := true) SrtO.swo_int ho hz (fun h2 => SrtO.ints_sortable hI h2) fun out h1' h2' => ⟨_, rfl, ?_⟩
    obtain ⟨ns', k1, k2, k3⟩ := SrtR.ints_outR (b := true) hI h1' h2'
    obtain ⟨ep, he⟩ := sortedHeap_at (out := if true = true then out.toArray.reverse else out.toArray) ho
    refine h _ out.reverse ns' ep (old _) ?_ ?_ k2 k3
    · rw [he]; simp
    · simpa using k1
/-- the items of a list or a tuple, gathered: the heap is told -/
theorem gather {T : String} {a : Addr} {o : Obj} {vs : Array Value} {n : Nat} {Q : List Value → Shared → Prop} (hT : T = "list" ∨ T = "tuple") (ho : s.heap.get? a = some o) (hc : o.cls = .type T) (hd : o.data = .seq vs n) (hz : vs.size ≤ sizeLine)
    (q : ∀ h1 : Heap, h1.objs.size = s.heap.objs.size + 1 → (∀ b u, s.heap.get? b = some u → h1.get? b = some u) → Q vs.toList { s with heap := h1 }) : wpAny (model prog w) A (collect (.ref a)) Q E s := by
  have hN : (s.heap.push { cls := .type "list", data := .seq ([] : List Value).toArray }).get? s.heap.objs.size = some { cls := .type "list", data := .seq #[] 0 } := Heap.get?_push_size _ rfl
  have hN2 := Heap.get?_update_self (Obj.mapSeq (· ++ vs)) hN rfl
  have last : wpAny (model prog w) A (load s.heap.objs.size >>= fun u => match u.data with
      | .seq xs _ => pure xs.toList
      | _ => unsupported "internal:collect") Q E { s with heap := (s.heap.push { cls := .type "list", data := .seq ([] : List Value).toArray }).update s.heap.objs.size (Obj.mapSeq (· ++ vs)) } := by
    refine wpAny_bind (wpAny_load hN2 (wpAny_pure ?_))
    show Q ((#[] : Array Value) ++ vs).toList _
    rw [show ((#[] : Array Value) ++ vs).toList = vs.toList by simp]
    exact q _ (by rw [Heap.size_update, Heap.size_push]) fun b u hb => (Heap.get?_update_other _ _ (Nat.ne_of_gt (Heap.lt_size hb))).trans (Heap.get?_push_of_some _ hb)
  unfold collect
  apply wpAny_bind
  apply wpAny_runValue
  apply codeAny_builtin F.entry_proto_collect
  rw [Around.under_plainId F.plain_proto_collect _]
  apply wpAny_bind
  refine wpAny_newObj_type ?_
  refine wpAny_pure ⟨plainId_quiet F.plain_list_iadd _, ?_⟩
  apply codeAny_builtin F.entry_list_iadd
  rw [Around.under_plainId F.plain_list_iadd _]
  refine wpAny_mono (wpAny_extend_seq (A := A) (hsz := hz) (R := fun r s' => r = .ok (.ret (.ref s.heap.objs.size)) ∧ s' = { s with heap := (s.heap.push { cls := .type "list", data := .seq ([] : List Value).toArray }).update s.heap.objs.size (Obj.mapSeq (· ++ vs)) })
    (s := { s with heap := s.heap.push { cls := .type "list", data := .seq ([] : List Value).toArray } }) s.heap.objs.size a _ 0 hT hN (Heap.get?_push_of_some _ ho) hc hd ⟨rfl, rfl⟩) ?_ ?_
  · intro fin s' h
    cases fin with
    | done f =>
      obtain ⟨e1, e2⟩ := h
      subst e2
      cases e1
      exact last
    | again c' =>
      refine ⟨h.1, codeAny_mono h.2 ?_⟩
      rintro r s2 ⟨e1, e2⟩
      subst e1 e2
      exact last
  · intro e s' h
    exact absurd h.1 (by simp)
theorem sorted_any {T : String} {a : Addr} {o : Obj} {vs : List Value} {n : Nat} {ns : List Int} {b : Bool} {kw : List (Str × Value)} {Q : Value → Shared → Prop} (hT : T = "list" ∨ T = "tuple")
    (ho : s.heap.get? a = some o) (hc : o.cls = .type T) (hd : o.data = .seq vs.toArray n) (hI : IntsAre vs ns) (hz : vs.length ≤ sizeLine)
    (hk : ∀ c : Addr, Builtin.«list.sort» ⟨[.ref c], kw⟩ = if b = true then Builtin.«list.sort» ⟨[.ref c], [(Str.ofString "reverse", .bool true)]⟩ else Builtin.«list.sort» ⟨[.ref c], []⟩)
    (ha1 : argsOk "sorted" ⟨[.ref a], kw⟩) (ha2 : ∀ c, argsOk "list.sort" ⟨[c], kw⟩)
    (h : ∀ (h' : Heap) (p : Addr) (out : List Value) (ns' : List Int) (ep : Nat), (∀ c o, s.heap.get? c = some o → h'.get? c = some o) → s.heap.objs.size ≤ p → h'.get? p = some (seqObj "list" out.toArray ep) → IntsAre out ns' → ns'.Perm ns → OrdB b ns' → Q (.ref p) { s with heap := h' }) :
    wpAny (model prog w) A (call (.builtin "sorted") [.ref a] kw) Q E s := by
  refine call_function_entry_kw kind_sorted plain_sorted entry_sorted ha1 ?_
  unfold Builtin.«sorted»
  refine wpAny_bind (m := checkCount "sorted" 1 1 _) (wpAny_pure ?_)
  refine wpAny_bind (gather hT ho hc hd (by rw [List.size_toArray]; exact hz) fun h1 z1 k1 => ?_)
  refine wpAny_bind (wpAny_newList ?_ (by simpa using hz))
  have hs1 : s.heap.objs.size ≤ h1.objs.size := by omega
  refine wpAny_bind (wpAny_holding (sort_new (b := b) hI hz (hk _) (ha2 _) (Heap.get?_push_size _ rfl) fun h' out ns' ep k2 he h1' h2' h3' => ?_))
  exact wpAny_pure ⟨_, rfl, h h' _ out ns' ep (fun c o e => k2 c o (k1 c o e)) hs1 he h1' h2' h3'⟩
end
section
variable {X : Cx}
/-- sorted(xs) of ints, xs a list or a tuple -/
def bSrt (K : PySem.W.Frag) (b : Bool) : List V → Hp → VK → Prop := fun vs H Q => ∃ (a : Addr) (ns : List Int), vs = [V.ref a] ∧ (SqL K H a (ns.map V.int) ∨ SqT K H a (ns.map V.int)) ∧
  ∀ (ns' : List Int) (p : Addr), ns'.Perm ns → OrdB b ns' → H p = none → Q (.ref p) (upd H p (.lst (ns'.map V.int)))
theorem sorted_core {b : Bool} {kw : List (Str × Value)} {pins : List (Addr × Obj)} {s : Shared} {σ : L2.St} {H : Hp} {a : Addr} {ns : List Int} {Q : VK} (I : Inv X pins σ H s) (hs : SqL X.K H a (ns.map V.int) ∨ SqT X.K H a (ns.map V.int))
    (hk : ∀ c : Addr, Builtin.«list.sort» ⟨[.ref c], kw⟩ = if b = true then Builtin.«list.sort» ⟨[.ref c], [(Str.ofString "reverse", .bool true)]⟩ else Builtin.«list.sort» ⟨[.ref c], []⟩)
    (ha1 : argsOk "sorted" ⟨[.ref a], kw⟩) (ha2 : ∀ c, argsOk "list.sort" ⟨[c], kw⟩)
    (q : ∀ (ns' : List Int) (p : Addr), ns'.Perm ns → OrdB b ns' → H p = none → Q (.ref p) (upd H p (.lst (ns'.map V.int)))) : wpAny (model X.prog X.w) X.A (call (.builtin "sorted") [.ref a] kw) (EP X pins σ Q) X.xe s := by
  obtain ⟨T, o, its, n, hT, ho, hc, hd, rv, hz⟩ : ∃ (T : String) (o : Obj) (its : List Value) (n : Nat), (T = "list" ∨ T = "tuple") ∧ s.heap.get? a = some o ∧ o.cls = .type T ∧ o.data = .seq its.toArray n ∧ Vals (ns.map V.int) its ∧ its.length ≤ sizeLine := by
    rcases hs with hs | hs
    · obtain ⟨its, rv, hl, hz⟩ := I.list hs
      obtain ⟨o, h1, h2, n, h3⟩ := hl.isList
      exact ⟨"list", o, its, n, .inl rfl, h1, h2, h3, rv, by rw [← rv.length]; exact hz⟩
    · obtain ⟨its, rv, hl, hz⟩ := I.tuple hs
      obtain ⟨o, h1, h2, n, h3⟩ := hl
      exact ⟨"tuple", o, its, n, .inr rfl, h1, h2, h3, rv, by rw [← rv.length]; exact hz⟩
  refine sorted_any hT ho hc hd rv.ints hz hk ha1 ha2 fun h' p out ns' ep kp hp he k1 k2 k3 => ?_
  have hl : (ns'.map V.int).length ≤ sizeLine := by
    rw [List.length_map, k2.length_eq, ← List.length_map (f := V.int), rv.length]; exact hz
  exact ⟨.ref p, upd H p (.lst (ns'.map V.int)), I.laid (t' := s.toks) kp hp ⟨hl, out, ep, vals_of_ints k1, he⟩, rfl, q ns' p k2 k3 (I.hok.fresh hp)⟩
theorem cr_srt : CallR X (.builtin "sorted") (bSrt X.K false) := by
  intro pins s σ H vs us Q I r h
  obtain ⟨a, ns, rfl, hs, q⟩ := h
  rw [Vals.ref1 r]
  exact sorted_core (b := false) I hs (fun c => by rw [if_neg Bool.false_ne_true]) (args_sorted1 _) (fun c => args_list_sort c) q
def bSrtR (K : PySem.W.Frag) : List V → List V → Hp → VK → Prop := fun vs zs H Q => zs = [.bl true] ∧ bSrt K true vs H Q
theorem cr_srtR : CallRK X (.builtin "sorted") [Str.ofString "reverse"] (bSrtR X.K) := by
  intro pins s σ H vs zs us ws Q I r rz h
  obtain ⟨rfl, a, ns, rfl, hs, q⟩ := h
  rw [Vals.ref1 r]
  obtain ⟨w1, rfl, e1⟩ := vals1 rz
  obtain rfl : w1 = Value.bool true := e1
  refine sorted_core (b := true) I hs (fun c => ?_) (args_sorted_rev _ _) (fun c => args_list_sort_rev _ _) q
  rw [if_pos rfl]; rfl
end
section
variable {K : PySem.W.Frag} {Γ : Cxt} {ss : List Sl} {C : D → Prop} {CO : List D → Prop} {te ta tb : TE} {ns : List Int}
theorem srt_core {b : Bool} {d : D} (hd : d = .lst (ns.map D.int) ∨ d = .tup (ns.map D.int)) (c : ∀ ns' : List Int, ns'.Perm ns → OrdB b ns' → CO (ns'.map D.int)) : wpBO K (bSrt K b) [d] CO := fun S H vs l r Q q => by
  obtain ⟨v, rfl, r1⟩ := reps1 r
  rcases hd with rfl | rfl
  · obtain ⟨a, ws, rfl, n, t, r⟩ := r1
    rw [Reps.ints.mp r] at t
    exact ⟨a, ns, rfl, .inl (.inl (.inl t)), fun ns' p h1 h2 hp => q p _ _ hp (Reps.ints.mpr rfl) (c ns' h1 h2)⟩
  · obtain ⟨a, ws, rfl, t, r⟩ := r1
    rw [Reps.ints.mp r] at t
    exact ⟨a, ns, rfl, .inr t, fun ns' p h1 h2 hp => q p _ _ hp (Reps.ints.mpr rfl) (c ns' h1 h2)⟩
theorem wpBO_srtL (c : ∀ ns' : List Int, ns'.Perm ns → ns'.Pairwise (· ≤ ·) → CO (ns'.map D.int)) : wpBO K (bSrt K false) [.lst (ns.map D.int)] CO := srt_core (.inl rfl) fun ns' h1 h2 => c ns' h1 (by simpa [OrdB] using h2)
theorem wpBO_srtT (c : ∀ ns' : List Int, ns'.Perm ns → ns'.Pairwise (· ≤ ·) → CO (ns'.map D.int)) : wpBO K (bSrt K false) [.tup (ns.map D.int)] CO := srt_core (.inr rfl) fun ns' h1 h2 => c ns' h1 (by simpa [OrdB] using h2)
/-- a call with one keyword -/
theorem wpO_srtR {ta : TA} (h : wpA K Γ ta ss fun ds => ∃ ns : List Int, (ds = [.lst (ns.map D.int)] ∨ ds = [.tup (ns.map D.int)]) ∧ ∀ ns' : List Int, ns'.Perm ns → ns'.Pairwise (· ≥ ·) → CO (ns'.map D.int)) :
    wpO K Γ (tCKw (bSrtR K) ta (tCons (tC (.bl true)) tNil)) ss CO := fun H0 σ H τ hl I Q q =>
  h H0 σ H τ hl I _ fun vs ds H1 hd J ⟨ns, hx, c⟩ => by
    have key : ∀ d, ds = [d] → (d = .lst (ns.map D.int) ∨ d = .tup (ns.map D.int)) → bSrt K true vs H1 Q := fun d e hd' => by
      subst e
      exact srt_core (K := K) (b := true) (CO := CO) hd' (fun ns' h1 h2 => c ns' h1 (by simpa [OrdB] using h2)) (Out Γ (ss.zip σ ++ τ)) H1 vs (J.dropL).live (J.piled hd) Q fun p xs ws hp r c => q p xs _ (J.dropL.pushO hp r) c
    refine ⟨rfl, ?_⟩
    rcases hx with hx | hx
    · exact key _ hx (.inl rfl)
    · exact key _ hx (.inr rfl)
end
end SQ
namespace SQ
open PySem PySem.Spec PyProof.Rows L2 RZ
/-! ### try with clauses that name the exception, or don't -/
/-- a clause: the class it names, the slot of its name (if it has one), its suite's reading -/
structure Cls3 where
  c : Value
  i : Option Nat
  ts : Addr → Value → Option Addr → TS
/-- what follows a suite whose clause has a name: the name is unbound -/
def unb (i : Nat) (D : Ends) : Ends := { nx := fun σ' H' => D.nx (σ'.set i none) H', rt := D.rt, bk := fun σ' H' => D.bk (σ'.set i none) H', ct := fun σ' H' => D.ct (σ'.set i none) H' }
def suiteW (q : Cls3) (D : Ends) (cls : Value) (d : Option Addr) (σ : L2.St) (H : Hp) : Prop := ∀ a, H a = none → match q.i with
  | none => q.ts a cls d D σ H
  | some i => q.ts a cls d (unb i D) (σ.set i (some (.ref a))) H
def wMix (K : PySem.W.Frag) (Wo : WX) (D : Ends) : List Cls3 → WX
  | [] => Wo
  | q :: r => fun cls d σ H => ∃ b, PySem.W.exmOne K cls q.c = some b ∧ (b = true → suiteW q D cls d σ H) ∧ (b = false → wMix K Wo D r cls d σ H)
abbrev SuiteOk (X : Cx) (sts : List Stmt) (ts : Addr → Value → Option Addr → TS) : Prop := ∀ (a : Addr) (oe : Obj) (cls : Value) (d : Option Addr) (pn : List (Addr × Obj)), Zc cls d oe → (∃ vs, oe.data = .fields vs) → PSs (X.suite a ((a, oe) :: pn)) sts (ts a cls d)
inductive Clauses (X : Cx) : List ExceptHandler → List Cls3 → Prop
  | nil : Clauses X [] []
  | bare {x : Str} {c : Value} {ts : Addr → Value → Option Addr → TS} {s0 : Stmt} {sts : List Stmt} {p1 p2 : Pos} {hs : List ExceptHandler} {l : List Cls3} (hc : Names X x c) (k : SuiteOk X (s0 :: sts) ts) (r : Clauses X hs l) :
      Clauses X (.ExceptHandler (some (.Name x p1)) none (s0 :: sts) p2 :: hs) (⟨c, none, ts⟩ :: l)
  | named {x n : Str} {i : Nat} {c : Value} {ts : Addr → Value → Option Addr → TS} {s0 : Stmt} {sts : List Stmt} {p1 p2 : Pos} {hs : List ExceptHandler} {l : List Cls3} (hc : Names X x c) (hi : X.N[i]? = some n) (hl : X.env.kindOf n = some .local) (k : SuiteOk X (s0 :: sts) ts) (r : Clauses X hs l) :
      Clauses X (.ExceptHandler (some (.Name x p1)) (some n) (s0 :: sts) p2 :: hs) (⟨c, some i, ts⟩ :: l)
section
variable {X : Cx} {pins pinsI : List (Addr × Obj)} {D : Ends} {Wo : WX} {a : Addr} {B : Heap} {sI s' : Shared} {σ : L2.St} {H : Hp} {cls : Value} {d : Option Addr} {h3 : Heap}
/-- an exception that has landed in its frame -/
structure Landed (X : Cx) (pins : List (Addr × Obj)) (a : Addr) (B : Heap) (sI s' : Shared) (σ : L2.St) (H : Hp) (cls : Value) (d : Option Addr) (h3 : Heap) : Prop where
  ok : X.Ok
  frame : X.env.frame = some X.env.locals
  stack : X.stack = X.env :: X.outer
  I : Inv X pins σ H sI
  nb : ∀ b o, sI.heap.get? b = some o → b ∉ frs X.stack → B.get? b = some o
  up : sI.heap.UpToSlots h3
  fl : HandSPX.FlyingZ B (X.env :: X.outer) a (Zc cls d) h3
  na : H a = none
  os : s'.os = sI.os
  ag : AllBare s'.gens
theorem Landed.inv (L : Landed X pins a B sI s' σ H cls d h3) : Inv X pins σ H { s' with heap := h3 } := L.I.landed L.nb L.fl.1 L.up L.os L.ag
theorem Landed.apart (L : Landed X pins a B sI s' σ H cls d h3) : a ≠ X.env.locals ∧ a ∉ X.fs := by
  obtain ⟨oe, vs, he, hz, hd⟩ := L.fl.there
  have nf : a ∉ frs (X.env :: X.outer) := fun hm => by
    obtain ⟨_, o', e', hnf⟩ := L.fl.2.2.1.mem hm
    rw [he] at e'
    cases e'
    exact hnf _ hd
  refine ⟨fun z => nf (List.mem_filterMap.mpr ⟨X.env, List.mem_cons_self, by rw [L.frame, z]⟩), fun hm => ?_⟩
  obtain ⟨e, he', q⟩ := List.mem_filterMap.mp hm
  exact nf (List.mem_filterMap.mpr ⟨e, List.mem_cons_of_mem _ he', q⟩)
theorem Landed.again {h4 : Heap} (L : Landed X pins a B sI s' σ H cls d h3) (f : HandSPX.FlyingZ B (X.env :: X.outer) a (Zc cls d) h4) (u : h3.UpToSlots h4) : Landed X pins a B sI s' σ H cls d h4 :=
  { L with up := L.up.trans u, fl := f }
/-- the clauses, one after the other -/
theorem clauses_run (hN : X.N.Nodup) (tk : Takes X Wo) : ∀ {hs : List ExceptHandler} {l : List Cls3}, Clauses X hs l → Landed X pins a B sI s' σ H cls d h3 → wMix X.K Wo D l cls d σ H →
    wpAny (model X.prog X.w) X.A (handleBy (.ref a) X.env hs) (SP X pins D) X.xe { s' with heap := h3 } := by
  intro hs l k
  -- a clause's test
  have test : ∀ {x : Str} {c : Value} {b : Bool} {p1 : Pos} {Q : Flow → Shared → Prop} {fb : Sem Bool → Sem Flow} (_ : Names X x c) (_ : Landed X pins a B sI s' σ H cls d h3) {R F : Value → Shared → Prop},
      R c { s' with heap := h3 } → wpAny (model X.prog X.w) (X.A.mark (some (.ref a))) (eval (.Name x p1) X.env) R F { s' with heap := h3 } := by
    intro x c b p1 Q fb hc L R F q
    obtain ⟨oe, vs, he, hz, hd⟩ := L.fl.there
    have S := L.inv.suite he hd L.na L.apart.1 L.apart.2
    obtain ⟨hg, hdb, hm | ⟨hm, hv, hnn⟩⟩ := hc
    · exact ld_glob (X := X.suite a ((a, oe) :: (X.pn ++ pins))) S hg hm q hdb
    · exact ld_blt (X := X.suite a ((a, oe) :: (X.pn ++ pins))) S hg hm hv q hnn hdb
  have looks : ∀ {c : Value} {b : Bool}, Landed X pins a B sI s' σ H cls d h3 → PySem.W.exmOne X.K cls c = some b → PySem.W.Looks (model X.prog X.w) h3 (excMatches (.ref a) c) b := fun {c b} L hb =>
    PySem.W.exm_one (L.inv.kIn) (fun A Q E s k q => by
      obtain ⟨oe, vs, he, hz, hd⟩ := L.fl.there
      exact wpAny_typeOf_ref (k _ _ he) (by rw [hz.1]; exact q)) hb
  induction k with
  | nil =>
    intro L w
    refine wpAny_handleBy_nil ?_
    have fl := L.fl
    obtain ⟨k1, k2, k3, oe, vs, T, oT, ts', he, hz, hd, h1, hr⟩ := fl
    have go : wpAny (model X.prog X.w) X.A (setFlight (.ref a) X.env.frame) (fun _ s4 => wpAny (model X.prog X.w) X.A (throw (.ref a) : Sem Flow) (SP X pins D) X.xe s4) X.xe { s' with heap := h3 } := by
      rw [L.frame]
      refine HandSPX.setFlight_upZ L.fl fun h4 hh4 up4 => wpAny_throw (tk _ _ ?_)
      exact ⟨a, B, sI, pins, σ, H, cls, d, rfl, L.I, L.nb, L.up.trans up4, .inr (.inr (by rw [L.stack]; exact hh4)), L.na, L.os, L.ag, w⟩
    unfold PySem.passOn
    refine wpAny_bind (wpAny_field he hd h1 ?_)
    rw [if_neg (by simp : ¬ ((Value.ref T == Value.none) = true))]
    first
      | exact wpAny_bind (wpAny_pure (wpAny_bind go))
      | exact wpAny_bind go
  | @bare x c ts s0 sts p1 p2 hs l hc k r ih =>
    intro L w
    obtain ⟨b, hb, hy, hn⟩ := w
    refine wpAny_handleBy_cons (codeAny_handlers_test ?_) (by intro q; cases q)
    refine test (b := b) (Q := SP X pins D) (fb := fun _ => pure .next) hc L ((looks L hb).here ?_)
    cases b with
    | false => exact ih L (hn rfl)
    | true =>
      refine codeAny_handlers_suite ?_
      refine HandSPX.lands_againZ L.fl fun h4 fl4 up4 => ?_
      have L4 := L.again fl4 up4
      obtain ⟨oe, vs, he, hz, hd⟩ := L4.fl.there
      have S4 := L4.inv.suite he hd L4.na L4.apart.1 L4.apart.2
      refine wpAny_mono ((k a oe cls d (X.pn ++ pins) hz ⟨_, hd⟩).run [] _ _ H D S4 (hy rfl a L.na)) (fun f s6 q6 => ?_) (fun _ _ z => z.elim)
      cases f with
      | ret u =>
        obtain ⟨v6, σ6, H6, S6, r6, q⟩ := q6
        exact ⟨v6, σ6, H6, S6.unsuite L.ok, r6, q⟩
      | next =>
        obtain ⟨σ6, H6, S6, q⟩ := q6
        exact ⟨σ6, H6, S6.unsuite L.ok, q⟩
      | brk =>
        obtain ⟨σ6, H6, S6, q⟩ := q6
        exact ⟨σ6, H6, S6.unsuite L.ok, q⟩
      | cont =>
        obtain ⟨σ6, H6, S6, q⟩ := q6
        exact ⟨σ6, H6, S6.unsuite L.ok, q⟩
  | @named x n i c ts s0 sts p1 p2 hs l hc hi hl k r ih =>
    intro L w
    obtain ⟨b, hb, hy, hn⟩ := w
    refine wpAny_handleBy_cons (codeAny_handlers_test ?_) (by intro q; cases q)
    refine test (b := b) (Q := SP X pins D) (fb := fun _ => pure .next) hc L ((looks L hb).here ?_)
    cases b with
    | false => exact ih L (hn rfl)
    | true =>
      refine codeAny_handlers_suite_as ?_
      refine HandSPX.lands_againZ L.fl fun h4 fl4 up4 => ?_
      have L4 := L.again fl4 up4
      obtain ⟨oe, vs, he, hz, hd⟩ := L4.fl.there
      have S4 := L4.inv.suite he hd L4.na L4.apart.1 L4.apart.2
      refine store_ok (X := X.suite a ((a, oe) :: (X.pn ++ pins))) (v := .ref a) S4 hN hi (.inl hl) rfl (fun s5 S5 => ?_) (.inr hl)
      refine wpAny_mono ((k a oe cls d (X.pn ++ pins) hz ⟨_, hd⟩).run [] s5 _ H (unb i D) S5 (hy rfl a L.na)) (fun f s6 q6 => ?_) (fun _ _ z => z.elim)
      have fin : ∀ {σ6 : L2.St} {H6 : Hp} {Q : Shared → Prop}, Inv (X.suite a ((a, oe) :: (X.pn ++ pins))) [] σ6 H6 s6 → (∀ s7, Inv X pins (σ6.set i none) H6 s7 → Q s7) →
          wpAny (model X.prog X.w) X.A (do bindName X.env n .none; unbindBehindTheSuite X.env n p2) (fun _ s7 => Q s7) X.xe s6 := fun S6 hq => gone_ok (S6.unsuite L.ok) hN hi hl hq
      cases f with
      | ret u =>
        obtain ⟨v6, σ6, H6, S6, r6, q⟩ := q6
        exact fin S6 fun s7 J7 => ⟨_, _, _, J7, r6, q⟩
      | next =>
        obtain ⟨σ6, H6, S6, q⟩ := q6
        exact fin S6 fun s7 J7 => ⟨_, _, J7, q⟩
      | brk =>
        obtain ⟨σ6, H6, S6, q⟩ := q6
        exact fin S6 fun s7 J7 => ⟨_, _, J7, q⟩
      | cont =>
        obtain ⟨σ6, H6, S6, q⟩ := q6
        exact fin S6 fun s7 J7 => ⟨_, _, J7, q⟩
theorem ps_try_mix {body : List Stmt} {h0 : ExceptHandler} {hs : List ExceptHandler} {l : List Cls3} {pos : Pos} {tb : WX → TS} (hst : X.stack = X.env :: X.outer) (hf : X.env.frame = some X.env.locals) (hN : X.N.Nodup) (tk : Takes X Wo)
    (hb : ∀ (W : WX) (pn : List (Addr × Obj)) (xe : Value → Shared → Prop), Takes (X.tr pn xe) W → PassesOwn (model X.prog X.w) X.A X.env xe → PSs (X.tr pn xe) body (tb W))
    (hh : Clauses X (h0 :: hs) l) : PS X (.Try body (h0 :: hs) [] [] pos) (fun D σ H => tb (wMix X.K Wo D l) D σ H) := by
  refine ⟨fun pins s σ H D I h => ?_⟩
  have ok := I.ok
  have hfr : X.A.frames = some (X.env :: X.outer) := by rw [ok.frames, hst]
  apply wpAny_Try_except
  have run := (hb (wMix X.K Wo D l) (X.pn ++ pins) (fun e s₁ => wpAny (model X.prog X.w) X.A (noteFrame e X.env) (fun _ s₂ => wpAny (model X.prog X.w) X.A (setFlight e none) (fun _ s₃ =>
    wpAny (model X.prog X.w) X.A (handleBy e X.env (h0 :: hs)) (SP X pins D) X.xe s₃) X.xe s₂) X.xe s₁) (fun u s' xx => by
      obtain ⟨a, B, sI, pins', σ', H', cls, d, rfl, J', nb, up, sky, na, os, ag, w⟩ := xx
      have sky' : Sky B (X.env :: X.outer) a (Zc cls d) X.env.locals s'.heap := by rw [← hst]; exact sky
      show wpAny (model X.prog X.w) X.A (noteFrame (.ref a) X.env) _ _ _
      exact Sky.land Zc.steady hfr hf sky' fun h3 fl3 up3 => clauses_run hN tk hh ⟨ok, hf, hst, J'.ofTry ok, nb, up.trans up3, fl3, na, os, ag⟩ w) PassesOwn.looking).run [] s σ H D (I.toTry _) h
  refine wpAny_mono run (fun f s1 q => ?_) fun e s1 he => he
  cases f with
  | ret u =>
    obtain ⟨v, σ', H', J', r, q⟩ := q
    exact ⟨v, σ', H', J'.ofTry ok, r, q⟩
  | next =>
    obtain ⟨σ', H', J', q⟩ := q
    exact wpAny_execs_nil ⟨σ', H', J'.ofTry ok, q⟩
  | brk =>
    obtain ⟨σ', H', J', q⟩ := q
    exact ⟨σ', H', J'.ofTry ok, q⟩
  | cont =>
    obtain ⟨σ', H', J', q⟩ := q
    exact ⟨σ', H', J'.ofTry ok, q⟩
end
end SQ
/-! an own error whose __init__ keeps one value, over any base -/
namespace SQ
namespace Ow
open PySem PySem.W PySem.Calls PyProof.Rows PySem.HandSPX Builtin Builtin.ObjectAttr
def iA (fl : Str) (p1 p2 : Pos) : Arguments := { posonlyargs := [], args := [{ arg := "self", annotation := none, pos := p1 }, { arg := fl, annotation := none, pos := p2 }], vararg := none, kwonlyargs := [], kw_defaults := [], kwarg := none, defaults := [] }
def iB (fl : Str) (q1 q2 q3 q4 : Pos) : List Stmt := [.Assign [.Attribute (.Name "self" q1) fl q2] (.Name fl q3) q4]
def iS (fl : Str) : Scope := { kind := .function, names := [(PySem.Str.ofString "self", .local), (fl, .local)], isGenerator := false, isCoroutine := false, more := [] }
structure Txt1 (K : Frag) (mg : Str → Option Value) (x fl : Str) (C fI : Addr) (newId : String) (tl : List Value) : Prop where
  gC : mg x = some (.ref C)
  ini : excInitIn K C tl newId = true
  ovr : excOver K C tl = true
  tak : takerIn K C fl = some none
  sa : findIn K (.ref C) "__setattr__" = some (some (.builtin "object.__setattr__"))
  ga : findIn K (.ref C) "__getattribute__" = some (some (.builtin "BaseException.__getattribute__"))
  gg : findIn K (.ref C) "__getattr__" = some none
  noN : findIn K (.ref C) fl = some none
  iC : findIn K (.ref C) "__init__" = some (some (.ref fI))
  tC : typeIn K (.ref fI) = some (.type "function")
  kC : keepIn K (.ref C) = true
  exC : subIn K (.ref C) (.type "BaseException") = some true
  tyC : typeIn K (.ref C) = some (.type "type")
  hdC : hasDictIn K C = true
  fn : ∃ (oc : Value) (od : Option Addr) (doc pm : Value) (an : Option Addr) (cdv ct : Value) (osl : Array (Option Value)) (qn : Str) (p1 p2 q1 q2 q3 q4 : Pos),
    K.lookup fI = some ⟨oc, od, .func (fnOf "__init__" qn (iA fl p1 p2) (iB fl q1 q2 q3 q4) (iS fl) .none .none doc pm an cdv ct), osl⟩ ∧ codeIn K cdv qn = true
/-- what is read off a field's name -/
structure Nm (fl : Str) : Prop where
  bd : ∀ (qn : Str) (p1 p2 q1 q2 q3 q4 : Pos) (doc pm : Value) (an : Option Addr) (cdv ct a v : Value), bindArgs (fnOf "__init__" qn (iA fl p1 p2) (iB fl q1 q2 q3 q4) (iS fl) .none .none doc pm an cdv ct) ⟨[a, v], []⟩ = pure [(("self" : Str), a), ((fl : Str), v)]
  al : ∀ a v : Value, ([(("self" : Str), a), (fl, v)].all fun y => List.lookup y.fst (iS fl).names == some NameKind.local || List.lookup y.fst (iS fl).names == some NameKind.cell) = true
  k1 : ∀ (qn : Str) (L a : Addr) (cd : Value), (envOfC qn (iS fl) L a cd).kindOf "self" = some .local
  k2 : ∀ (qn : Str) (L a : Addr) (cd : Value), (envOfC qn (iS fl) L a cd).kindOf fl = some .local
  l1 : ∀ (qn : Str) (L f : Addr) (cd a v : Value), bindL (envOfC qn (iS fl) L f cd).kindOf [(("self" : Str), a), (fl, v)] (fun _ => none) "self" = some a
  l2 : ∀ (qn : Str) (L f : Addr) (cd a v : Value), bindL (envOfC qn (iS fl) L f cd).kindOf [(("self" : Str), a), (fl, v)] (fun _ => none) fl = some v
  db : (fl == ("__debug__" : Str)) = false
theorem nm_value : Nm "value" := ⟨fun _ _ _ _ _ _ _ _ _ _ _ _ _ _ => rfl, fun _ _ => rfl, fun _ _ _ _ => rfl, fun _ _ _ _ => rfl, fun _ _ _ _ _ _ => by first | rfl | with_unfolding_all rfl | kernel_rfl, fun _ _ _ _ _ _ => by first | rfl | with_unfolding_all rfl | kernel_rfl, rfl⟩
theorem one_size (v : Value) : [v].length ≤ sizeLine := by rw [sizeLine_eq]; exact (by decide : 1 ≤ 16777216)
theorem ldC {M : Model} {s : Shared} {name : Str} {scope : Scope} {L a : Addr} {cd : Value} {m : Str → Option Value} {x : Str} {pos : Pos} {v : Value} {Q : Value → Shared → Prop} {A : Around} {E : Value → Shared → Prop} (hn : s.heap.Ns L m) (hv : m x = some v) (h : Q v s)
    (hl : (envOfC name scope L a cd).kindOf x = some .local) (hd : (x == ("__debug__" : Str)) = false) (hk : scope.kind = .function := by rfl) :
    wpAny M A (eval (.Name x pos) (envOfC name scope L a cd)) Q E s := wpAny_Name (wpAny_loadName_local hk hl hn hv h) hd
structure InitEnd (h h' : Heap) (fl : Str) (x C dx t1 : Addr) (v : Value) : Prop where
  keep : ∀ b o, b ≠ x → h.get? b = some o → h'.get? b = some o
  obj : h'.get? x = some { cls := .ref C, dict := some dx, data := .fields #[.ref t1, .none, .none, .none, .bool false, .none] }
  dbig : h.objs.size ≤ dx
  dne : dx ≠ x
  ns : h'.Ns1 dx (fun y => if y = fl then some v else none)
structure Made (h h' : Heap) (fl : Str) (e C d : Addr) (v : Value) : Prop where
  keep : ∀ b o, h.get? b = some o → h'.get? b = some o
  new : h.objs.size ≤ e
  obj : ∃ oe vs, h'.get? e = some oe ∧ oe.cls = .ref C ∧ oe.dict = some d ∧ oe.data = .fields vs ∧ vs[1]? = some .none
  dbig : h.objs.size ≤ d
  dne : d ≠ e
  ns : h'.Ns1 d (fun y => if y = fl then some v else none)
section
variable {prog : Program} {w : World} {A : Around} {E : Value → Shared → Prop} {R : Result → Shared → Prop} {s : Shared} {K : Frag} {mg : Str → Option Value} {C fI : Addr} {x fl : Str} {B newId initId : String} {tl : List Value}
theorem store1 {xa t0 : Addr} {tk : Tok} {v : Value} {hp : Heap} {g : Array GenState} {d : Drawn} {t : Nat} {os : OsState} (T : Txt1 K mg x fl C fI newId tl) (SF : StoreFacts B tl "object.__setattr__" "object") (X : K.In hp) (hx : hp.get? xa = some (excO C t0))
    (hq : ∀ h' tk' dx, (∀ b o, b ≠ xa → hp.get? b = some o → h'.get? b = some o) → hp.objs.size ≤ dx → dx ≠ xa → h'.get? xa = some { cls := .ref C, dict := some dx, data := .fields #[.ref t0, .none, .none, .none, .bool false, .none] } →
      h'.Ns1 dx (fun y => if y = fl then some v else none) → R (.ok (.ret .none)) ⟨h', g, d, tk', os⟩) :
    codeAny (model prog w) A (.call (.builtin "object.__setattr__") ⟨[.ref xa, .str fl tk, v], []⟩) R ⟨hp, g, d, t, os⟩ := by
  have hxs : xa ≠ hp.objs.size := Nat.ne_of_lt (Heap.lt_size hx)
  refine osa_openX (s := ⟨hp, g, d, t, os⟩) (od := none) SF X ⟨hx, rfl, rfl, trivial⟩ T.ovr T.tak fun b => ?_
  obtain ⟨cd, hc, hd'⟩ := any_some T.hdC
  refine wpAny_bind (wpAny_pure (wpAny_bind (instanceDict_exc hx (looks_clsIn X hc) hd' ?_)))
  show wpAny _ _ (storeInDict hp.objs.size (.str fl tk) fl v) _ _ _
  refine store_in_new ?_ ?_
  · exact ⟨_, #[], _, (Heap.get?_update_ne _ _ _ _ hxs.symm).trans (Heap.get?_push_at rfl rfl), rfl, fun e he => absurd he (by simp), fun _ => rfl⟩
  · intro h' tk' hn' hs
    have hx₁ : (hp.push { cls := .type "dict", data := .dict #[] }).get? xa = some (excO C t0) := Heap.get?_push_of_some _ hx
    refine hq h' tk' hp.objs.size (fun b o hb ho => ?_) (Nat.le_refl _) hxs.symm ?_ hn'
    · exact (hs.2 b (Nat.ne_of_lt (Heap.lt_size ho))).trans ((Heap.get?_update_ne _ _ _ _ hb).trans (Heap.get?_push_of_some _ ho))
    · exact (hs.2 xa hxs).trans (Heap.get?_update_self _ hx₁ rfl)

theorem init1 (T : Txt1 K mg x fl C fI newId tl) (nm : Nm fl) (SF : StoreFacts B tl "object.__setattr__" "object") {xa t0 : Addr} {v : Value} (X : K.In s.heap) (hlim : s.heap.NoLimit) (hx : s.heap.get? xa = some (excO C t0)) (hroom : A.depth < recursionLimit)
    (hq : ∀ h' tk dx, InitEnd s.heap h' fl xa C dx t0 v → R (.ok (.ret .none)) { s with heap := h', toks := tk }) :
    codeAny (model prog w) A (.call (.ref fI) ⟨[.ref xa, v], []⟩) R s := by
  obtain ⟨oc, od, doc, pm, an, cdv, ct, osl, qn, p1, p2, q1, q2, q3, q4, ho, hcd⟩ := T.fn
  refine Att.call_fn (binds := [("self", .ref xa), (fl, v)]) X hlim ho hcd hroom (BindsTo.of_eq (nm.bd _ _ _ _ _ _ _ _ _ _ _ _ _ _)) (nm.al _ _) (fun s₁ IC => ?_) rfl rfl rfl
  obtain ⟨h₁, tk₁, rfl⟩ := IC.toInCall.same
  have k : ∀ b o, s.heap.get? b = some o → h₁.get? b = some o := IC.toInCall.keep
  have hn := IC.toInCall.ns
  have X₁ : K.In h₁ := X.keeps k
  have hx₁ := k _ _ hx
  show wpAny _ _ (execs _ _) _ _ _
  refine wpAny_execs_cons (plainObj_wpAny_Assign_Attribute ?_)
  refine ldC (v := v) hn (nm.l2 _ _ _ _ _ _) (ldC (v := .ref xa) hn (nm.l1 _ _ _ _ _ _) ?_ (nm.k1 _ _ _ _) (by decide)) (nm.k2 _ _ _ _) nm.db
  · refine set_plain X₁ (ox := excO C t0) (od := none) ⟨hx₁, rfl, rfl, trivial⟩ T.sa ?_
    refine store1 T SF X₁ hx₁ (fun h₃ tk₃ dx k₃ dn dne hx₃ hn₃ => ?_)
    show wpAny _ _ (execs _ _) _ _ _
    have z : s.heap.objs.size < h₁.objs.size := hn.lt
    exact wpAny_execs_nil (hq h₃ tk₃ dx ⟨fun b o hb e => k₃ b o hb (k b o e), hx₃, Nat.le_of_lt (Nat.lt_of_lt_of_le z dn), dne, hn₃⟩)

theorem made1 (T : Txt1 K mg x fl C fI newId tl) (nm : Nm fl) (F : ExcBaseFacts B newId initId tl) (SF : StoreFacts B tl "object.__setattr__" "object") {v : Value} (X : K.In s.heap) (hlim : s.heap.NoLimit) (hroom : A.depth + 1 < recursionLimit)
    (hq : ∀ h' tk e d, Made s.heap h' fl e C d v → R (.ok (.ret (.ref e))) { s with heap := h', toks := tk }) :
    codeAny (model prog w) A (.call (.ref C) ⟨[v], []⟩) R s := by
  obtain ⟨nm', N, qn, bs, bm, hdct, sn, sub, ab, col, dd, k0, k1, k2, k3, k5, hC, hbm⟩ := excInit_of X T.ini
  obtain ⟨hp, g, dr, tk, os⟩ := s
  have k : ∀ b o, hp.get? b = some o → ((hp.push (kdv_tup [v])).push (excO C hp.objs.size)).get? b = some o := fun b o e => Heap.get?_push_of_some _ (Heap.get?_push_of_some _ e)
  have hget : ((hp.push (kdv_tup [v])).push (excO C hp.objs.size)).get? (hp.objs.size + 1) = some (excO C hp.objs.size) := by heap_get
  refine call_own F hbm hC (looks_findIn X T.iC) (fun self => bind_fn X self T.tC) (one_size v) ?_
  refine init1 (s := ⟨(hp.push (kdv_tup [v])).push (excO C hp.objs.size), g, dr, tk, os⟩) T nm SF (X.keeps k) (hlim.keeps k) hget ?_ fun h' tk' dx ⟨k', hx, dn, dne, hns⟩ => ?_
  · show A.depth + 1 < recursionLimit
    exact hroom
  · have old : ∀ b o, hp.get? b = some o → h'.get? b = some o := fun b o e => k' b o (Nat.ne_of_lt (Nat.lt_succ_of_lt (Heap.lt_size e))) (k b o e)
    have z : hp.objs.size + 1 + 1 ≤ dx := by
      first
        | (simpa only [Heap.size_push] using dn)
        | exact dn
        | (have q := dn; rw [Heap.size_push, Heap.size_push] at q; exact q)
    exact ⟨rfl, hq h' tk' (hp.objs.size + 1) dx ⟨old, Nat.le_succ _, ⟨_, _, hx, rfl, rfl, rfl, rfl⟩, Nat.le_trans (Nat.le_trans (Nat.le_succ _) (Nat.le_succ _)) z, dne, hns⟩⟩
end
end Ow
open PySem PySem.Spec PyProof.Rows L2
/-- all of a class of one's own with one kept value -/
structure OwnX (K : PySem.W.Frag) (mg : Str → Option Value) (x fl : Str) (C : Addr) : Prop where
  ex : ∃ (fI : Addr) (B newId initId : String) (tl : List Value), Ow.Txt1 K mg x fl C fI newId tl ∧ ExcBaseFacts B newId initId tl ∧ StoreFacts B tl "object.__setattr__" "object"
  nm : Ow.Nm fl
theorem look1 (fl : Str) (v : V) : List.lookup fl [(fl, v)] = some v := by simp [List.lookup]
theorem relO_one {v : V} {v' : Value} {fl : Str} (r : RelV v v') (f : Str) : RelO (List.lookup f [(fl, v)]) (if f = fl then some v' else none) := by
  by_cases hw : f = fl
  · subst hw
    rw [if_pos rfl, look1]
    exact r
  · rw [if_neg hw]
    have q2 : List.lookup f [(fl, v)] = none := by simp [List.lookup, beq_eq_false_iff_ne.mpr hw]
    rw [q2]
    trivial
section
variable {X : Cx} {C : Addr} {x fl : Str}
/-- x(e) -/
def tMk1 (C : Addr) (fl : Str) (ta : TA) : L2.St → Hp → XK → Prop := fun σ H Q => ta σ H fun vs H1 => ∃ v, vs = [v] ∧ ∀ d, H1 d = none → Q (.ref C) (some d) (upd H1 d (.xd [(fl, v)]))
theorem pmk_1 {a : Expr} {ta : TA} {p pos : Pos} {k : Nat} (T : OwnX X.K X.mg x fl C) (hr : Room k X.A) (ha : PA X [a] ta) (hg : Gl X x) (hdb : (x == ("__debug__" : Str)) = false := by decide)
    (he : starEach (a :: []) X.env = (false, eval a X.env) :: starEach [] X.env := by rfl) (hpl : (backTo pos (starEach [] X.env)).any (·.1) = false := by rfl) :
    PMk X (.Call (.Name x p) [a] [] pos) (tMk1 C fl ta) := by
  obtain ⟨⟨fI, B, newId, initId, tl, T, F, SF⟩, nm⟩ := T
  intro pins s σ H Q I h
  refine wpAny_Call_Name_kw (ld_glob I hg T.gC ?_ hdb)
  refine PySem.W.callWith_K (h₀ := X.base) I.ok.mod.kin T.kC (thn (ha.run pos pins s σ H _ I h) fun us s1 hh => ?_) he hpl
  obtain ⟨vs, H1, I1, r1, v, ev, q1⟩ := hh
  subst ev
  refine ⟨I1.kIn, ?_⟩
  cases r1 with
  | cons rv rn =>
    rename_i v' us'
    cases rn
    show wpAny _ _ (call (.ref C) [v']) _ _ _
    have hlim := I1.nolimit
    obtain ⟨hp, g, dr, tk, os⟩ := s1
    refine wpAny_call (Ow.made1 T nm F SF I1.kIn hlim (by have := hr.dp; omega) fun h' tk' e d M => ?_)
    show MkP X pins σ Q (.ref e) ⟨h', g, dr, tk', os⟩
    obtain ⟨oe, fv, hoe, hc, hd, hdat, h1⟩ := M.obj
    have hns := M.ns
    obtain ⟨G', g1, g2⟩ := restrict h' fun b => decide (b ≠ e)
    have gk : ∀ b, b ≠ e → G'.get? b = h'.get? b := fun b hb => g1 b (decide_eq_true hb)
    have ge : G'.get? e = none := g2 e (by simp)
    have old : ∀ b o, hp.get? b = some o → G'.get? b = some o := fun b o q => (gk b (Nat.ne_of_lt (Nat.lt_of_lt_of_le (Heap.lt_size q) M.new))).trans (M.keep b o q)
    have ob : ObjOk X.prog X.w (upd H1 d (.xd [(fl, v)])) G' d (.xd [(fl, v)]) :=
      ⟨_, hns.at (fun o q => (gk d M.dne).trans q), fun f => relO_one rv f⟩
    have J : Inv X pins σ (upd H1 d (.xd [(fl, v)])) ⟨G', g, dr, tk', os⟩ := I1.laid (t' := tk') old M.dbig ob
    refine ⟨e, oe, fv, ⟨G', g, dr, tk', os⟩, _, .ref C, some d, rfl, J, fun b o q => ?_, ge, hoe, ⟨hc, hd⟩, hdat, h1, ?_, rfl, I1.bare, raises_own T.exC T.tyC, q1 d (I1.hok.fresh M.dbig)⟩
    · by_cases hb : b = e
      · have q' : G'.get? b = some o := q
        rw [hb, ge] at q'; cases q'
      · exact (gk b hb).symm.trans q
    · rw [upd_ne (Ne.symm M.dne)]
      exact I1.hok.fresh M.new
/-- the kept value of the exception that the suite holds (at a; its class cls, its dict d) -/
def tBy1 (C : Addr) (fl : Str) (a : Addr) (cls : Value) (d : Option Addr) (te : TE) : TE := fun σ H Q => te σ H fun x H1 => x = .ref a ∧ cls = .ref C ∧ ∃ (dd : Addr) (v : V), d = some dd ∧ H1 dd = some (.xd [(fl, v)]) ∧ Q v H1
theorem pe_by1 {a : Addr} {oe : Obj} {cls : Value} {d : Option Addr} {pn : List (Addr × Obj)} {e : Expr} {te : TE} {pos : Pos} (T : OwnX X.K X.mg x fl C) (hz : Zc cls d oe) (hf : ∃ vs, oe.data = .fields vs) (he : PE (X.suite a ((a, oe) :: pn)) e te)
    (hb : attributeBase e fl X.env (eval e X.env) = eval e X.env := by rfl) :
    PE (X.suite a ((a, oe) :: pn)) (.Attribute e fl pos) (tBy1 C fl a cls d te) := by
  obtain ⟨⟨fI, B, newId, initId, tl, T, F, SF⟩, nm⟩ := T
  refine ⟨fun pins s σ H Q I h => ?_⟩
  refine attr_of hb (thn (he.run pins s σ H _ I h) fun u s1 hh => ?_)
  obtain ⟨x, H1, I1, rx, ex, ec, dd, v, ed, ea, q⟩ := hh
  subst ex
  obtain rfl : u = Value.ref a := rx
  subst ec
  subst ed
  obtain ⟨ha, _⟩ := I1.pin (a, oe) (List.mem_append_left _ List.mem_cons_self)
  obtain ⟨vs, hd⟩ := hf
  have hx : ObjOk X.prog X.w H1 s1.heap dd (.xd [(fl, v)]) := I1.hok dd _ ea
  obtain ⟨mA, hns, hr⟩ := hx
  obtain ⟨od, ho, hl⟩ := lookIn_ns hns
  obtain ⟨u, hu, ru⟩ := RelO.some_of (v := v) (o := mA fl) (by rw [← look1 fl v]; exact hr fl)
  have J : PySem.W.InstAt s1.heap a oe C (some od) := ⟨ha, hz.1, by unfold PySem.W.notCls; rw [hd] <;> rfl, by rw [hz.2]; exact ho⟩
  exact HandSPX.exc_get I1.kIn J T.ga T.gg T.exC (PySem.W.findObj_own T.hdC T.noN rfl (by rw [hl, hu])) (handed_of ru) ⟨v, H1, I1.tok _, ru, q⟩
end
end SQ
/-! defs that raise: their promises, their calls -/
namespace SQ
open PySem PySem.Spec PyProof.Rows L2
/-- a def that may raise, called by its name -/
structure CalX (P : Program) (w : World) (K : PySem.W.Frag) (mg : Str → Option Value) (base : Heap) (k : Nat) (x : Str) (sp : Sp) : Prop where
  ex : ∃ (f : Addr) (fd : FuncData) (ps : List Str), FnOk P w K mg base (L2.CX P w) k f fd ps sp ∧ mg x = some (.ref f) ∧ PySem.W.keepIn K (.ref f) = true ∧ Binds K fd ps []
section
variable {X : Cx} {k j : Nat} {x : Str} {sp : Sp} {p pos : Pos} {e : Expr} {es : List Expr} {t : TA}
/-- what it raises leaves the def -/
theorem pe_cE {E : XK} {W : WX} (tk : Takes X W) (hW : ∀ cls d σ H, E cls d H → W cls d σ H) (c : CalX X.prog X.w X.K X.mg X.base k x sp) (hr : Room j X.A) (hk : k ≤ j) (hg : Gl X x) (ha : PA X (e :: es) t)
    (hdb : (x == ("__debug__" : Str)) = false := by decide) (he : starEach (e :: es) X.env = (false, eval e X.env) :: starEach es X.env := by rfl) (hpl : (backTo pos (starEach es X.env)).any (·.1) = false := by rfl) :
    PE X (.Call (.Name x p) (e :: es) [] pos) (tCall sp [] E t) := by
  obtain ⟨f, fd, ps, F, hm, kp, b⟩ := c.ex
  exact pe_call F (hr.mono hk) hg hm kp b .nil (passes_call tk hW) ha hdb he hpl
end
section
variable {K : PySem.W.Frag} {Γ : Cxt} {H0 H H' : Hp} {ps qs τ : Ps} {a : Addr} {d : D} {v : V} {xs : List D} {vs : List V} {ss : List Sl} {σ : L2.St} {C C' : D → Prop} {te tb : TE} {ta : TA} {e : En}
/-- nothing is let out: the scene with no errors -/
theorem Env.no (I : Env K Γ H0 H ps) (E : XK) : Env K { Γ with X := fun _ => False, E := E } H0 H ps := ⟨⟨I.ok.al, I.ok.st⟩, I.w, I.rel, I.nd, I.fr, I.sl, fun _ _ _ _ _ _ _ z => z.elim⟩
theorem Env.re {X : Exc → Prop} {E : XK} (I : Env K { Γ with X := X, E := E } H0 H ps) (J : Env K Γ H0 H' qs) : Env K Γ H0 H ps := ⟨⟨I.ok.al, I.ok.st⟩, I.w, I.rel, I.nd, I.fr, I.sl, J.thr⟩
abbrev Cxt.calm (Γ : Cxt) (E : XK) : Cxt := { Γ with X := fun _ => False, E := E }
/-- a call that lets nothing out -/
theorem wpE_call0 {F : Fn} (mono : ∀ B B' ds C X, Sc.le B B' → F B ds C X → F B' ds C X)
    (h : wpA K Γ ta ss fun ds => F (sc Γ) ds C fun _ => False) : wpE K Γ (tCall (spF K F) [] E0 ta) ss C := fun H0 σ H τ hl I Q q =>
  h H0 σ H τ hl I _ fun vs ds H1 hd J1 h1 => by
    have J := J1.dropL
    refine ⟨{ Γ.sub (ss.zip σ ++ τ) H1 with X := fun _ => False, E := E0 }, ds, C, ⟨J.subOk.al, J.subOk.st⟩, J.subW, ?_, mono _ _ _ _ _ (Sc.sub J) h1, fun v d H2 r w x c => ?_, fun x cls d H2 r w y z => z.elim⟩
    · rw [List.append_nil]; exact J1.piled hd
    · exact q v d H2 ((J.back r w).push x) c
/-! ### raise -/
def tRaise0 (C : Addr) (E : XK) : TS := fun _ _ H => E (.ref C) none H
theorem wpS_raise0 {C : Addr} (h : Γ.X ⟨C, [], []⟩) : wpS K Γ (tRaise0 C Γ.E) ss e := fun H0 σ H τ D hl I k =>
  show Γ.E (.ref C) none H from I.thr ⟨C, [], []⟩ (.ref C) none H I.rel I.w ⟨rfl, .inl rfl⟩ h
def tRaise1 (C : Addr) (fl : Str) (E : XK) (ta : TA) : TS := fun _ σ H => tMk1 C fl ta σ H fun cls d H' => E cls d H'
theorem wpS_raise1 {C : Addr} {fl : Str} (h : wpA K Γ ta ss fun ds => ∃ d, ds = [d] ∧ Γ.X ⟨C, [fl], [d]⟩) : wpS K Γ (tRaise1 C fl Γ.E ta) ss e := fun H0 σ H τ D hl I k =>
  h H0 σ H τ hl I _ fun vs ds H1 hd J1 ⟨d, e1, hx⟩ => by
    subst e1
    obtain ⟨v, rfl⟩ : ∃ v, vs = [v] := by
      cases vs with
      | nil => cases hd
      | cons v r => cases r with
        | nil => exact ⟨v, rfl⟩
        | cons _ _ => cases hd
    refine ⟨v, rfl, fun p hp => ?_⟩
    have ex : Ext H1 (upd H1 p (.xd [(fl, v)])) := Ext.new hp
    have J2 := J1.ext ex
    have r := J2.val (d := d) (v := v) List.mem_cons_self
    have J3 := J2.dropL.dropL
    exact J3.thr ⟨C, [fl], [d]⟩ (.ref C) (some p) _ J3.rel J3.w ⟨rfl, .inr ⟨p, [(fl, v)], rfl, upd_same, rfl, v, [], rfl, r.less fun a z => .inl z, rfl⟩⟩ hx
end
section
variable {X : Cx} {k : Nat} {C : Addr} {x fl m : Str} {E : XK} {bmB : List Value} {B newId initId : String} {p p2 pos pos2 : Pos} {j : Nat} {a : Expr} {ta : TA}
theorem ps_raise0 (hc : X.calm = true) (tk : Takes X (fun cls d _ H => E cls d H)) (F : ExcBaseFacts B newId initId bmB) (q : PySem.W.excIn X.K C bmB newId = true) (gC : X.mg x = some (.ref C)) (kC : PySem.W.keepIn X.K (.ref C) = true)
    (h1 : PySem.W.subIn X.K (.ref C) (.type "BaseException") = some true) (h2 : PySem.W.typeIn X.K (.ref C) = some (.type "type")) (hg : Gl X x) (hdb : (x == ("__debug__" : Str)) = false := by decide) :
    PS X (.Raise (some (.Call (.Name x p) [.Constant (.str m) j p2] [] pos)) none pos2) (tRaise0 C E) := ps_raise hc tk (pmk_own F q gC kC (raises_own h1 h2) hg hdb)
theorem ps_raise1 (hc : X.calm = true) (tk : Takes X (fun cls d _ H => E cls d H)) (T : OwnX X.K X.mg x fl C) (hr : Room k X.A) (ha : PA X [a] ta) (hg : Gl X x) (hdb : (x == ("__debug__" : Str)) = false := by decide)
    (he : starEach (a :: []) X.env = (false, eval a X.env) :: starEach [] X.env := by rfl) (hpl : (backTo pos (starEach [] X.env)).any (·.1) = false := by rfl) :
    PS X (.Raise (some (.Call (.Name x p) [a] [] pos)) none pos2) (tRaise1 C fl E ta) := ps_raise hc tk (pmk_1 T hr ha hg hdb he hpl)
end
/-! ### a def's promise, from its body over trees -/
structure CalN (P : Program) (w : World) (K : PySem.W.Frag) (mg : Str → Option Value) (base : Heap) (k : Nat) (x : Str) (sp : Sp) : Prop where
  ex : ∃ (f : Addr) (fd : FuncData) (ps : List Str), FnOk P w K mg base CX0 k f fd ps sp ∧ mg x = some (.ref f) ∧ PySem.W.keepIn K (.ref f) = true ∧ Binds K fd ps []
abbrev CF (P : Program) (w : World) (K : PySem.W.Frag) (mg : Str → Option Value) (base : Heap) (k : Nat) (x : Str) (F : Fn) : Prop := CalN P w K mg base k x (spF K F)
abbrev CFX (P : Program) (w : World) (K : PySem.W.Frag) (mg : Str → Option Value) (base : Heap) (k : Nat) (x : Str) (F : Fn) : Prop := CalX P w K mg base k x (spF K F)
/-- a body's ends -/
abbrev en0 (C : D → Prop) : En := { nx := fun _ => C .non, rt := rtV C }
abbrev ss0 (ds : List D) (n : Nat) : List Sl := ds.map Sl.val ++ List.replicate (n - ds.length) .un
section
variable {P : Program} {w : World} {K : PySem.W.Frag} {mg : Str → Option Value} {base : Heap} {x : Str} {st : Stmt} {f : Addr} {fd : FuncData} {N ps : List Str} {k : Nat} {F : Fn}
theorem cf_of {st : Stmt} (Df : Fun K x x st f fd) (hm : mg x = some (.ref f)) (hb : Binds K fd ps []) (S : FnScope N ps (defScope st)) (len : ∀ B ds C X, F B ds C X → ds.length = ps.length)
    (body : ∀ (cdv : Value) (A : Around) (outer : List PySem.Env) (s : Shared) (H : Hp) (E : XK), Room k (A.deeper (envOfC x (defScope st) s.heap.objs.size f cdv)) →
      ∃ t, PSs (cxOf CX0 P w K mg base N x (defScope st) f cdv A outer s H E).nox (defBody st) t ∧ ∀ (Γ : Cxt) (ds : List D) (C : D → Prop), F (sc Γ) ds C Γ.X → wpS K Γ t (ss0 ds N.length) (en0 C)) : CF P w K mg base (k + 1) x F :=
  ⟨f, fd, ps, Df.ok S (fun vs H Q E h => by
      obtain ⟨Γ, ds, C, _, _, r, h, _⟩ := h
      rw [← r.length, len _ _ _ _ h]) (fun cdv A outer s H vs Q E hr h => by
      obtain ⟨t, ht, hw⟩ := body cdv A outer s H E hr
      exact ⟨t, ht, run_def h fun Γ ds C _ f => hw Γ ds C f⟩), hm, Df.kp, hb⟩
theorem cfx_of {st : Stmt} (Df : Fun K x x st f fd) (hm : mg x = some (.ref f)) (hb : Binds K fd ps []) (S : FnScope N ps (defScope st)) (len : ∀ B ds C X, F B ds C X → ds.length = ps.length)
    (body : ∀ (cdv : Value) (A : Around) (outer : List PySem.Env) (s : Shared) (H : Hp) (E : XK), Room k (A.deeper (envOfC x (defScope st) s.heap.objs.size f cdv)) →
      ∃ t, PSs (cxOf (L2.CX P w) P w K mg base N x (defScope st) f cdv A outer s H E) (defBody st) t ∧ ∀ (Γ : Cxt) (ds : List D) (C : D → Prop), Γ.E = E → F (sc Γ) ds C Γ.X → wpS K Γ t (ss0 ds N.length) (en0 C)) : CFX P w K mg base (k + 1) x F :=
  ⟨f, fd, ps, Df.okX S (fun vs H Q E h => by
      obtain ⟨Γ, ds, C, _, _, r, h, _⟩ := h
      rw [← r.length, len _ _ _ _ h]) (fun cdv A outer s H vs Q E hr h => by
      obtain ⟨t, ht, hw⟩ := body cdv A outer s H E hr
      exact ⟨t, ht, run_def h fun Γ ds C e f => hw Γ ds C e f⟩), hm, Df.kp, hb⟩
end
section
variable {X : Cx} {k j : Nat} {x : Str} {sp : Sp} {p pos : Pos} {e : Expr} {es : List Expr} {t : TA}
theorem pe_f (c : CalN X.prog X.w X.K X.mg X.base k x sp) (hr : Room j X.A) (hk : k ≤ j) (hg : Gl X x) (ha : PA X (e :: es) t)
    (hdb : (x == ("__debug__" : Str)) = false := by decide) (he : starEach (e :: es) X.env = (false, eval e X.env) :: starEach es X.env := by rfl) (hpl : (backTo pos (starEach es X.env)).any (·.1) = false := by rfl) :
    PE X (.Call (.Name x p) (e :: es) [] pos) (tCall sp [] E0 t) := by
  obtain ⟨f, fd, ps, F, hm, kp, b⟩ := c.ex
  exact pe_call F (hr.mono hk) hg hm kp b .nil pass0 ha hdb he hpl
end
end SQ
/-! the walk, and what is common to the texts -/
namespace SQ
open PySem PySem.Spec PyProof.Rows L2
section
variable {K : PySem.W.Frag} {C : D → Prop} {i j : Int}
theorem wpR_pow (h : CPowW i j) (c : C (.int (i ^ j.toNat))) : wpR K (rI CPowW fun i j => .int (i ^ j.toNat)) (.int i) (.int j) C := wpR_condI h c
theorem wpR_mod (h : 0 < j) (c : C (.int (i % j))) : wpR K (rI (fun _ j => 0 < j) fun i j => .int (i % j)) (.int i) (.int j) C := wpR_condI h c
theorem wpR_fdiv (h : CDivW i j) (c : C (.int (i / j))) : wpR K (rI CDivW fun i j => .int (i / j)) (.int i) (.int j) C := wpR_condI h c
theorem wpR_mul1 (h : -(2 ^ 64) < i ∧ i < 2 ^ 64) (c : C (.int (i * j))) : wpR K (rMulA K) (.int i) (.int j) C := wpR_mulI (.inl (.inl h)) c
theorem wpR_mul2 (h : -(2 ^ 64) < j ∧ j < 2 ^ 64) (c : C (.int (i * j))) : wpR K (rMulA K) (.int i) (.int j) C := wpR_mulI (.inl (.inr h)) c
end
section
variable {K : PySem.W.Frag} {Γ : Cxt} {ss : List Sl} {e : En} {te : TE} {C : D → Prop} {CO : List D → Prop}
theorem wpS_retV (he : e.rt = rtV C) (h : wpE K Γ te ss C) : wpS K Γ (tRet te) ss e := wpS_ret (h.mono fun d c => by rw [he]; exact c)
theorem wpS_retL (he : e.rt = rtO CO) (h : wpO K Γ te ss CO) : wpS K Γ (tRet te) ss e := wpS_retO fun H0 σ H τ hl I Q q => h H0 σ H τ hl I Q fun a xs H2 J c => q a xs H2 J (by rw [he]; exact c)
end
end SQ
local macro_rules | `(tactic| walk_at "wk1") => `(tactic| first
  | with_reducible refine SQ.wpS_retV rfl ?_
  | with_reducible refine SQ.wpS_retL rfl ?_
  | with_reducible refine SQ.wpO_lst ?_
  | with_reducible refine SQ.wpS_ret ?_
  | with_reducible refine SQ.wpE_var rfl ?_
  | with_reducible refine SQ.wpE_int ?_
  | with_reducible refine SQ.wpE_bl ?_
  | with_reducible refine SQ.wpE_non ?_
  | with_reducible refine SQ.wpE_str ?_
  | with_reducible refine SQ.wpE_ty ?_
  | with_reducible refine SQ.wpA_nil ?_
  | with_reducible refine SQ.wpA_cons ?_
  | with_reducible refine SQ.wpE_cb ?_
  | with_reducible refine SQ.wpE_op ?_
  | with_reducible refine SQ.wpE_un ?_
  | with_reducible refine SQ.wpS_seq ?_
  | with_reducible refine SQ.wpS_if ?_
  | with_reducible refine SQ.wpS_next ?_
  | with_reducible refine SQ.wpT_and ?_
  | with_reducible refine SQ.wpT_or ?_
  | with_reducible refine SQ.wpT_not ?_
  | with_reducible refine SQ.wpE_andV ?_
  | with_reducible refine SQ.wpE_orV ?_
  | with_reducible refine SQ.wpE_notV ?_
  | with_reducible refine SQ.wpE_chain ?_
  | with_reducible refine SQ.wpT_test ?_
  | with_reducible refine SQ.wpT_B ?_
  | with_reducible refine SQ.wpS_set (Nat.le_of_ble_eq_true rfl) ?_
  | with_reducible refine SQ.wpR_subI ?_
  | with_reducible refine SQ.wpR_cmpI ?_
  | with_reducible refine SQ.wpR_addI ?_
  | ((with_reducible refine SQ.wpR_pow ?_ ?_); · exact ⟨by decide, by decide +kernel⟩)
  | ((with_reducible refine SQ.wpR_mod ?_ ?_); · first | assumption | decide +kernel | omega)
  | ((with_reducible refine SQ.wpR_mul1 ?_ ?_); · first | decide +kernel | (constructor <;> omega))
  | ((with_reducible refine SQ.wpR_mul2 ?_ ?_); · first | decide +kernel | (constructor <;> omega))
  | ((with_reducible refine SQ.wpR_fdiv ?_ ?_); · first | exact ⟨by decide +kernel, by decide +kernel⟩ | exact ⟨by assumption, by assumption⟩)
  | with_reducible refine SQ.wpU_int ?_
  | with_reducible refine SQ.wpB_intI ?_
  | with_reducible refine SQ.wpB_intB ?_
  | with_reducible refine SQ.wpB_lenT ?_
  | with_reducible refine SQ.wpB_lenL ?_
  | with_reducible refine SQ.wpB_lenS ?_
  | with_reducible refine SQ.wpB_abs ?_
  | with_reducible refine SQ.wpB_max2 ?_
  | with_reducible refine SQ.wpB_min2 ?_
  | with_reducible refine SQ.wpB_tupL ?_
  | with_reducible refine SQ.wpB_tupT ?_
  | with_reducible refine SQ.wpE_if ?_
  | with_reducible refine ⟨_, rfl, ?_⟩
  | dsimp only)
namespace SQ
open PySem PySem.Spec PyProof.Rows L2
end SQ
local macro_rules | `(tactic| walk_at "wk") => `(tactic| repeat walk_at "wk1")
namespace SQ
open PySem PySem.Spec PyProof.Rows L2
/-- a class of one's own, no field -/
structure Own0 (K : PySem.W.Frag) (mg : Str → Option Value) (x : Str) (C : Addr) : Prop where
  ex : ∃ (B newId initId : String) (bm : List Value), ExcBaseFacts B newId initId bm ∧ PySem.W.excIn K C bm newId = true
  gC : mg x = some (.ref C)
  kC : PySem.W.keepIn K (.ref C) = true
  h1 : PySem.W.subIn K (.ref C) (.type "BaseException") = some true
  h2 : PySem.W.typeIn K (.ref C) = some (.type "type")
theorem ps_raiseO {X : Cx} {x m : Str} {C : Addr} {E : XK} {p p2 pos pos2 : Pos} {j : Nat} (hc : X.calm = true) (tk : Takes X (fun cls d _ H => E cls d H)) (T : Own0 X.K X.mg x C) (hg : Gl X x) (hdb : (x == ("__debug__" : Str)) = false := by decide) :
    PS X (.Raise (some (.Call (.Name x p) [.Constant (.str m) j p2] [] pos)) none pos2) (tRaise0 C E) := by
  obtain ⟨B, n, i, bm, F, q⟩ := T.ex
  exact ps_raise0 hc tk F q T.gC T.kC T.h1 T.h2 hg hdb
/-! ### what isinstance tells -/
def Typed (d : D) : Prop := ∃ n, tyName d = some n
def dInt : D → Bool
  | .int _ => true
  | .bl _ => true
  | _ => false
def dBl : D → Bool
  | .bl _ => true
  | _ => false
def dTup : D → Bool
  | .tup _ => true
  | _ => false
def dLst : D → Bool
  | .lst _ => true
  | _ => false
def dStr : D → Bool
  | .str _ => true
  | _ => false
section
variable {K : PySem.W.Frag} {C : D → Prop} {d : D}
end
/-! ### a list that is no longer changed -/
section
variable {K : PySem.W.Frag} {Γ : Cxt} {H0 H : Hp} {τ : Ps} {ss : List Sl} {σ : L2.St} {xs : List D} {e : En} {t1 : TS} {te : TE} {C : D → Prop}
theorem Env.freezeAt {i : Nat} (hl : σ.length = ss.length) (h : ss[i]? = some (.own xs)) (I : Env K Γ H0 H (ss.zip σ ++ τ)) : Env K Γ H0 H ((ss.set i (.val (.lst xs))).zip σ ++ τ) := by
  have hi : i < ss.length := (List.getElem?_eq_some_iff.mp h).1
  obtain ⟨o, ho⟩ := get_of_len hl h
  have I1 := I.perm ((zip_out h ho).append_right τ)
  obtain ⟨a, vs, e1, _⟩ := I1.sl _ List.mem_cons_self
  have e1 : o = some (.ref a) := e1
  subst e1
  have I2 : Env K Γ H0 H ((Sl.val (.lst xs), some (.ref a)) :: ((ss.eraseIdx i).zip (σ.eraseIdx i) ++ τ)) := Env.freeze I1
  have p := zip_set (s := .val (.lst xs)) (o := some (V.ref a)) hl hi
  have es : σ.set i (some (V.ref a)) = σ := by
    obtain ⟨hj, hv⟩ := List.getElem?_eq_some_iff.mp ho
    rw [← hv]; exact List.set_getElem_self hj
  rw [es] at p
  exact I2.perm (p.symm.append_right τ)
theorem wpS_freeze {i : Nat} (h : ss[i]? = some (.own xs)) (k : wpS K Γ t1 (ss.set i (.val (.lst xs))) e) : wpS K Γ t1 ss e := fun H0 σ H τ D hl I kk =>
  k H0 σ H τ D (by simp [hl]) (I.freezeAt hl h) kk
end
/-! ### numbers in rows -/
def down (ns : List Int) : List Int := ns.mergeSort fun a b => decide (a ≥ b)
def up (ns : List Int) : List Int := ns.mergeSort fun a b => decide (a ≤ b)
theorem down_perm (ns : List Int) : (down ns).Perm ns := List.mergeSort_perm _ _
theorem up_perm (ns : List Int) : (up ns).Perm ns := List.mergeSort_perm _ _
theorem down_falls (ns : List Int) : (down ns).Pairwise (· ≥ ·) := by
  have h := List.pairwise_mergeSort (le := fun a b : Int => decide (a ≥ b)) (fun a b c h1 h2 => by simp only [decide_eq_true_eq] at *; omega) (fun a b => by simp only [Bool.or_eq_true, decide_eq_true_eq]; omega) ns
  exact h.imp (by simp)
theorem up_rises (ns : List Int) : (up ns).Pairwise (· ≤ ·) := by
  have h := List.pairwise_mergeSort (le := fun a b : Int => decide (a ≤ b)) (fun a b c h1 h2 => by simp only [decide_eq_true_eq] at *; omega) (fun a b => by simp only [Bool.or_eq_true, decide_eq_true_eq]; omega) ns
  exact h.imp (by simp)
theorem down_of {ns ns' : List Int} (p : ns'.Perm ns) (h : ns'.Pairwise (· ≥ ·)) : ns' = down ns :=
  List.Perm.eq_of_pairwise (fun _ _ _ _ a b => Int.le_antisymm b a) h (down_falls ns) (p.trans (down_perm ns).symm)
theorem up_of {ns ns' : List Int} (p : ns'.Perm ns) (h : ns'.Pairwise (· ≤ ·)) : ns' = up ns :=
  List.Perm.eq_of_pairwise (fun _ _ _ _ a b => Int.le_antisymm a b) h (up_rises ns) (p.trans (up_perm ns).symm)
theorem down_len (ns : List Int) : (down ns).length = ns.length := (down_perm ns).length_eq
/-- all prefix sums -/
def heads (t : Int) : List Int → List Int
  | [] => []
  | n :: r => (t + n) :: heads (t + n) r
theorem heads_len (ns : List Int) : ∀ t, (heads t ns).length = ns.length := by
  induction ns with
  | nil => intro t; rfl
  | cons n r ih => intro t; simp [heads, ih]
theorem heads_app (as bs : List Int) : ∀ t, heads t (as ++ bs) = heads t as ++ heads (t + as.sum) bs := by
  induction as with
  | nil => intro t; simp [heads]
  | cons n r ih => intro t; simp [heads, ih, Int.add_assoc]
theorem heads_take {ns : List Int} {i : Nat} {n : Int} (h : ns[i]? = some n) : heads 0 (ns.take (i + 1)) = heads 0 (ns.take i) ++ [(ns.take i).sum + n] := by
  rw [List.take_add_one, h]
  simp [heads_app, heads]
end SQ
/-! a bowl: three ints that draws change -/
namespace SQ
open PySem PySem.Spec PyProof.Rows L2
section
variable {K : PySem.W.Frag} {Γ : Cxt} {H0 H : Hp} {τ ps : Ps} {ss : List Sl} {σ : L2.St} {e : En} {te tb : TE} {C : D → Prop} {p : Addr}
theorem bowl_at (b : Bowl Γ.S Γ.W p) (I : Env K Γ H0 H ps) : ∃ x y z : Int, H p = some (.lst [.int x, .int y, .int z]) := by
  obtain ⟨xs, h, x, y, z, rfl⟩ := b.2.1 H I.w
  exact ⟨x, y, z, h⟩
/-- bowl[j] -/
theorem wpE_ixB {i : Nat} {j : Int} (h : ss[i]? = some (.val (.cell p))) (b : Bowl Γ.S Γ.W p) (hj : 0 ≤ j ∧ j < 3) (c : ∀ z, C (.int z)) : wpE K Γ (tOp (rIx K) (tVar i) (tC (.int j))) ss C := fun H0 σ H τ hl I Q q => by
  obtain ⟨o, ho⟩ := get_of_len hl h
  have m := zip_get h ho
  obtain ⟨v, e1, r⟩ := I.sl _ (List.mem_append_left _ m)
  have e1 : o = some v := e1
  subst e1
  have r : v = .ref p := r
  subst r
  obtain ⟨x, y, z, hp⟩ := bowl_at b I
  have key : ∃ w : Int, atI [V.int x, .int y, .int z] j = some (.int w) := by
    have : j = 0 ∨ j = 1 ∨ j = 2 := by omega
    rcases this with rfl | rfl | rfl
    · exact ⟨x, rfl⟩
    · exact ⟨y, rfl⟩
    · exact ⟨z, rfl⟩
  obtain ⟨w, hw⟩ := key
  exact ⟨.ref p, ho, .inl ⟨p, _, j, _, rfl, rfl, .inl (.inl hp), hw, q _ (.int w) H (I.push (d := .int w) rfl) (c w)⟩⟩
/-- what the scene may change, is changed -/
theorem Env.setW {xs : List V} (b : Bowl Γ.S Γ.W p) (hx : OkB xs) (I : Env K Γ H0 H ps) : Env K Γ H0 (upd H p (.lst xs)) ps := by
  obtain ⟨x, y, z, hp⟩ := bowl_at b I
  have hS : Γ.S p := b.1
  have nb : ∀ a ∈ owned ps, a ≠ p := fun a z e => (I.fr a z).1 (e ▸ hS)
  have rl : Rel (Out Γ ps) H (upd H p (.lst xs)) := fun a o n e _ => by
    rw [upd_ne (fun z => n (by rw [z]; exact .inl hS))]; exact e
  refine ⟨I.ok, b.2.2 H xs I.w hx, fun a o n e t => ?_, I.nd, I.fr, fun q hq => ?_, I.thr⟩
  · rw [upd_ne (fun z => n (by rw [z]; exact hS))]; exact I.rel a o n e t
  · refine slot.mono ?_ ?_ ?_ (I.sl q hq)
    · exact fun d v r => Rep.rel rl I.live d v r
    · exact fun d v r => Reps.rel rl I.live d v r
    · intro ys e1 a vs e2 e3
      obtain ⟨s, o⟩ := q
      have e1' : s = .own ys := e1
      have e2' : o = some (.ref a) := e2
      subst e1' e2'
      rw [upd_ne (nb a (mem_owned hq))]; exact e3
/-- bowl[j] = e -/
theorem wpS_setB {i : Nat} {j : Int} (h : ss[i]? = some (.val (.cell p))) (b : Bowl Γ.S Γ.W p) (hj : 0 ≤ j ∧ j < 3) (h1 : wpE K Γ te ss fun d => ∃ n, d = .int n ∧ e.nx ss) : wpS K Γ (tAsg te (gSub (tVar i) (tC (.int j)) rSetL)) ss e := fun H0 σ H τ D hl I k => by
  obtain ⟨o, ho⟩ := get_of_len hl h
  have m := zip_get h ho
  obtain ⟨v0, e1, r⟩ := I.sl _ (List.mem_append_left _ m)
  have e1 : o = some v0 := e1
  subst e1
  have r : v0 = .ref p := r
  subst r
  refine h1 H0 σ H τ hl I _ fun v d H2 J ⟨n, hd, c⟩ => ⟨.ref p, ho, ?_⟩
  subst hd
  have rv : v = .int n := J.val List.mem_cons_self
  subst rv
  obtain ⟨x, y, z, hp⟩ := bowl_at b J
  have key : ∃ m, ixN 3 j = some m ∧ OkB ([V.int x, .int y, .int z].set m (.int n)) := by
    have : j = 0 ∨ j = 1 ∨ j = 2 := by omega
    rcases this with rfl | rfl | rfl
    · exact ⟨0, rfl, n, y, z, rfl⟩
    · exact ⟨1, rfl, x, n, z, rfl⟩
    · exact ⟨2, rfl, x, y, n, rfl⟩
  obtain ⟨m, hm, ok⟩ := key
  refine ⟨p, _, j, m, rfl, rfl, hp, hm, ?_⟩
  exact k.nx ss σ _ hl (J.drop.setW b ok) c
end
end SQ
/-! a new list becomes a bowl -/
namespace SQ
open PySem PySem.Spec PyProof.Rows L2
def Cxt.add (Γ : Cxt) (p : Addr) : Cxt := { Γ with S := fun a => Γ.S a ∨ a = p, W := fun H => Γ.W H ∧ ∃ xs, H p = some (.lst xs) ∧ OkB xs }
section
variable {K : PySem.W.Frag} {Γ : Cxt} {H0 H H' : Hp} {τ ps qs : Ps} {ss : List Sl} {σ : L2.St} {e : En} {te tb : TE} {C : D → Prop} {p q : Addr} {t1 : TS} {xs : List D}
theorem Cxt.Ok.add (ok : Γ.Ok) : (Γ.add p).Ok := by
  refine ⟨fun H w a s => ?_, fun H H' w h x => ⟨ok.st H H' w.1 (fun a s => h a (.inl s)) x, ?_⟩⟩
  · rcases s with s | s
    · exact ok.al H w.1 a s
    · obtain ⟨xs, hx, _⟩ := w.2
      subst s
      exact ⟨_, hx, trivial⟩
  · obtain ⟨xs, hx, o⟩ := w.2
    exact ⟨xs, by rw [h p (.inr rfl)]; exact hx, o⟩
theorem bowl_new (ok : Γ.Ok) (hp : ¬ Γ.S p) : Bowl (Γ.add p).S (Γ.add p).W p :=
  ⟨.inr rfl, fun H w => w.2, fun H xs w o => ⟨ok.st H _ w.1 (fun a s => upd_ne fun z => hp (z ▸ s)) (fun a φ h => by
    obtain ⟨ys, hy, _⟩ := w.2
    rw [upd_ne (fun z => by rw [z, hy] at h; cases h)]; exact h), xs, upd_same, o⟩⟩
theorem tb_add {T : List (Addr × Str)} (t : Tb Γ.W T) : Tb (Γ.add p).W T := ⟨fun H w => t.1 H w.1, fun H H' w e tt => ⟨t.2 H H' w.1 e tt, by
  obtain ⟨xs, hx, o⟩ := w.2
  exact ⟨xs, e p _ hx (fun ps q => by cases q), o⟩⟩⟩
theorem bowl_old (hp : ¬ Γ.S p) (b : Bowl Γ.S Γ.W q) : Bowl (Γ.add p).S (Γ.add p).W q :=
  ⟨.inl b.1, fun H w => b.2.1 H w.1, fun H xs w o => ⟨b.2.2 H xs w.1 o, by
    obtain ⟨ys, hy, oy⟩ := w.2
    exact ⟨ys, by rw [upd_ne (fun z : p = q => hp (z ▸ b.1))]; exact hy, oy⟩⟩⟩
theorem Env.toBowl {a b c : Int} (I : Env K Γ H0 H ((.own [.int a, .int b, .int c], some (.ref p)) :: ps)) : Env K (Γ.add p) H0 H ((.val (.cell p), some (.ref p)) :: ps) := by
  have hf := I.fr p List.mem_cons_self
  have nd := List.nodup_cons.mp I.nd
  obtain ⟨vs, hv, r⟩ := I.own List.mem_cons_self
  have hvs : vs = [V.int a, .int b, .int c] := Reps.ints.mp (show Reps K (Out Γ ((.own [.int a, .int b, .int c], some (.ref p)) :: ps)) H ([a, b, c].map D.int) vs from r)
  subst hvs
  have out : ∀ x, Out (Γ.add p) ((Sl.val (.cell p), some (V.ref p)) :: ps) x → Out Γ ((Sl.own [.int a, .int b, .int c], some (V.ref p)) :: ps) x := fun x z => by
    rcases z with (z | z) | z
    · exact .inl z
    · exact .inr (by rw [z]; exact List.mem_cons_self)
    · exact .inr (List.mem_cons_of_mem _ z)
  refine ⟨I.ok.add, ⟨I.w, _, hv, a, b, c, rfl⟩, fun x o n e t => I.rel x o (fun z => n (.inl z)) e t, nd.2, fun x hx => ⟨fun z => ?_, (I.fr x (List.mem_cons_of_mem _ hx)).2⟩, fun s hs => ?_, fun x cls d H' r w y z => ?_⟩
  · rcases z with z | z
    · exact (I.fr x (List.mem_cons_of_mem _ hx)).1 z
    · exact nd.1 (z ▸ hx)
  · rcases List.mem_cons.mp hs with z | z
    · subst z; exact ⟨.ref p, rfl, rfl⟩
    · exact slot.mono (fun d v r => r.less out) (fun d v r => r.less out) (fun ys e1 a vs e2 e3 => e3) (I.sl s (List.mem_cons_of_mem _ z))
  · refine I.thr x cls d H' (fun y o n e t => ?_) w.1 ⟨y.1, y.2.imp id ?_⟩ z
    · by_cases hy : y = p
      · subst hy
        obtain ⟨pt, hp⟩ := hf.2 o e
        exact absurd hp (t pt)
      · exact r y o (fun z => z.elim n hy) e t
    · rintro ⟨dd, fs, e1, e2, e3, e4⟩
      exact ⟨dd, fs, e1, e2, e3, e4.less fun a z => .inl z⟩
theorem Env.ofBowl (hp : ¬ Γ.S p) (hf : ∀ o, H0 p = some o → ∃ pt, o = .tbl pt) (I : Env K Γ H0 H ps) (J : Env K (Γ.add p) H0 H' qs) : Env K Γ H0 H' qs := by
  refine ⟨I.ok, J.w.1, fun x o n e t => ?_, J.nd, fun a z => ⟨fun s => (J.fr a z).1 (.inl s), (J.fr a z).2⟩, fun s hs => ?_, I.thr⟩
  · by_cases hy : x = p
    · subst hy
      obtain ⟨pt, hp⟩ := hf o e
      exact absurd hp (t pt)
    · exact J.rel x o (fun z => z.elim n hy) e t
  · have out : ∀ x, Out Γ qs x → Out (Γ.add p) qs x := fun x z => z.imp .inl id
    exact slot.mono (fun d v r => r.less out) (fun d v r => r.less out) (fun ys e1 a vs e2 e3 => e3) (J.sl s hs)
/-- a def is called with a new bowl -/
theorem wpE_callBowl {F : Fn} (mono : ∀ B B' ds C X, Sc.le B B' → F B ds C X → F B' ds C X)
    (h : wpO K Γ te ss fun xs => (∃ a b c : Int, xs = [.int a, .int b, .int c]) ∧ ∀ (B : Sc) p, B p → (∀ T, Tb Γ.W T → B.tb T) → F B [.cell p] C fun _ => False) : wpE K Γ (tCall (spF K F) [] E0 (tCons te tNil)) ss C := fun H0 σ H τ hl I Q q =>
  h H0 σ H τ hl I _ fun a xs H2 J ⟨⟨x, y, z, hx⟩, hF⟩ => by
    subst hx
    have hf := J.fr a List.mem_cons_self
    have J1 := J.toBowl
    have b := bowl_new J.ok hf.1
    have one : wpE K (Γ.add a) (tCall (spF K F) [] E0 (fun _ H Q => Q [V.ref a] H)) ss C :=
      wpE_call0 mono fun H0 σ H τ hl I Q q => q [V.ref a] [.cell a] H rfl (I.push (d := .cell a) rfl) (hF (sc (Γ.add a)) a b fun T t => tb_add t)
    exact one H0 σ H2 τ hl J1.drop Q fun v d H3 J3 c => q v d H3 (Env.ofBowl hf.1 hf.2 I J3) c
/-- the list in the slot i becomes a bowl -/
theorem wpS_bowl {i : Nat} {a b c : Int} (h : ss[i]? = some (.own [.int a, .int b, .int c])) (k : ∀ p, ¬ Γ.S p → Γ.Ok → wpS K (Γ.add p) t1 (ss.set i (.val (.cell p))) e) : wpS K Γ t1 ss e := fun H0 σ H τ D hl I kk => by
  have hi : i < ss.length := (List.getElem?_eq_some_iff.mp h).1
  obtain ⟨o, ho⟩ := get_of_len hl h
  have I1 := I.perm ((zip_out h ho).append_right τ)
  obtain ⟨p, vs, e1, _⟩ := I1.sl _ List.mem_cons_self
  have e1 : o = some (.ref p) := e1
  subst e1
  have hf := I1.fr p List.mem_cons_self
  have I2 := I1.toBowl
  have pz := zip_set (s := .val (.cell p)) (o := some (V.ref p)) hl hi
  have es : σ.set i (some (V.ref p)) = σ := by
    obtain ⟨hj, hv⟩ := List.getElem?_eq_some_iff.mp ho
    rw [← hv]; exact List.set_getElem_self hj
  rw [es] at pz
  exact k p hf.1 I.ok H0 σ H τ D (by simp [hl]) (I2.perm (pz.symm.append_right τ))
    ⟨fun ss σ H' hl J c => kk.nx ss σ H' hl (Env.ofBowl hf.1 hf.2 I J) c, fun v d H' J c => kk.rt v d H' (Env.ofBowl hf.1 hf.2 I J) c, fun ss σ H' hl J c => kk.bk ss σ H' hl (Env.ofBowl hf.1 hf.2 I J) c, fun ss σ H' hl J c => kk.ct ss σ H' hl (Env.ofBowl hf.1 hf.2 I J) c⟩
end
end SQ
/-! defs that hand back a new list -/
namespace SQ
open PySem PySem.Spec PyProof.Rows L2
abbrev FnO := Sc → List D → (List D → Prop) → (Exc → Prop) → Prop
abbrev enO (C : List D → Prop) : En := { nx := fun _ => False, rt := rtO C }
theorem start_env {K : PySem.W.Frag} {Γ : Cxt} {H : Hp} {E : XK} {ds : List D} {vs : List V} {N : List Str} (ok : Γ.Ok) (w : Γ.W H) (r : Reps K Γ.S H ds vs)
    (x : ∀ x cls d H2, Rel Γ.S H H2 → Γ.W H2 → RepX K Γ.S H2 x cls d → Γ.X x → E cls d H2) :
    (L2.start N vs).length = (ss0 ds N.length).length ∧ Env K { Γ with E := E } H H ((ss0 ds N.length).zip (L2.start N vs) ++ []) := by
  have hl := r.length
  have I0 : Env K { Γ with E := E } H H [] := ⟨⟨ok.al, ok.st⟩, w, Rel.refl _ _, List.nodup_nil, fun a z => (by cases z), fun p z => (by cases z), fun x1 cls d H' h1 h2 h3 h4 => x x1 cls d H' h1 h2 h3 h4⟩
  have I1 : Env K { Γ with E := E } H H (pile ds vs) := by
    have : ∀ (ds : List D) (vs : List V), Reps K Γ.S H ds vs → Env K { Γ with E := E } H H (pile ds vs) := by
      intro ds
      induction ds with
      | nil => intro vs r; have r : vs = [] := r; subst r; exact I0
      | cons d ds ih =>
        intro vs r
        obtain ⟨v, ws, rfl, a, b⟩ := r
        have J := ih ws b
        refine J.push (a.less fun b z => ?_)
        rcases z with z | z
        · exact z
        · have : owned (pile ds ws) = [] := owned_pile
          rw [this] at z; cases z
    exact this ds vs r
  have I2 := zip_start ds vs (N.length - ds.length) hl I1
  have hz : L2.start N vs = vs.map some ++ List.replicate (N.length - ds.length) none := by
    unfold L2.start; rw [hl]
  exact ⟨by rw [hz]; simp [ss0, hl], by rw [hz, List.append_nil]; exact I2⟩
theorem run_defO {K : PySem.W.Frag} {F : FnO} {vs : List V} {H : Hp} {Q : VK} {E : XK} {N : List Str} {t : TS} (h : spO K F vs H Q E)
    (hb : ∀ (Γ : Cxt) (ds : List D) (C : List D → Prop), Γ.E = E → F (sc Γ) ds C Γ.X → wpS K Γ t (ss0 ds N.length) (enO C)) :
    t { nx := fun _ H' => Q .non H', rt := Q } (L2.start N vs) H := by
  obtain ⟨Γ, ds, C, ok, w, r, f, q, x⟩ := h
  obtain ⟨h1, h2⟩ := start_env (N := N) ok w r x
  refine hb { Γ with E := E } ds C rfl f H (L2.start N vs) H [] _ h1 h2 ⟨fun ss σ H' _ I c => c.elim, fun v s H' I c => ?_, fun ss σ H' _ I c => c.elim, fun ss σ H' _ I c => c.elim⟩
  cases s with
  | val d => exact c.elim
  | un => exact c.elim
  | own xs =>
    obtain ⟨a, ws, e1, e2, e3⟩ := I.sl _ List.mem_cons_self
    have e1 : some v = some (.ref a) := e1
    cases e1
    have hf := I.fr a List.mem_cons_self
    exact q a xs ws H' hf.2 hf.1 I.rel I.w e2 (e3.less fun b z => z.elim .inl fun z => .inr (z ▸ List.mem_cons_self)) c
section
variable {P : Program} {w : World} {K : PySem.W.Frag} {mg : Str → Option Value} {base : Heap} {x : Str} {st : Stmt} {f : Addr} {fd : FuncData} {N ps : List Str} {k : Nat} {F : FnO}
theorem cfo_of {st : Stmt} (Df : Fun K x x st f fd) (hm : mg x = some (.ref f)) (hb : Binds K fd ps []) (S : FnScope N ps (defScope st)) (len : ∀ B ds C X, F B ds C X → ds.length = ps.length)
    (body : ∀ (cdv : Value) (A : Around) (outer : List PySem.Env) (s : Shared) (H : Hp) (E : XK), Room k (A.deeper (envOfC x (defScope st) s.heap.objs.size f cdv)) →
      ∃ t, PSs (cxOf CX0 P w K mg base N x (defScope st) f cdv A outer s H E).nox (defBody st) t ∧ ∀ (Γ : Cxt) (ds : List D) (C : List D → Prop), F (sc Γ) ds C Γ.X → wpS K Γ t (ss0 ds N.length) (enO C)) : CalN P w K mg base (k + 1) x (spO K F) :=
  ⟨f, fd, ps, Df.ok S (fun vs H Q E h => by
      obtain ⟨Γ, ds, C, _, _, r, h, _⟩ := h
      rw [← r.length, len _ _ _ _ h]) (fun cdv A outer s H vs Q E hr h => by
      obtain ⟨t, ht, hw⟩ := body cdv A outer s H E hr
      exact ⟨t, ht, run_defO h fun Γ ds C _ f => hw Γ ds C f⟩), hm, Df.kp, hb⟩
end
/-! the walk through bowls -/
end SQ
local macro_rules | `(tactic| walk_at "wk1") => `(tactic| first
  | ((with_reducible refine SQ.wpE_ixB rfl (by assumption) ?_ ?_); (focus decide); intro _)
  | ((with_reducible refine SQ.wpS_setB rfl (by assumption) ?_ ?_); (focus decide)))
namespace SQ
open PySem PySem.Spec PyProof.Rows L2
theorem log_small {n : Int} (h0 : 0 < n) (h : n < 2 ^ 200) : n.natAbs.log2 < 9000 := by
  have h1 : n.natAbs ≠ 0 := by omega
  have h2 : n.natAbs < 2 ^ 200 := by omega
  have h3 : n.natAbs.log2 < 200 := (Nat.log2_lt h1).mpr h2
  omega
section
variable {K : PySem.W.Frag} {Γ : Cxt} {ss : List Sl} {te : TE}
end
end SQ
/-! slices -/
namespace SQ
open PySem PySem.Spec PyProof.Rows L2
section
variable {K : PySem.W.Frag} {Γ : Cxt} {ss : List Sl} {te : TE} {CO : List D → Prop} {C : D → Prop}
theorem Reps.rev {S : Addr → Prop} {H : Hp} : ∀ {xs : List D} {vs : List V}, Reps K S H xs vs → Reps K S H xs.reverse vs.reverse
  | [], vs, h => by
    have h : vs = [] := h
    subst h; exact rfl
  | x :: xs, vs, h => by
    obtain ⟨v, us, rfl, a, b⟩ := h
    rw [List.reverse_cons, List.reverse_cons]
    exact (Reps.rev b).app ⟨v, [], rfl, a, rfl⟩
theorem wpO_revL (h : wpE K Γ te ss fun d => ∃ xs, d = .lst xs ∧ CO xs.reverse) : wpO K Γ (tRevL K te) ss CO := fun H0 σ H τ hl I Q q =>
  h H0 σ H τ hl I _ fun v d H1 J ⟨xs, e, c⟩ => by
    subst e
    obtain ⟨a, vs, e, n, t, r⟩ := J.val List.mem_cons_self
    refine ⟨a, vs, e, .inl (.inl t), fun p hp => q p xs.reverse _ (J.drop.pushO hp (Reps.rev r)) c⟩
/-- the ends of a slice -/
def wpP (K : PySem.W.Frag) (Γ : Cxt) (tl : TO) (ss : List Sl) (C : Option Int → Prop) : Prop := ∀ H0 σ H τ, σ.length = ss.length → Env K Γ H0 H (ss.zip σ ++ τ) →
  ∀ Q : Option Int → Hp → Prop, (∀ i H2, Env K Γ H0 H2 (ss.zip σ ++ τ) → C i → Q i H2) → tl σ H Q
theorem wpP_no {C : Option Int → Prop} (c : C none) : wpP K Γ tNoPart ss C := fun H0 σ H τ hl I Q q => q none H I c
theorem wpP_some {C : Option Int → Prop} (h : wpE K Γ te ss fun d => ∃ i, d = .int i ∧ C (some i)) : wpP K Γ (tPart te) ss C := fun H0 σ H τ hl I Q q =>
  h H0 σ H τ hl I _ fun v d H2 J ⟨i, e, c⟩ => by
    subst e
    exact ⟨i, J.val List.mem_cons_self, q _ H2 J.drop c⟩
def cutD (xs : List D) (lo hi : Option Int) : List D := (xs.drop (HT.sIx xs.length 0 lo)).take (HT.sIx xs.length xs.length hi - HT.sIx xs.length 0 lo)
def rSlc (K : PySem.W.Frag) : V → Option Int → Option Int → Hp → VK → Prop := fun x lo hi H Q => rSlL K x lo hi H Q ∨ rSlA K x lo hi H Q
theorem sl_any {X : Cx} : L2.SlR X (rSlc X.K) := sl_list.or sl_tupA
/-- a slice's value -/
def wpC (K : PySem.W.Frag) (r : V → Option Int → Option Int → Hp → VK → Prop) (x : D) (lo hi : Option Int) (C : D → Prop) : Prop := ∀ S H v, Live S H → Rep K S H x v →
  ∀ Q : VK, (∀ z d H2, Ext H H2 → Rep K S H2 d z → C d → Q z H2) → r v lo hi H Q
theorem Reps.cut {S : Addr → Prop} {H : Hp} {xs : List D} {vs : List V} (lo hi : Option Int) (r : Reps K S H xs vs) : Reps K S H (cutD xs lo hi) (cutV vs lo hi) := by
  have hl := r.length
  unfold cutD cutV
  rw [hl]
  exact (r.drop _).take _
theorem wpC_L {xs : List D} {lo hi : Option Int} (c : C (.lst (cutD xs lo hi))) : wpC K (rSlc K) (.lst xs) lo hi C := fun S H v l r Q q => by
  obtain ⟨a, vs, rfl, n, t, r⟩ := r
  refine .inl ⟨a, vs, rfl, .inl (.inl t), fun p hp => ?_⟩
  have ex : Ext H (upd H p (.lst (cutV vs lo hi))) := Ext.new hp
  refine q _ (.lst (cutD xs lo hi)) _ ex ⟨p, cutV vs lo hi, rfl, fun z => ?_, upd_same, (r.cut lo hi).ext ex⟩ c
  obtain ⟨o, e, _⟩ := l p z
  rw [hp] at e; cases e
theorem wpC_T {xs : List D} {lo hi : Option Int} (c : C (.tup (cutD xs lo hi))) : wpC K (rSlc K) (.tup xs) lo hi C := fun S H v l r Q q => by
  obtain ⟨a, vs, rfl, t, r⟩ := r
  have hl := r.length
  refine .inr ⟨a, vs, rfl, t, fun w => ?_, fun w p hp => ?_⟩
  · have e : cutD xs lo hi = xs := by
      unfold cutD
      rw [hl, w.1, w.2, List.drop_zero, Nat.sub_zero, ← hl, List.take_length]
    rw [e] at c
    exact q _ (.tup xs) H (Ext.refl H) ⟨a, vs, rfl, t, r⟩ c
  · have ex : Ext H (upd H p (.tup (cutV vs lo hi))) := Ext.new hp
    exact q _ (.tup (cutD xs lo hi)) _ ex ⟨p, cutV vs lo hi, rfl, SqT.of upd_same, (r.cut lo hi).ext ex⟩ c
theorem wpE_sl {r : V → Option Int → Option Int → Hp → VK → Prop} {tl th : TO} (h : wpE K Γ te ss fun x => wpP K Γ tl ss fun lo => wpP K Γ th ss fun hi => wpC K r x lo hi C) : wpE K Γ (L2.tSl r te tl th) ss C := fun H0 σ H τ hl I Q q =>
  h H0 σ H τ hl I _ fun x dx H1 J1 h1 => h1 H0 σ H1 ((.val dx, some x) :: τ) hl (J1.perm (List.perm_middle.symm)) _ fun lo H2 J2 h2 =>
    h2 H0 σ H2 ((.val dx, some x) :: τ) hl J2 _ fun hi H3 J3 h3 => by
      have J4 := J3.perm (List.perm_middle (l₁ := ss.zip σ) (a := (Sl.val dx, some x)) (l₂ := τ))
      refine h3 (Out Γ (ss.zip σ ++ τ)) H3 x J4.drop.live ((J4.val List.mem_cons_self).less fun a z => z) Q fun z d H5 ex r c => ?_
      exact q z d H5 ((J4.drop.ext ex).push r) c
end
section
variable {K : PySem.W.Frag} {C : D → Prop} {xs ds : List D} {i : Int} {ns : List Int} {r : List V → Hp → VK → Prop}
theorem wpR_ixL' (h : ∃ d, atI xs i = some d ∧ C d) : wpR K (rIx K) (.lst xs) (.int i) C := by
  obtain ⟨d, h, c⟩ := h
  exact wpR_ixL h c
theorem wpR_ixT' (h : ∃ d, atI xs i = some d ∧ C d) : wpR K (rIx K) (.tup xs) (.int i) C := by
  obtain ⟨d, h, c⟩ := h
  exact wpR_ixT h c
theorem wpB_frz (h : wpBO K r ds fun ys => C (.lst ys)) : wpB K r ds C := fun S H vs l rx Q q =>
  h S H vs l rx Q fun p ys ws hp ry c => by
    have ex : Ext H (upd H p (.lst ws)) := Ext.new hp
    refine q _ (.lst ys) _ ex ⟨p, ws, rfl, fun z => ?_, upd_same, ry.ext ex⟩ c
    obtain ⟨o, e, _⟩ := l p z
    rw [hp] at e; cases e
theorem wpB_srtL (c : C (.lst ((up ns).map .int))) : wpB K (bSrt K false) [.lst (ns.map D.int)] C := wpB_frz (wpBO_srtL fun ns' h1 h2 => by rw [up_of h1 h2]; exact c)
theorem wpB_srtT (c : C (.lst ((up ns).map .int))) : wpB K (bSrt K false) [.tup (ns.map D.int)] C := wpB_frz (wpBO_srtT fun ns' h1 h2 => by rw [up_of h1 h2]; exact c)
end
end SQ
local macro_rules | `(tactic| walk_at "wk1") => `(tactic| first
  | with_reducible refine SQ.wpE_sl ?_
  | with_reducible refine SQ.wpP_no ?_
  | with_reducible refine SQ.wpP_some ?_
  | with_reducible refine SQ.wpC_L ?_
  | with_reducible refine SQ.wpC_T ?_
  | with_reducible refine SQ.wpO_revL ?_
  | ((with_reducible refine SQ.wpR_ixL' ?_); (try refine ⟨_, rfl, ?_⟩))
  | ((with_reducible refine SQ.wpR_ixT' ?_); (try refine ⟨_, rfl, ?_⟩))
  | with_reducible refine SQ.wpE_frz (SQ.wpO_lst ?_)
  | with_reducible refine SQ.wpE_frz (SQ.wpO_revL ?_)
  | ((with_reducible refine And.intro (Nat.le_of_ble_eq_true ?_) ?_); (focus rfl))
  | with_reducible refine SQ.wpB_srtL ?_
  | with_reducible refine SQ.wpB_srtT ?_
  | with_reducible refine SQ.wpBO_lstL ?_
  | with_reducible refine SQ.wpBO_lstT ?_
  | with_reducible refine SQ.wpO_cb ?_)
namespace SQ
open PySem PySem.Spec PyProof.Rows L2
/-! i, j = a new list, a value -/
section
variable {K : PySem.W.Frag} {Γ : Cxt} {ss : List Sl} {te tb : TE} {e : En}
theorem wpS_parO {i j : Nat} (hi : i < ss.length) (hj : j < ss.length) (h : wpO K Γ te ss fun xs => wpE K Γ tb ss fun y => e.nx ((ss.set i (.own xs)).set j (.val y))) : wpS K Γ (tPar i j (tCons te (tCons tb tNil))) ss e := fun H0 σ H τ D hl I k =>
  h H0 σ H τ hl I _ fun a xs H1 J1 h1 => h1 H0 σ H1 ((.own xs, some (.ref a)) :: τ) hl (J1.perm List.perm_middle.symm) _ fun y d H2 J2 c => by
    have J3 : Env K Γ H0 H2 ((.own xs, some (.ref a)) :: (ss.zip σ ++ ((.val d, some y) :: τ))) := by
      refine J2.perm ?_
      refine (List.Perm.cons _ List.perm_middle).trans ((List.Perm.swap _ _ _).trans (List.Perm.cons _ ?_))
      exact List.perm_middle.symm
    have J4 := J3.store hl hi
    have J5 := (J4.perm (List.perm_middle (l₁ := (ss.set i (.own xs)).zip (σ.set i (some (.ref a)))))).store (i := j) (by simp [hl]) (by simpa using hj)
    exact ⟨_, _, rfl, k.nx _ _ H2 (by simp [hl]) J5 c⟩
end
end SQ
/-! the rules with the written part named: for bodies of comprehensions -/
namespace SQ
open PySem PySem.Spec PyProof.Rows L2
section
variable {X : Cx} {K : PySem.W.Frag}
theorem ix_seqK (h : X.K = K := by rfl) : IxR X (rIx K) := by subst h; exact ix_seq
theorem sl_anyK (h : X.K = K := by rfl) : L2.SlR X (rSlc K) := by subst h; exact sl_any
theorem op_addK (h : X.K = K := by rfl) : OpR X (binaryOp .Add) (rAddA K) := by subst h; exact op_addA
theorem op_mulK (h : X.K = K := by rfl) : OpR X (binaryOp .Mult) (rMulA K) := by subst h; exact op_mulA
theorem op_eqK (hu : X.A.units + 64 < cLine) (h : X.K = K := by rfl) : OpR X (compareOp .Eq) (rEqD K) := by subst h; exact op_eqA hu
theorem op_neK (hu : X.A.units + 64 < cLine) (h : X.K = K := by rfl) : OpR X (compareOp .NotEq) (rNeD K) := by subst h; exact op_neA hu
theorem cr_lenK (h : X.K = K := by rfl) : CallR X (.builtin "len") (bLen K) := by subst h; exact cr_len
theorem cr_sumK (hc : X.calm = true) (h : X.K = K := by rfl) : CallR X (.builtin "sum") (bSum K) := by subst h; exact cr_sumA hc
theorem cr_tupK (h : X.K = K := by rfl) : CallR X (.type "tuple") (bTup K) := by subst h; exact cr_tup
theorem cr_isiK (h : X.K = K := by rfl) : CallR X (.builtin "isinstance") (bIsi K) := by subst h; exact cr_isi
theorem cr_allK (hc : X.calm = true) (h : X.K = K := by rfl) : CallR X (.builtin "all") (bAll K) := by subst h; exact cr_allA hc
theorem cr_srtRK (h : X.K = K := by rfl) : CallRK X (.builtin "sorted") [Str.ofString "reverse"] (bSrtR K) := by subst h; exact cr_srtR
theorem pi_seqK {tg l : Expr} {te : TE} (he : PE X l te) (h : X.K = K := by rfl) : PI X tg l (iSeq K te) := by subst h; exact pi_seq he
end
section
variable {K : PySem.W.Frag} {Γ : Cxt} {ss : List Sl} {te : TE} {e : En} {g : TG}
theorem wpS_asg {us : List Nat} (h : wpE K Γ te ss fun d => wpG K Γ us g d ss e.nx) : wpS K Γ (tAsg te g) ss e := fun H0 σ H τ D hl I k =>
  h H0 σ H τ hl I _ fun v d H2 J c => c H0 σ H2 τ v hl J _ fun ss2 σ2 H3 hl2 _ _ J2 c2 => k.nx ss2 σ2 H3 hl2 J2 c2
end
section
variable {K : PySem.W.Frag} {C : D → Prop} {i j : Int}
theorem wpR_eqI (c : C (.bl (decide (i = j)))) : wpR K (rEqD K) (.int i) (.int j) C := wpR_eqD rfl rfl (by
  have : eqD (.int i) (.int j) = decide (i = j) := by
    by_cases h : i = j
    · subst h; simp
    · simp [h]
  rw [this]; exact c)
theorem wpR_neI (c : C (.bl (decide (i ≠ j)))) : wpR K (rNeD K) (.int i) (.int j) C := wpR_neD rfl rfl (by
  have : (!eqD (.int i) (.int j)) = decide (i ≠ j) := by
    by_cases h : i = j
    · subst h; simp
    · simp [h]
  rw [this]; exact c)
end
end SQ
local macro_rules | `(tactic| walk_at "wk1") => `(tactic| first
  | with_reducible refine SQ.wpR_eqI ?_
  | with_reducible refine SQ.wpR_neI ?_
  | rw [if_pos (by decide)]
  | rw [if_neg (by decide)])
namespace SQ
open PySem PySem.Spec PyProof.Rows L2
end SQ
/-! comprehensions that change a list of their def -/
namespace SQ
open PySem PySem.Spec PyProof.Rows L2
section
variable {K : PySem.W.Frag} {Γ : Cxt} {H0 H H' : Hp} {ps qs τ : Ps} {a : Addr} {d : D} {v : V} {xs : List D} {vs : List V} {ss : List Sl} {σ : L2.St} {C : D → Prop} {te ta tb : TE} {e : En} {wi : TI} {g : TG}
/-- with more on the pile, which may change -/
def wpEX (K : PySem.W.Frag) (Γ : Cxt) (te : TE) (ss : List Sl) (X : Ps) (C : D → Ps → Prop) : Prop := ∀ H0 σ H τ, σ.length = ss.length → Env K Γ H0 H (ss.zip σ ++ (X ++ τ)) →
  ∀ Q : VK, (∀ v d X' H2, Env K Γ H0 H2 ((.val d, some v) :: (ss.zip σ ++ (X' ++ τ))) → C d X' → Q v H2) → te σ H Q
def wpOX (K : PySem.W.Frag) (Γ : Cxt) (te : TE) (ss : List Sl) (X : Ps) (C : List D → Prop) : Prop := ∀ H0 σ H τ, σ.length = ss.length → Env K Γ H0 H (ss.zip σ ++ (X ++ τ)) →
  ∀ Q : VK, (∀ a xs H2, Env K Γ H0 H2 ((.own xs, some (.ref a)) :: (ss.zip σ ++ τ)) → C xs → Q (.ref a) H2) → te σ H Q
def wpSX (K : PySem.W.Frag) (Γ : Cxt) (ts : TS) (ss : List Sl) (X : Ps) (e : En) : Prop := ∀ H0 σ H τ D, σ.length = ss.length → Env K Γ H0 H (ss.zip σ ++ (X ++ τ)) → EnOk K Γ H0 τ e D → ts D σ H
end
section
open PySem.Calls
variable {X : Cx} {K : PySem.W.Frag} {o e : Expr} {es : List Expr} {to : TE} {t : TA} {name : Str} {apos cpos : Pos} {T id : String} {r : V → List V → Hp → VK → Prop}
end
end SQ
/-! small dict displays -/
namespace SQ
open PySem PySem.Spec PyProof.Rows L2
section
variable {K : PySem.W.Frag} {Γ : Cxt} {H0 H : Hp} {ps : Ps} {ss : List Sl} {C : D → Prop} {xs : List D} {i j : Int}
theorem Env.new_dk {p : Addr} {H' : Hp} {kws : List (Key × V)} {ks : List Key} {ds : List D} (I : Env K Γ H0 H ps) (hp : H p = none) (ex : Ext H H') (h : H' p = some (.dK kws)) (hk : kws.map (·.1) = ks) (r : Reps K (Out Γ ps) H' ds (kws.map (·.2))) : Env K Γ H0 H' ((.val (.dk ks ds), some (.ref p)) :: ps) := by
  have hn : ¬ Out Γ ps p := fun z => by
    obtain ⟨o, e, _⟩ := I.live p z
    rw [hp] at e; cases e
  exact (I.ext ex).push (d := .dk ks ds) ⟨p, kws, rfl, hn, h, hk, r⟩
theorem wpE_dnew (c : C (.dk [] [])) : wpE K Γ tDNewK ss C := fun H0 σ H τ hl I Q q => fun p hp =>
  q _ _ _ (I.new_dk (ds := []) hp (Ext.new hp) upd_same rfl Reps.nil) c
theorem wpE_disp1 (c : C (.dk [.inl i] [.int j])) : wpE K Γ (tDisp [(tC (.int i), tC (.int j))]) ss C := fun H0 σ H τ hl I Q q => fun p hp => by
  refine ⟨upd_same, [(.inl i, .int j)], rfl, Nat.le_of_ble_eq_true rfl, ?_⟩
  have ex : Ext H (upd (upd H p (.dK [])) p (.dK (mergeK [] [(Sum.inl i, V.int j)]))) := fun a o e => by
    have hn : a ≠ p := fun z => by rw [z, hp] at e; cases e
    rw [upd_ne hn, upd_ne hn]; exact e
  exact q _ _ _ (I.new_dk (ds := [.int j]) (ks := [.inl i]) (kws := [(.inl i, .int j)]) hp ex upd_same rfl (Reps.one (d := .int j) rfl)) c
end
end SQ
local macro_rules | `(tactic| walk_at "wk1") => `(tactic| first
  | with_reducible refine SQ.wpE_dnew ?_
  | with_reducible refine SQ.wpE_disp1 ?_
  | with_reducible refine SQ.wpE_tup ?_)
namespace SQ
open PySem PySem.Spec PyProof.Rows L2
end SQ
/-! a lambda handed to a def that calls it within a try -/
namespace SQ
open PySem PySem.Spec PyProof.Rows L2
def dOwn : Sl → Sl
  | .own _ => .un
  | s => s
def deown (ss : List Sl) : List Sl := ss.map dOwn
section
variable {K : PySem.W.Frag} {Γ : Cxt} {H0 H H' : Hp} {τ ps : Ps} {ss : List Sl} {σ : L2.St} {C : D → Prop}
theorem owned_map : ∀ (l : Ps), owned (l.map (Prod.map dOwn id)) = []
  | [] => rfl
  | (.un, o) :: r => owned_map r
  | (.val d, o) :: r => owned_map r
  | (.own xs, some (.ref a)) :: r => owned_map r
  | (.own xs, none) :: r => owned_map r
  | (.own xs, some _) :: r => owned_map r
theorem deown_zip : (deown ss).zip σ = (ss.zip σ).map (Prod.map dOwn id) := by
  unfold deown; rw [List.zip_map_left]
/-- within: the def's own lists are left alone -/
theorem Env.freshen {X : Exc → Prop} {E : XK} (I : Env K Γ H0 H (ss.zip σ ++ τ))
    (thr : ∀ x cls d H', Rel (Out Γ (ss.zip σ ++ τ)) H H' → (Γ.sub (ss.zip σ ++ τ) H).W H' → RepX K (Out Γ (ss.zip σ ++ τ)) H' x cls d → X x → E cls d H') :
    Env K { Γ.sub (ss.zip σ ++ τ) H with X := X, E := E } H H ((deown ss).zip σ ++ []) := by
  rw [List.append_nil, deown_zip]
  have ho := owned_map (ss.zip σ)
  refine ⟨⟨I.subOk.al, I.subOk.st⟩, I.subW, Rel.refl _ _, by rw [ho]; exact List.nodup_nil, fun a z => (by rw [ho] at z; cases z), fun p hp => ?_, thr⟩
  obtain ⟨q, hq, rfl⟩ := List.mem_map.mp hp
  have hs := I.sl q (List.mem_append_left _ hq)
  obtain ⟨s, o⟩ := q
  cases s with
  | un => trivial
  | own xs => trivial
  | val d =>
    obtain ⟨v, e, r⟩ := hs
    refine ⟨v, e, r.less fun a z => ?_⟩
    rcases z with z | z
    · exact z
    · rw [ho] at z; cases z
/-- behind code objects that were made -/
theorem Env.extN (I : Env K Γ H0 H ps) (e : LamX.ExtN H H') (w : Γ.W H') : Env K Γ H0 H' ps := by
  have rl : Rel (Out Γ ps) H H' := fun a o _ h n => e a o h n
  refine ⟨I.ok, w, fun a o n h t => e a o (I.rel a o n h t) t, I.nd, I.fr, fun q hq => ?_, I.thr⟩
  refine slot.mono (fun d v r => Rep.rel rl I.live d v r) (fun d v r => Reps.rel rl I.live d v r) (fun ys e1 a vs e2 e3 => e a _ e3 fun ps q => by cases q) (I.sl q hq)
/-- what is made of an error -/
def wpX (K : PySem.W.Frag) (outs : Value → Option Addr → Hp → VK → Prop) (x : Exc) (C : D → Prop) : Prop := ∀ S H cls d, Live S H → RepX K S H x cls d →
  ∀ Q : VK, (∀ z dd H2, Rel S H H2 → (∀ a, S a → H2 a = H a) → Rep K S H2 dd z → C dd → Q z H2) → outs cls d H Q
theorem Env.relS (I : Env K Γ H0 H ps) (r : Rel (Out Γ ps) H H') (s : ∀ a, Out Γ ps a → H' a = H a) : Env K Γ H0 H' ps := by
  refine I.back (H' := H') r ⟨I.ok.st H H' I.w (fun a z => s a (.inl z)) (fun a φ h => ?_), fun a z => s a (.inr z)⟩
  refine r a _ (fun z => ?_) h (fun ps q => by cases q)
  obtain ⟨o, e, m⟩ := I.live a z
  rw [h] at e; cases e; exact m
abbrev tOut (outs : Value → Option Addr → Hp → VK → Prop) : (XK → Hp → VK → Prop) → Hp → VK → Prop := fun tl H Q => tl (fun cls d H' => outs cls d H' Q) H Q
theorem wpE_lam {outs : Value → Option Addr → Hp → VK → Prop} {T : List (Addr × Str)} {t : XK → TE} (tb : Tb Γ.W T)
    (h : ∀ (Γ' : Cxt) (E : XK), Sc.le (sc Γ) (sc Γ') → Γ'.E = E → Γ'.X = (fun x => wpX K outs x C) → wpE K Γ' (t E) (deown ss) C) : wpE K Γ (LamX.tLam T (tOut outs) t) ss C := fun H0 σ H τ hl I Q q => by
  refine ⟨tb.1 H I.w, fun H1 eN tT => ?_⟩
  have I1 : Env K Γ H0 H1 (ss.zip σ ++ τ) := I.extN eN (tb.2 H H1 I.w eN tT)
  show t (fun cls d H' => outs cls d H' Q) σ H1 Q
  have I2 := Env.freshen (X := fun x => wpX K outs x C) (E := fun cls d H' => outs cls d H' Q) I1 fun x cls d H' r w y z => by
    have J := I1.back r w
    refine z _ H' cls d J.live y Q fun v dd H2 e s rd c => ?_
    exact q v dd H2 ((J.relS e s).push rd) c
  refine h _ _ (Sc.sub I1) rfl rfl H1 σ H1 [] (by simp [deown, hl]) I2 Q fun v d H2 J c => ?_
  have hJ := I1.back J.rel J.w
  refine q v d H2 (hJ.push ((J.val List.mem_cons_self).less fun a z => .inl z)) c
end
end SQ
/-! try: return a() / except .. -/
namespace SQ
open PySem PySem.Spec PyProof.Rows L2
def outsL (K : PySem.W.Frag) (n : Nat) (l : List Cls3) : Value → Option Addr → Hp → VK → Prop := fun cls d H Q => ∀ σ : L2.St, σ.length = n → wMix K (fun _ _ _ _ => False) { nx := fun _ H' => Q .non H', rt := Q } l cls d σ H
theorem gives_try {X : Cx} {Ng : List Str} {x a q : Str} {sg : Scope} {g : Addr} {cdg : Value} {l : List Cls3} {h0 : ExceptHandler} {hs : List ExceptHandler} {p1 p2 p3 p8 : Pos} (hN : Ng.Nodup) (hst : ∀ f : Addr, (L2.start Ng [V.ref f])[0]? = some (some (V.ref f)))
    (hh : ∀ (s : Shared) (H : Hp), Clauses (cxOf C8.CX0 X.prog X.w X.K X.mg X.base Ng x sg g cdg X.A X.stack s H C8.E0).nox (h0 :: hs) l) :
    LamX.GivesTo X Ng x sg g cdg [.Try [.Return (some (.Call (.Name a p1) [] [] p2)) p3] (h0 :: hs) [] [] p8] a q (tOut (outsL X.K Ng.length l)) := by
  intro f c' s H Q tl act hc h
  refine ⟨_, pss_one (ps_try_mix (X := (cxOf C8.CX0 X.prog X.w X.K X.mg X.base Ng x sg g cdg X.A X.stack s H C8.E0).nox) (Wo := fun _ _ _ _ => False)
      (tb := fun W D σ H => ∃ Ech : XK, (∀ cls d σ' H', Ech cls d H' → σ'.length = Ng.length → W cls d σ' H') ∧ σ[0]? = some (some (.ref f)) ∧ H c' = some (LamX.CodeO c' q) ∧ tl Ech H D.rt)
      rfl rfl hN LamX.takes0 (fun W pn xe tk _ => ?_) (hh s H)), ?_⟩
  · refine ⟨fun pins s' σ H' D I h' => ?_⟩
    obtain ⟨Ech, hW, h1, h2, h3⟩ := h'
    have tk' : Takes ((cxOf C8.CX0 X.prog X.w X.K X.mg X.base Ng x sg g cdg X.A X.stack s H C8.E0).tr pn xe) (fun cls d σ H => σ.length = Ng.length → W cls d σ H) := fun u s' ⟨a, B, sI, pins, σ, H, cls, d, e, I, nb, up, sky, na, os, ag, w⟩ =>
      tk u s' ⟨a, B, sI, pins, σ, H, cls, d, e, I, nb, up, sky, na, os, ag, w I.len⟩
    have hp := act _ pn xe Ech p1 p2 tk' hW
    have hq := pss_one (ps_ret (pos := p3) hp)
    exact hq.run pins s' σ H' D I ⟨h1, h2, h3⟩
  · exact ⟨fun cls d H' => outsL X.K Ng.length l cls d H' Q, fun cls d σ' H' o hl => o σ' hl, hst f, hc, h⟩
/-! ### the suites -/
/-- the scene of a suite: nothing that stands is changed -/
def scX (S : Addr → Prop) (H : Hp) : Cxt := ⟨S, fun H' => ∀ a, S a → H' a = H a, fun _ _ _ => False, fun _ => False⟩
section
variable {K : PySem.W.Frag} {S : Addr → Prop} {H : Hp} {C : D → Prop} {ts : TS} {Q : VK} {σ : L2.St}
theorem scX_env (lv : Live S H) : ∀ (σ : L2.St), Env K (scX S H) H H ((List.replicate σ.length Sl.un).zip σ ++ []) := fun σ => by
  have I0 : Env K (scX S H) H H [] := ⟨⟨fun H' w a z => by
    obtain ⟨o, e, m⟩ := lv a z
    exact ⟨o, (w a z).trans e, m⟩, fun H1 H2 w h _ a z => (h a z).trans (w a z)⟩, fun _ _ => rfl, Rel.refl _ _, List.nodup_nil, fun a z => (by cases z), fun p z => (by cases z), fun _ _ _ _ _ _ _ z => z.elim⟩
  have : ∀ σ : L2.St, Env K (scX S H) H H ((List.replicate σ.length Sl.un).zip σ) := by
    intro σ
    induction σ with
    | nil => exact I0
    | cons o r ih => exact ih.pushU o
  rw [List.append_nil]; exact this σ
theorem suite_bare (lv : Live S H) (q : ∀ z dd H2, Rel S H H2 → (∀ a, S a → H2 a = H a) → Rep K S H2 dd z → C dd → Q z H2)
    (h : ∀ n, wpS K (scX S H) ts (List.replicate n .un) (en0 C)) : ts { nx := fun _ H' => Q .non H', rt := Q } σ H := by
  refine h σ.length H σ H [] _ (by simp) (scX_env lv σ) ⟨fun ss σ' H' _ I c => ?_, fun v s H' I c => ?_, fun ss σ' H' _ I c => c.elim, fun ss σ' H' _ I c => c.elim⟩
  · exact q .non .non H' I.rel I.w rfl c
  · cases s with
    | val d => exact q v d H' I.rel I.w ((I.val List.mem_cons_self).less fun a z => .inl z) c
    | un => exact c.elim
    | own xs => exact c.elim
theorem new_out {S : Addr → Prop} {H : Hp} {p : Addr} {o : HO} (lv : Live S H) (hp : H p = none) : ¬ S p ∧ Rel S H (upd H p o) ∧ (∀ a, S a → upd H p o a = H a) ∧ Ext H (upd H p o) := by
  have hn : ¬ S p := fun z => by
    obtain ⟨o, e, _⟩ := lv p z
    rw [hp] at e; cases e
  exact ⟨hn, (Ext.new hp).rel, fun a z => upd_ne (fun e => hn (e ▸ z)), Ext.new hp⟩
/-- return [text, e.value] -/
theorem suite_field {i : Nat} {a : Addr} {x fl : Str} {CN : Addr} {cls : Value} {d : Option Addr} {v0 : D} {y : Exc} {D0 : Ends} (hD : D0.rt = Q) (hi : i < σ.length) (lv : Live S H) (ry : RepX K S H y cls d) (hc : y.cls = CN) (hn : y.ns = [fl]) (hd : y.ds = [v0])
    (q : ∀ z dd H2, Rel S H H2 → (∀ a, S a → H2 a = H a) → Rep K S H2 dd z → C dd → Q z H2) (c : C (.lst [.str x, v0])) :
    tRet (tLst (tCons (tC (.str x)) (tCons (tBy1 CN fl a cls d (tVar i)) tNil))) (unb i D0) (σ.set i (some (.ref a))) H := by
  obtain ⟨e1, e2⟩ := ry
  rw [hn] at e2
  rcases e2 with e2 | ⟨dd, fs, e3, e4, e5, e6⟩
  · cases e2
  obtain ⟨v, rfl⟩ : ∃ v, fs = [(fl, v)] := by
    match fs, e5 with
    | [(f, v)], e5 =>
      have : f = fl := by simpa using e5
      exact ⟨v, by rw [this]⟩
  rw [hd] at e6
  obtain ⟨v', ws, e7, rv, e8⟩ := e6
  have e7 : [v] = v' :: ws := e7
  cases e7
  refine ⟨.ref a, by simp [hi], rfl, by rw [e1, hc], dd, v, e3, e4, (by show 2 ≤ sizeLine; decide), fun p hp => ?_⟩
  obtain ⟨h1, h2, h3, h4⟩ := new_out (o := .lst [.str x, v]) lv hp
  show D0.rt _ _
  rw [hD]
  exact q _ (.lst [.str x, v0]) _ h2 h3 ⟨p, [.str x, v], rfl, h1, upd_same, Reps.cons (d := .str x) rfl ((Reps.one rv).ext h4)⟩ c
end
end SQ
/-! defs of the law: called where nothing is being shown, their code object is known -/
namespace SQ
open PySem PySem.Spec PyProof.Rows L2
/-- a def's promise, kept where nothing is being shown -/
structure FnG (P : Program) (w : World) (K : PySem.W.Frag) (mg : Str → Option Value) (base : Heap) (k : Nat) (f : Addr) (fd : FuncData) (ps : List Str) (sp : Sp) : Prop where
  len : ∀ vs H Q E, sp vs H Q E → vs.length = ps.length
  go : ∀ (A : Around) (outer : List PySem.Env) (s : Shared) (H : Hp) (args : Args) (us : List Value) (vs : List V) (Q : VK) (E : XK), A.guards = some [] → Room k A → Env0 P w K mg base A outer s H →
    BindsTo s fd args (ps.zip us) → Vals vs us → sp vs H Q E → codeAny (model P w) A (.call (.ref f) args) (CR CX0 outer P w H s Q E) s
/-- the def stands there, c is its code object -/
structure FunC (K : PySem.W.Frag) (x : Str) (st : Stmt) (f : Addr) (fd : FuncData) (c : Addr) : Prop where
  ex : ∃ (oc : Value) (od : Option Addr) (kV doc pm : Value) (an : Option Addr) (ct : Value) (osl : Array (Option Value)),
    fd = PySem.W.fnOf x x (defArgs st) (defBody st) (defScope st) .none kV doc pm an (.ref c) ct ∧ K.lookup f = some ⟨oc, od, .func fd, osl⟩ ∧ PySem.W.codeIn K (.ref c) x = true
  kp : PySem.W.keepIn K (.ref f) = true
structure CalG (P : Program) (w : World) (K : PySem.W.Frag) (mg : Str → Option Value) (base : Heap) (k : Nat) (x : Str) (sp : Sp) : Prop where
  ex : ∃ (f : Addr) (fd : FuncData) (ps : List Str), FnG P w K mg base k f fd ps sp ∧ mg x = some (.ref f) ∧ PySem.W.keepIn K (.ref f) = true ∧ Binds K fd ps []
abbrev CFG (P : Program) (w : World) (K : PySem.W.Frag) (mg : Str → Option Value) (base : Heap) (k : Nat) (x : Str) (F : Fn) : Prop := CalG P w K mg base k x (spF K F)
section
variable {P : Program} {w : World} {K : PySem.W.Frag} {mg : Str → Option Value} {base : Heap} {x : Str} {st : Stmt} {f c : Addr} {fd : FuncData} {N ps : List Str} {k : Nat} {F : Fn}
theorem fng_of (Df : FunC K x st f fd c) (S : FnScope N ps (defScope st)) (len : ∀ B ds C X, F B ds C X → ds.length = ps.length)
    (body : ∀ (A : Around) (outer : List PySem.Env) (s : Shared) (H : Hp) (E : XK), A.guards = some [] → Room k (A.deeper (envOfC x (defScope st) s.heap.objs.size f (.ref c))) →
      ∃ t, PSs (cxOf CX0 P w K mg base N x (defScope st) f (.ref c) A outer s H E).nox (defBody st) t ∧ ∀ (Γ : Cxt) (ds : List D) (C : D → Prop), F (sc Γ) ds C Γ.X → wpS K Γ t (ss0 ds N.length) (en0 C)) : FnG P w K mg base (k + 1) f fd ps (spF K F) := by
  obtain ⟨oc, od, kV, doc, pm, an, ct, osl, rfl, lk, hcd⟩ := Df.ex
  have hlen : ∀ vs H Q E, spF K F vs H Q E → vs.length = ps.length := fun vs H Q E h => by
    obtain ⟨Γ, ds, C, _, _, r, h, _⟩ := h
    rw [← r.length, len _ _ _ _ h]
  refine ⟨hlen, fun A outer s H args us vs Q E hg hr e0 hb r h => ?_⟩
  refine LamX.run_ofS lk hcd S hr e0 hb r (hlen _ _ _ _ h) fun hr' => ?_
  obtain ⟨t, ht, hw⟩ := body A outer s H E hg hr'
  exact ⟨t, ht.nox, run_def h fun Γ ds C _ f => hw Γ ds C f⟩
theorem cfg_of (Df : FunC K x st f fd c) (hm : mg x = some (.ref f)) (hb : Binds K fd ps []) (S : FnScope N ps (defScope st)) (len : ∀ B ds C X, F B ds C X → ds.length = ps.length)
    (body : ∀ (A : Around) (outer : List PySem.Env) (s : Shared) (H : Hp) (E : XK), A.guards = some [] → Room k (A.deeper (envOfC x (defScope st) s.heap.objs.size f (.ref c))) →
      ∃ t, PSs (cxOf CX0 P w K mg base N x (defScope st) f (.ref c) A outer s H E).nox (defBody st) t ∧ ∀ (Γ : Cxt) (ds : List D) (C : D → Prop), F (sc Γ) ds C Γ.X → wpS K Γ t (ss0 ds N.length) (en0 C)) : CFG P w K mg base (k + 1) x F :=
  ⟨f, fd, ps, fng_of Df S len body, hm, Df.kp, hb⟩
end
section
variable {X : Cx} {k j : Nat} {x : Str} {sp : Sp} {p pos : Pos} {e : Expr} {es : List Expr} {t : TA}
/-- such a def is called -/
theorem pe_g (c : CalG X.prog X.w X.K X.mg X.base k x sp) (hr : Room j X.A) (hk : k ≤ j) (hu : X.A.guards = some []) (hg : Gl X x) (ha : PA X (e :: es) t)
    (hdb : (x == ("__debug__" : Str)) = false := by decide) (he : starEach (e :: es) X.env = (false, eval e X.env) :: starEach es X.env := by rfl) (hpl : (backTo pos (starEach es X.env)).any (·.1) = false := by rfl) :
    PE X (.Call (.Name x p) (e :: es) [] pos) (tCall sp [] E0 t) := by
  obtain ⟨f, fd, ps, F, hm, kp, b⟩ := c.ex
  constructor
  intro pins s σ H Q I h
  apply wpAny_Call_Name_kw
  refine ld_glob I hg hm ?_ hdb
  refine PySem.W.callWith_K (h₀ := X.base) I.ok.mod.kin kp (thn (ha.run pos pins s σ H _ I h) ?_) he hpl
  rintro us s1 ⟨vs, H1, I1, r, q⟩
  refine ⟨I1.kIn, ?_⟩
  have q : sp (vs ++ []) H1 Q E0 := q
  rw [List.append_nil] at q
  have hl : us.length = ps.length := by rw [← r.length]; exact F.len _ _ _ _ q
  have hb := b s1 us I1.kIn (by rw [List.append_nil]; exact hl)
  rw [List.append_nil] at hb
  refine wpAny_call (codeAny_mono (F.go X.A X.stack s1 H1 ⟨us, []⟩ us vs Q E0 hu (hr.mono hk) I1.env0 hb r q) ?_)
  rintro (e' | fl) s2 hq
  · exact (show False from hq).elim
  · cases fl with
    | ret u => exact I1.after hq
    | _ => exact (show False from hq).elim
end
end SQ
/-! repr of trees, where nothing else is being shown -/
namespace SQ
open PySem PySem.Spec PyProof.Rows L2
def keyD : Key → PyData
  | .inl i => .int i
  | .inr x => .str x
mutual
def rp : D → PyData
  | .non => .none
  | .bl b => .bool b
  | .int i => .int i
  | .str x => .str x
  | .tup xs => .tuple (rps xs)
  | .lst xs => .list (rps xs)
  | .dk ks ds => .dict ((ks.map keyD).zip (rps ds))
  | _ => .none
def rps : List D → List PyData
  | [] => []
  | d :: ds => rp d :: rps ds
end
mutual
/-- can be shown: the numbers are not too long -/
def rok : D → Bool
  | .non => true
  | .bl _ => true
  | .int i => decide (i.natAbs < 10 ^ 45)
  | .str x => x.cps.toList.all fun c => decide (c < 16 ^ 8)
  | .tup xs => roks xs
  | .lst xs => roks xs
  | .dk ks ds => (ks.all fun k => match k with | .inl i => decide (i.natAbs < 10 ^ 45) | .inr x => x.cps.toList.all fun c => decide (c < 16 ^ 8)) && roks ds
  | _ => false
def roks : List D → Bool
  | [] => true
  | d :: ds => rok d && roks ds
end
mutual
/-- no list within -/
def nl : D → Bool
  | .lst _ => false
  | .tup xs => nls xs
  | .dk _ ds => nls ds
  | _ => true
def nls : List D → Bool
  | [] => true
  | d :: ds => nl d && nls ds
end
theorem keyIs_reads {h : Heap} {P : Program} {w : World} (k : Key) (v : Value) (e : (mixKind P w).is k v = true) : Reads h v (keyD k) [] := by
  rcases keyIs_shape (k := k) (v := v) e with ⟨i, t, rfl, rfl⟩ | ⟨x, t, rfl, rfl⟩
  · exact Reads.int i t
  · exact Reads.str x t
theorem kv_reads {h : Heap} : ∀ (kws : List (Key × V)) (vs : List (Key × Value)) (ds : List PyData) (as : List Addr), KV kws vs → ReadsAll h (vs.map (·.2)) ds as →
    PyProof.V.PairsRead h keyD vs (((kws.map (·.1)).map keyD).zip ds) as
  | [], _, ds, as, r, q => by
    cases r
    cases q
    exact .nil
  | p :: ps, _, ds, as, r, q => by
    cases r with
    | @cons _ p' _ ps' r1 r2 =>
      cases q with
      | cons q1 q2 =>
        obtain ⟨k, v⟩ := p'
        obtain ⟨e1, _⟩ := r1
        have e1 : p.1 = k := e1
        subst e1
        exact .cons q1 (kv_reads ps ps' _ _ r2 q2)
theorem kv_vals : ∀ {kws : List (Key × V)} {vs : List (Key × Value)}, KV kws vs → Vals (kws.map (·.2)) (vs.map (·.2))
  | [], _, r => by cases r; exact .nil
  | p :: ps, _, r => by
    cases r with
    | cons r1 r2 => exact .cons r1.2 (kv_vals r2)
section
variable {X : Cx} {pins : List (Addr × Obj)} {σ : L2.St} {H : Hp} {s : Shared} {S : Addr → Prop}
mutual
theorem Rep.reads (I : Inv X pins σ H s) : ∀ (d : D) (v : V) (u : Value), rok d = true → Rep X.K S H d v → RelV v u → ∃ as, Reads s.heap u (rp d) as ∧ (nl d = true → sysModules ∉ as)
  | .non, v, u, _, h, r => by have h : v = .non := h; subst h; cases r; exact ⟨_, Reads.none, fun _ => by simp⟩
  | .bl b, v, u, _, h, r => by have h : v = .bl b := h; subst h; cases r; exact ⟨_, Reads.bool b, fun _ => by simp⟩
  | .int i, v, u, _, h, r => by have h : v = .int i := h; subst h; obtain ⟨t, rfl⟩ := r; exact ⟨_, Reads.int i t, fun _ => by simp⟩
  | .str x, v, u, _, h, r => by have h : v = .str x := h; subst h; obtain ⟨t, rfl⟩ := r; exact ⟨_, Reads.str x t, fun _ => by simp⟩
  | .tup xs, v, u, k, h, r => by
    obtain ⟨a, vs, rfl, t, q⟩ := h
    cases r
    obtain ⟨its, rv, ⟨o, ho, hc, n, hd⟩, _⟩ := I.tuple t
    obtain ⟨as, hr, hn⟩ := Reps.reads I xs vs its k q rv
    exact ⟨_, Reads.tuple ho hc hd hr, hn⟩
  | .lst xs, v, u, k, h, r => by
    obtain ⟨a, vs, rfl, _, t, q⟩ := h
    cases r
    obtain ⟨its, rv, ⟨o, n, ho, hc, _, hd⟩, _⟩ := I.list (.inl (.inl t))
    obtain ⟨as, hr, hn⟩ := Reps.reads I xs vs its k q rv
    exact ⟨_, Reads.list ho hc hd hr, fun z => by cases z⟩
  | .dk ks ds, v, u, k, h, r => by
    obtain ⟨a, kws, rfl, _, t, e, q⟩ := h
    cases r
    have k : (_ && roks ds) = true := k
    rw [Bool.and_eq_true] at k
    obtain ⟨_, hs, vs, kv, dd⟩ := dk_of I.hok t
    obtain ⟨as, hr, hn⟩ := Reps.reads I ds _ _ k.2 q (kv_vals kv)
    have pr := kv_reads kws vs _ _ kv hr
    rw [e] at pr
    refine ⟨_, PyProof.V.reads_dictOf (fun k key z => keyIs_reads k key z) dd pr, fun z m => ?_⟩
    rcases List.mem_cons.mp m with m | m
    · exact absurd m.symm (beq_eq_false_iff_ne.mp hs)
    · exact hn z m
  | .cell _, _, _, k, _, _ => by cases k
  | .scr _, _, _, k, _, _ => by cases k
  | .ty _, _, _, k, _, _ => by cases k
  | .ins _ _ _, _, _, k, _, _ => by cases k
theorem Reps.reads (I : Inv X pins σ H s) : ∀ (ds : List D) (vs : List V) (us : List Value), roks ds = true → Reps X.K S H ds vs → Vals vs us → ∃ as, ReadsAll s.heap us (rps ds) as ∧ (nls ds = true → sysModules ∉ as)
  | [], vs, us, _, h, r => by have h : vs = [] := h; subst h; cases r; exact ⟨_, ReadsAll.nil, fun _ => by simp⟩
  | d :: ds, vs, us, k, h, r => by
    obtain ⟨v, ws, rfl, a, b⟩ := h
    have k : (rok d && roks ds) = true := k
    rw [Bool.and_eq_true] at k
    cases r with
    | cons r1 r2 =>
      obtain ⟨as, q1, n1⟩ := Rep.reads I d v _ k.1 a r1
      obtain ⟨bs, q2, n2⟩ := Reps.reads I ds ws _ k.2 b r2
      refine ⟨_, ReadsAll.cons q1 q2, fun z m => ?_⟩
      have z : (nl d && nls ds) = true := z
      rw [Bool.and_eq_true] at z
      rcases List.mem_append.mp m with m | m
      · exact n1 z.1 m
      · exact n2 z.2 m
end
end
end SQ
/-! repr of trees: the rule -/
namespace SQ
open PySem PySem.Spec PyProof.Rows L2
theorem int_short {i : Int} (h : i.natAbs < 10 ^ 45) : (PyData.shown (.int i)).length ≤ 60 := by
  have q : (toString i).length ≤ 46 := int_text_length_le10 (k := 45) (by decide) h
  have z : (PyData.shown (.int i)).length = (toString i).length := PySem.ofString_length _
  omega
theorem int_showable {i : Int} (h : i.natAbs < 10 ^ 45) : i.natAbs.log2 < 1920 := by
  by_cases e : i.natAbs = 0
  · rw [e]; decide
  · have : i.natAbs < 2 ^ 1920 := Nat.lt_of_lt_of_le h (by decide +kernel)
    exact (Nat.log2_lt e).mpr this
theorem kv_show : ∀ (ks : List Key) (ds : List PyData), (ks.all fun k => match k with | .inl i => decide (i.natAbs < 10 ^ 45) | .inr x => x.cps.toList.all fun c => decide (c < 16 ^ 8)) = true → PyData.showableAll ds = true → PyData.leavesShortAll 60 ds = true →
    PyData.showableKv ((ks.map keyD).zip ds) = true ∧ PyData.leavesShortKv 60 ((ks.map keyD).zip ds) = true
  | [], _, _, _, _ => ⟨rfl, rfl⟩
  | _ :: _, [], _, _, _ => ⟨rfl, rfl⟩
  | k :: ks, d :: ds, h, h1, h2 => by
    have h1 : (d.showable && PyData.showableAll ds) = true := h1
    have h2 : (d.leavesShort 60 && PyData.leavesShortAll 60 ds) = true := h2
    rw [List.all_cons] at h
    rw [Bool.and_eq_true] at h h1 h2
    obtain ⟨a, b⟩ := kv_show ks ds h.2 h1.2 h2.2
    have hk : (keyD k).showable = true ∧ (keyD k).leavesShort 60 = true := by
      cases k with
      | inl i =>
        have hi : i.natAbs < 10 ^ 45 := of_decide_eq_true h.1
        exact ⟨decide_eq_true (int_showable hi), decide_eq_true (int_short hi)⟩
      | inr x => exact ⟨rfl, h.1⟩
    refine ⟨?_, ?_⟩
    · show ((keyD k).showable && d.showable && PyData.showableKv ((ks.map keyD).zip ds)) = true
      rw [hk.1, h1.1, a]; rfl
    · show ((keyD k).leavesShort 60 && d.leavesShort 60 && PyData.leavesShortKv 60 ((ks.map keyD).zip ds)) = true
      rw [hk.2, h2.1, b]; rfl
mutual
theorem rok_show : ∀ d : D, rok d = true → (rp d).showable = true ∧ (rp d).leavesShort 60 = true
  | .non, _ => ⟨rfl, rfl⟩
  | .bl _, _ => ⟨rfl, rfl⟩
  | .int i, h => by
    have hi : i.natAbs < 10 ^ 45 := of_decide_eq_true h
    exact ⟨decide_eq_true (int_showable hi), decide_eq_true (int_short hi)⟩
  | .str x, h => ⟨rfl, h⟩
  | .tup xs, h => roks_show xs h
  | .lst xs, h => roks_show xs h
  | .dk ks ds, h => by
    have h : (_ && roks ds) = true := h
    rw [Bool.and_eq_true] at h
    obtain ⟨a, b⟩ := roks_show ds h.2
    exact kv_show ks _ h.1 a b
theorem roks_show : ∀ ds : List D, roks ds = true → PyData.showableAll (rps ds) = true ∧ PyData.leavesShortAll 60 (rps ds) = true
  | [], _ => ⟨rfl, rfl⟩
  | d :: ds, h => by
    have h : (rok d && roks ds) = true := h
    rw [Bool.and_eq_true] at h
    obtain ⟨a, b⟩ := rok_show d h.1
    obtain ⟨a', b'⟩ := roks_show ds h.2
    refine ⟨?_, ?_⟩
    · show ((rp d).showable && PyData.showableAll (rps ds)) = true
      rw [a, a']; rfl
    · show ((rp d).leavesShort 60 && PyData.leavesShortAll 60 (rps ds)) = true
      rw [b, b']; rfl
end
theorem shown_small {d : D} (h : rok d = true) (hw : (rp d).weight ≤ 200000) : (rp d).shown.length ≤ sizeLine := by
  have := PyData.shown_le 60 (by decide) (rp d) (rok_show d h).2
  have e : sizeLine = 16777216 := by decide
  omega
/-- repr([..]) -/
def rRepr (K : PySem.W.Frag) : List V → Hp → VK → Prop := fun xs H Q => ∃ (S : Addr → Prop) (v : V) (ys : List D), xs = [v] ∧ Rep K S H (.lst ys) v ∧ roks ys = true ∧ (nls ys = true ∨ PyData.hasDictAll (rps ys) = false) ∧
  (PyData.list (rps ys)).weight ≤ 200000 ∧ PyData.depthAll (rps ys) ≤ 60 ∧ Q (.str (rp (.lst ys)).shown) H
section
variable {K : PySem.W.Frag} {C : D → Prop} {ys : List D}
theorem wpR_neS {x y : Str} (c : C (.bl (!(x == y)))) : wpR K rNe (.str x) (.str y) C := fun S H v w l rx ry Q q => by
  have e1 : v = .str x := rx
  have e2 : w = .str y := ry
  subst e1 e2
  refine ⟨rfl, ?_⟩
  rw [dec_str]
  exact q _ (.bl _) H (Ext.refl H) rfl c
theorem wpR_eqS {x y : Str} (c : C (.bl (x == y))) : wpR K rEq (.str x) (.str y) C := fun S H v w l rx ry Q q => by
  have e1 : v = .str x := rx
  have e2 : w = .str y := ry
  subst e1 e2
  refine ⟨rfl, ?_⟩
  rw [dec_str]
  exact q _ (.bl _) H (Ext.refl H) rfl c
end
end SQ
/-! a lambda handed over, by the def that makes it -/
namespace SQ
open PySem PySem.Spec PyProof.Rows L2
def lamQ (x : Str) : Str := x ++ ".<locals>." ++ "<lambda>"
/-- the def that takes the lambda stands -/
structure Giv (K : PySem.W.Frag) (mg : Str → Option Value) (x : Str) (st : Stmt) (a : Str) : Prop where
  ex : ∃ (g : Addr) (fd : FuncData), Fun K x x st g fd ∧ mg x = some (.ref g) ∧ Binds K fd [a] []
section
variable {X : Cx} {T : List (Addr × Str)} {outs : Value → Option Addr → Hp → VK → Prop} {x a : Str} {c P : Addr} {j : Nat} {st : Stmt} {Ng : List Str} {params : Arguments} {body : Expr} {scope : Scope} {t : XK → TE} {p lpos pos : Pos}
theorem pe_lam (k : Nat) (q : Str) (sc0 : Scope) (hq : X.env.qual = q ++ ".<locals>.") (hsc : X.env.scope = sc0) (G : Giv X.K X.mg x st a) (Sg : FnScope Ng [a] (defScope st)) (hNg : Ng[0]? = some a) (hva : Vis (defScope st) a) (hG : ∀ (g : Addr) (cdg : Value), LamX.GivesTo X Ng x (defScope st) g cdg (defBody st) a (lamQ q) (tOut outs))
    (TB : LamX.TabB X.base X.mg c P) (hcode : X.env.code = .ref c) (hmT : (P, lamQ q) ∈ T) (hu : ∀ p ∈ T, p.1 = P → p.2 = lamQ q) (hr : Room j X.A) (hk : k + 2 ≤ j) (hg : Gl X x) (L : LamX.LamS sc0 scope) (hdef : defaultsOf params X.env = ([], []))
    (hbind : ∀ (q : Str) (cl : List (Str × Addr)) (pm cv ctv : Value), bindArgs (PySem.W.kla_fn "<lambda>" q params body scope cl pm cv ctv) ⟨[], []⟩ = pure [])
    (hbody : ∀ (A : Around) (outer : List PySem.Env) (s : Shared) (H : Hp) (E : XK) (f c' : Addr), Room k (A.deeper (LamX.lamEnv X scope s.heap.objs.size f c')) → PE (LamX.lamCx X A outer s H E scope f c') body (t E))
    (hdb : (x == ("__debug__" : Str)) = false := by decide) (hd : (a == ("__debug__" : Str)) = false := by decide) (hcd : (a == ("__classdict__" : Str)) = false := by decide) :
    PE X (.Call (.Name x p) [.Lambda params body scope lpos] [] pos) (LamX.tLam T (tOut outs) t) := by
  subst hsc
  have eq : X.env.qual ++ "<lambda>" = lamQ q := by rw [hq]; rfl
  rw [← eq] at hmT
  simp only [← eq] at hG hu
  obtain ⟨g, fd, Df, hm, hb⟩ := G.ex
  obtain ⟨oc, od, kV, doc, pm, an, cdv, ct, osl, rfl, lk, hcg⟩ := Df.ex
  exact LamX.pe_lamcall hg hm Df.kp lk hcg hb Sg hNg hva (hG g cdv) TB hcode hmT hu (hr.mono hk) L hdef hbind hbody hdb hd hcd
end
def rIsNotB : R2 := fun x y H Q => ∃ a b, x = .bl a ∧ y = .bl b ∧ Q (.bl (!decide (a = b))) H
def rIsB' : R2 := fun x y H Q => ∃ a b, x = .bl a ∧ y = .bl b ∧ Q (.bl (decide (a = b))) H
section
variable {K : PySem.W.Frag} {C : D → Prop} {a b : Bool}
theorem wpR_notB (c : C (.bl (!(a == b)))) : wpR K rIsNotB (.bl a) (.bl b) C := fun S H v w l rx ry Q q => by
  have e1 : v = .bl a := rx
  have e2 : w = .bl b := ry
  subst e1 e2
  refine ⟨a, b, rfl, rfl, q _ (.bl _) H (Ext.refl H) rfl ?_⟩
  cases a <;> cases b <;> exact c
theorem wpR_isB (c : C (.bl (a == b))) : wpR K rIsB' (.bl a) (.bl b) C := fun S H v w l rx ry Q q => by
  have e1 : v = .bl a := rx
  have e2 : w = .bl b := ry
  subst e1 e2
  refine ⟨a, b, rfl, rfl, q _ (.bl _) H (Ext.refl H) rfl ?_⟩
  cases a <;> cases b <;> exact c
end
end SQ
/-! trees of ints can be shown -/
namespace SQ
open PySem PySem.Spec PyProof.Rows L2
@[simp] theorem rok_bl {b : Bool} : rok (.bl b) = true := rfl
@[simp] theorem rok_non : rok .non = true := rfl
@[simp] theorem rok_tup {xs : List D} : rok (.tup xs) = roks xs := rfl
@[simp] theorem rok_lst {xs : List D} : rok (.lst xs) = roks xs := rfl
@[simp] theorem rok_int {i : Int} : rok (.int i) = decide (i.natAbs < 10 ^ 45) := rfl
@[simp] theorem roks_nil : roks [] = true := rfl
@[simp] theorem roks_cons {d : D} {ds : List D} : roks (d :: ds) = (rok d && roks ds) := rfl
@[simp] theorem nl_bl {b : Bool} : nl (.bl b) = true := rfl
@[simp] theorem nl_non : nl .non = true := rfl
@[simp] theorem nl_str {b : Str} : nl (.str b) = true := rfl
@[simp] theorem nl_int {b : Int} : nl (.int b) = true := rfl
@[simp] theorem nl_tup {xs : List D} : nl (.tup xs) = nls xs := rfl
@[simp] theorem nls_nil : nls [] = true := rfl
@[simp] theorem nls_cons {d : D} {ds : List D} : nls (d :: ds) = (nl d && nls ds) := rfl
@[simp] theorem rps_nil : rps [] = [] := rfl
@[simp] theorem rps_cons {d : D} {ds : List D} : rps (d :: ds) = rp d :: rps ds := rfl
@[simp] theorem rp_bl {b : Bool} : rp (.bl b) = .bool b := rfl
@[simp] theorem rp_non : rp .non = .none := rfl
@[simp] theorem rp_int {b : Int} : rp (.int b) = .int b := rfl
@[simp] theorem rp_str {b : Str} : rp (.str b) = .str b := rfl
@[simp] theorem rp_tup {xs : List D} : rp (.tup xs) = .tuple (rps xs) := rfl
@[simp] theorem rp_lst {xs : List D} : rp (.lst xs) = .list (rps xs) := rfl
theorem pyk_lst {n : Nat} {xs : List D} : pyk (n + 1) (.lst xs) = pyks n xs := rfl
theorem pyk_tup {n : Nat} {xs : List D} : pyk (n + 1) (.tup xs) = pyks n xs := rfl
theorem pyks_cons {n : Nat} {d : D} {xs : List D} : pyks n (d :: xs) = (pyk n d && pyks n xs) := by
  cases n <;> rfl
theorem pyks_nil {n : Nat} : pyks n [] = true := by
  cases n <;> rfl
theorem pyk_int {n : Nat} {i : Int} : pyk n (.int i) = true := by
  cases n <;> rfl
theorem pyk_bl {n : Nat} {i : Bool} : pyk n (.bl i) = true := by
  cases n <;> rfl
end SQ
/-! the end: the law is called where nothing is being shown, with tables of code objects -/
namespace SQ
open PySem PySem.Spec PyProof.Rows L2
/-- the script's list as it lies -/
abbrev lobj (us : List Value) : Obj := { cls := .type "list", data := .seq us.toArray }
abbrev tob : Obj := { cls := .none, data := .fields #[] }
/-- what is tracked at the start: the tables, the script if it is not one of the text's own lists -/
def hp0 (K : PySem.W.Frag) (ts : List Addr) (a : Addr) (us : List Value) (ns : List Int) : Hp := fun b =>
  if b ∈ ts then some (.tbl #[]) else if b = a ∧ (K.lookup a).isNone = true then some (.frz (lobj us) (.lst (ns.map V.int))) else none
section
variable {K : PySem.W.Frag} {ts : List Addr} {a b : Addr} {us : List Value} {ns : List Int}
theorem hp0_tab (h : b ∈ ts) : hp0 K ts a us ns b = some (.tbl #[]) := if_pos h
theorem hp0_cases (h : hp0 K ts a us ns b ≠ none) : b ∈ ts ∨ (b ∉ ts ∧ b = a ∧ K.lookup a = none ∧ hp0 K ts a us ns b = some (.frz (lobj us) (.lst (ns.map V.int)))) := by
  by_cases h1 : b ∈ ts
  · exact .inl h1
  · refine .inr ⟨h1, ?_⟩
    unfold hp0 at h ⊢
    rw [if_neg h1] at h ⊢
    by_cases h2 : b = a ∧ (K.lookup a).isNone = true
    · rw [if_pos h2]
      exact ⟨h2.1, by simpa using h2.2, rfl⟩
    · rw [if_neg h2] at h
      exact absurd rfl h
end
theorem call_end {P : Program} {w : World} {K : PySem.W.Frag} {mg mb : Str → Option Value} {k : Nat} {fa a : Addr} {cs : List (Addr × Addr)} {fd : FuncData} {x : Str} {sp : Sp} {s : Shared} {us : List Value} {ns : List Int}
    (kin : K.In s.heap) (gm : s.heap.Ns mainGlobals mg) (gb : s.heap.Ns builtinsNs mb) (boot : ∀ x : Str, x ≠ "__name__" → mb x = bootBuiltins x) (lim : s.heap.NoLimit) (gens : s.gens = #[])
    (tab : ∀ p ∈ cs, s.heap.get? p.2 = some tob) (ntab : ∀ p ∈ cs, K.lookup p.2 = none) (cod : ∀ p ∈ cs, PySem.W.codeHdIn K p.1 p.2 = true)
    (bmn : ∃ (bm : Addr) (ob : Obj), mg "__builtins__" = some (.ref bm) ∧ bm ≠ builtinsNs ∧ s.heap.get? bm = some ob ∧ ob.cls = .type "module" ∧ ob.dict = some builtinsNs ∧ ob.data = .plain)
    (scr : s.heap.get? a = some (lobj us)) (hin : IntsAre us ns) (len : ns.length ≤ sizeLine) (room : Room k callerA)
    (F : ∀ base : Heap, K.In base → base.Ns mainGlobals mg → (∀ p ∈ cs, LamX.TabB base mg p.1 p.2) → FnG P w K mg base k fa fd [x] sp) (bind : ∀ (s : Shared) (u : Value), BindsTo s fd ⟨[u], []⟩ [(x, u)])
    (pre : ∀ H : Hp, (∀ p ∈ cs, H p.2 = some (.tbl #[])) → SqL K H a (ns.map V.int) → sp [.ref a] H (fun v _ => v = .bl true) E0) :
    codeAny (model P w) callerA (.call (.ref fa) ⟨[.ref a], []⟩) (fun r s' => r = .ok (.ret (.bool true)) ∧ OldK s.heap s'.heap ∧ s'.os = s.os ∧ AllBare s'.gens) s := by
  have vals := vals_ints hin
  have tabs : ∀ b ∈ cs.map (·.2), s.heap.get? b = some tob ∧ K.lookup b = none := by
    intro b hb
    obtain ⟨p, hp, rfl⟩ := List.mem_map.mp hb
    exact ⟨tab p hp, ntab p hp⟩
  have off : a ∉ cs.map (·.2) := by
    intro hb
    have e := (tabs a hb).1
    rw [scr] at e
    have e := congrArg Obj.cls (Option.some.inj e)
    cases e
  generalize hH : hp0 K (cs.map (·.2)) a us ns = H
  have Htab : ∀ b ∈ cs.map (·.2), H b = some (.tbl #[]) := fun b hb => by rw [← hH]; exact hp0_tab hb
  have Hcase : ∀ b, H b ≠ none → b ∈ cs.map (·.2) ∨ (b ∉ cs.map (·.2) ∧ b = a ∧ K.lookup a = none ∧ H b = some (.frz (lobj us) (.lst (ns.map V.int)))) := fun b hb => by
    subst hH
    exact hp0_cases hb
  -- what stands there and is neither a table nor the script is not tracked
  have out : ∀ {b : Addr} {o : Obj}, s.heap.get? b = some o → o ≠ tob → o ≠ lobj us → H b = none := by
    intro b o e n1 n2
    cases q : H b with
    | none => rfl
    | some u =>
      rcases Hcase b (by rw [q]; simp) with z | ⟨_, rfl, _, _⟩
      · rw [(tabs b z).1] at e
        exact absurd (Option.some.inj e).symm n1
      · rw [scr] at e
        exact absurd (Option.some.inj e).symm n2
  have isdict : ∀ {b : Addr} {m : Str → Option Value}, s.heap.Ns b m → (hidT s.heap H).Ns b m := by
    rintro b m ⟨o, es, ep, e, d, rest⟩
    refine ⟨o, es, ep, hidT_get e (out e ?_ ?_), d, rest⟩ <;> (intro z; rw [z] at d; cases d)
  have kbase : K.In (hidT s.heap H) := by
    intro b o e
    refine hidT_get (kin b o e) ?_
    cases q : H b with
    | none => rfl
    | some u =>
      rcases Hcase b (by rw [q]; simp) with z | ⟨_, rfl, z, _⟩
      · rw [(tabs b z).2] at e; cases e
      · rw [z] at e; cases e
  have held : HOk P w H s.heap := by
    intro b u e
    rcases Hcase b (by rw [e]; simp) with z | ⟨_, rfl, _, z⟩
    · rw [Htab b z] at e
      cases e
      exact (tabs b z).1
    · rw [z] at e
      cases e
      refine ⟨scr, ?_, us, _, vals, scr⟩
      rw [List.length_map]; exact len
  have list : SqL K H a (ns.map V.int) := by
    cases q : K.lookup a with
    | none =>
      refine .inl (.inr ⟨lobj us, ?_⟩)
      rw [← hH]
      unfold hp0
      rw [if_neg off, if_pos ⟨rfl, by rw [q]; rfl⟩]
    | some o =>
      have e := kin a o q
      rw [scr] at e
      cases e
      exact .inr ⟨_, us.toArray, _, q, rfl, rfl, rfl, by simpa [vals.length.symm] using len, by simpa using vals⟩
  have tb : ∀ p ∈ cs, LamX.TabB (hidT s.heap H) mg p.1 p.2 := by
    intro p hp
    refine ⟨PySem.W.codeHd_of_K kbase (cod p hp), ?_, ?_⟩
    · obtain ⟨bm, ob, b1, b2, b3, b4, b5, b6⟩ := bmn
      refine ⟨bm, ob, b1, b2, ?_, ?_, hidT_get b3 (out b3 ?_ ?_), b4, b5, b6⟩
      · rintro rfl
        obtain ⟨o, es, ep, e, d, _⟩ := gm
        rw [b3] at e; cases e
        rw [b6] at d; cases d
      · intro z
        have e := tab p hp
        rw [← z, b3] at e
        cases e
        cases b4
      · rintro rfl; cases b4
      · rintro rfl; cases b6
    · intro z
      obtain ⟨o, es, ep, e, d, _⟩ := gm
      rw [z, tab p hp] at e
      cases e
      cases d
  have env : Env0 P w K mg (hidT s.heap H) callerA [] s H := by
    refine ⟨rfl, ⟨kbase, isdict gm, ⟨mb, isdict gb, boot⟩, ?_⟩, fun b o e => of_hidT e, Nat.le_of_eq (hidT_size _ _), trivial, fun b z => (List.not_mem_nil z).elim, held, .of_eq gens⟩
    obtain ⟨mc, l1, l2⟩ := lim
    exact ⟨mc, isdict l1, l2⟩
  have run := (F _ kbase (isdict gm) tb).go callerA [] s H ⟨[.ref a], []⟩ [.ref a] [.ref a] (fun v _ => v = .bl true) E0 rfl room env (bind s (.ref a)) (.cons rfl .nil) (pre H (fun p hp => Htab _ (List.mem_map.mpr ⟨p, hp, rfl⟩)) list)
  refine codeAny_mono run ?_
  rintro (e | fl) s' r
  · exact (show False from r).elim
  cases fl with
  | ret u =>
    obtain ⟨v, H', same, bare, un, held', rv, rfl⟩ := r
    have rv : u = .bool true := rv
    subst rv
    have grown : ∀ b ∈ cs.map (·.2), ∃ more : Array Value, s'.heap.get? b = some { cls := .none, data := .fields more } := by
      intro b hb
      obtain ⟨more, z⟩ := un.tbls b #[] (Htab b hb)
      exact ⟨_, held' b _ z⟩
    have stays : ∀ b o, b ∉ cs.map (·.2) → s.heap.get? b = some o → s'.heap.get? b = some o := by
      intro b o nb e
      cases q : H b with
      | none => exact un.keep b o e q List.not_mem_nil List.not_mem_nil
      | some u =>
        rcases Hcase b (by rw [q]; simp) with z | ⟨_, rfl, _, z⟩
        · exact absurd z nb
        · have h1 := (held b _ z).1
          have h2 := (held' b _ (un.frzs b _ _ z)).1
          rw [e] at h1
          rw [h2, h1]
    refine ⟨rfl, ⟨fun b o e => ?_, fun b o e => ?_⟩, same, bare⟩
    · by_cases hb : b ∈ cs.map (·.2)
      · obtain ⟨more, hm⟩ := grown b hb
        obtain ⟨p, hp, rfl⟩ := List.mem_map.mp hb
        rw [tab p hp] at e
        cases e
        have ct := ((PySem.W.codeHd_of_K kin (cod p hp)).tab (tab p hp)).isCodeTable
        exact .inr (.inl ⟨ct, rfl, #[], more, rfl, by rw [Array.empty_append]; exact hm⟩)
      · exact .inl (stays b o hb e)
    · by_cases hb : b ∈ cs.map (·.2)
      · obtain ⟨more, hm⟩ := grown b hb
        exact ⟨_, hm⟩
      · exact ⟨o, stays b o hb e⟩
  | _ => exact (show False from r).elim
end SQ
namespace SQ
open PySem PySem.Spec PyProof.Rows L2
/-- what the head's facts must give -/
structure Ends (P : Program) (w : World) (k n : Nat) (x : Str) (mg : Str → Option Value) (fa : Addr) (h : Heap) : Prop where
  ex : ∃ (K : PySem.W.Frag) (fd : FuncData) (cs : List (Addr × Addr)) (sp : Sp), K.In h ∧ (∀ p ∈ cs, h.get? p.2 = some tob) ∧ (∀ p ∈ cs, K.lookup p.2 = none) ∧ (∀ p ∈ cs, PySem.W.codeHdIn K p.1 p.2 = true) ∧
    (∀ (s : Shared) (u : Value), BindsTo s fd ⟨[u], []⟩ [(x, u)]) ∧
    (∀ (H : Hp) (a : Addr) (ns : List Int), ns.length ≤ n → (∀ z ∈ ns, Builtin.Int.intBits z ≤ 1048576) → (∀ p ∈ cs, H p.2 = some (.tbl #[])) → SqL K H a (ns.map V.int) → sp [.ref a] H (fun v _ => v = .bl true) E0) ∧
    ∀ base : Heap, K.In base → base.Ns mainGlobals mg → (∀ p ∈ cs, LamX.TabB base mg p.1 p.2) → FnG P w K mg base k fa fd [x] sp
theorem walk_end {l : PySem.W.OpenLaw} {n k : Nat} {q : Program} {loose : List Str} {XP : (Str → Option Value) → Heap → Prop} {YP : World → Heap → Prop} {d : DefRec} {x : Str}
    (most : l.most = some n) (fits : n ≤ sizeLine) (nodef : d.params.defaults = []) (room : Room k callerA)
    (F : ∀ (w : World) (mg : Str → Option Value) (fa : Addr) (h : Heap), YP w h → h.Ns mainGlobals mg → mg d.name = some (.ref fa) → Ends l.prog w k n x mg fa h) :
    PySem.W.WalkO q loose XP YP l.row.toRowW d [] (fun f vs => PySem.call f vs) := by
  apply Att.attach_callB most nodef
  intro w s0 s1 mg mb fa o pm cd doc a us ns gr yp _ _ _ at_ lies hin hl bits gens
  obtain ⟨K, fd, cs, sp, kin, tab, ntab, cod, bind, pre, run⟩ := (F w mg fa _ yp gr.T.g at_).ex
  exact call_end kin gr.T.g gr.T.b gr.T.builtins gr.T.nolimit gens tab ntab cod gr.T.bmain lies hin (Nat.le_trans hl fits) room run bind fun H t s => pre H a ns hl bits t s
/-- the scene at the start -/
def cx0 (T : List (Addr × Str)) : Cxt := ⟨fun a => a ∈ T.map (·.1), fun H => LamX.Tabs T H, fun _ _ _ => False, fun _ => False⟩
theorem cx0_ok (T : List (Addr × Str)) : (cx0 T).Ok := by
  refine ⟨fun H w a z => ?_, fun H H' w same ext => ?_⟩
  · obtain ⟨p, hp, rfl⟩ := List.mem_map.mp z
    obtain ⟨ps, e, _, _⟩ := w p hp
    exact ⟨_, e, trivial⟩
  · intro p hp
    obtain ⟨ps, e, t, c⟩ := w p hp
    refine ⟨ps, (same _ (List.mem_map.mpr ⟨p, hp, rfl⟩)).trans e, t, fun pos cv z => ?_⟩
    obtain ⟨c', e1, e2⟩ := c pos cv z
    exact ⟨c', e1, ext c' _ e2⟩
theorem cx0_tb (T : List (Addr × Str)) : Tb (cx0 T).W T := ⟨fun H w => w, fun H H' _ _ t => t⟩
/-- the law's promise at the start -/
theorem law_pre {K : PySem.W.Frag} {F : Fn} {T : List (Addr × Str)} {H : Hp} {a : Addr} {ns : List Int} (tb : ∀ p ∈ T, H p.1 = some (.tbl #[])) (sl : SqL K H a (ns.map V.int)) (h : F (sc (cx0 T)) [.scr ns] (fun d => d = .bl true) fun _ => False) :
    spF K F [.ref a] H (fun v _ => v = .bl true) E0 := by
  refine ⟨cx0 T, [.scr ns], fun d => d = .bl true, cx0_ok T, fun p hp => LamX.TabS.nil (tb p hp), ⟨.ref a, [], rfl, ⟨a, rfl, ?_⟩, rfl⟩, h, fun v d H2 _ _ r c => ?_, fun x cls d H2 _ _ _ z => z.elim⟩
  · rcases sl with sl | sl
    · refine .inl ⟨fun z => ?_, sl⟩
      obtain ⟨p, hp, rfl⟩ := List.mem_map.mp z
      rcases sl with e | ⟨o, e⟩ <;> (rw [tb p hp] at e; cases e)
    · exact .inr (.inr sl)
  · subst c
    exact r
end SQ
/-! facts of the top, as the head tells them -/
namespace SQ
open PySem PySem.Spec PyProof.Rows L2
structure DefF (K : PySem.W.Frag) (mg : Str → Option Value) (x : Str) (st : Stmt) (ps : List Str) : Prop where
  ex : ∃ (f : Addr) (fd : FuncData), Fun K x x st f fd ∧ mg x = some (.ref f) ∧ Binds K fd ps []
structure DefC (K : PySem.W.Frag) (mg : Str → Option Value) (x : Str) (st : Stmt) (ps : List Str) (c : Addr) : Prop where
  ex : ∃ (f : Addr) (fd : FuncData), FunC K x st f fd c ∧ mg x = some (.ref f) ∧ Binds K fd ps [] ∧ ∀ us : List Value, us.length = ps.length → bindArgs fd ⟨us, []⟩ = pure (ps.zip us)
section
variable {K : PySem.W.Frag} {mg : Str → Option Value} {h : Heap} {x : Str} {st : Stmt} {ps : List Str} {f c : Addr} {oc kV doc pm cdv ct : Value} {od an : Option Addr} {osl : Array (Option Value)}
theorem defF (X : K.In h) (G : h.Ns mainGlobals mg) (a : PySem.W.nsIn K mainGlobals x = some (some (.ref f))) (l : K.lookup f = some ⟨oc, od, .func (PySem.W.fnOf x x (defArgs st) (defBody st) (defScope st) .none kV doc pm an cdv ct), osl⟩)
    (cd : PySem.W.codeIn K cdv x = true) (k : PySem.W.keepIn K (.ref f) = true)
    (b : ∀ (kV doc pm : Value) (an : Option Addr) (cdv ct : Value) (us : List Value), us.length = ps.length → bindArgs (PySem.W.fnOf x x (defArgs st) (defBody st) (defScope st) .none kV doc pm an cdv ct) ⟨us, []⟩ = pure (ps.zip us)) : DefF K mg x st ps := by
  have F : Fun K x x st f (PySem.W.fnOf x x (defArgs st) (defBody st) (defScope st) .none kV doc pm an cdv ct) := ⟨⟨oc, od, kV, doc, pm, an, cdv, ct, osl, rfl, l, cd⟩, k⟩
  exact ⟨f, _, F, PySem.W.mg_of X G a, F.binds b⟩
theorem defC (X : K.In h) (G : h.Ns mainGlobals mg) (a : PySem.W.nsIn K mainGlobals x = some (some (.ref f))) (l : K.lookup f = some ⟨oc, od, .func (PySem.W.fnOf x x (defArgs st) (defBody st) (defScope st) .none kV doc pm an (.ref c) ct), osl⟩)
    (cd : PySem.W.codeIn K (.ref c) x = true) (k : PySem.W.keepIn K (.ref f) = true)
    (b : ∀ (kV doc pm : Value) (an : Option Addr) (cdv ct : Value) (us : List Value), us.length = ps.length → bindArgs (PySem.W.fnOf x x (defArgs st) (defBody st) (defScope st) .none kV doc pm an cdv ct) ⟨us, []⟩ = pure (ps.zip us)) : DefC K mg x st ps c := by
  have F : Fun K x x st f (PySem.W.fnOf x x (defArgs st) (defBody st) (defScope st) .none kV doc pm an (.ref c) ct) := ⟨⟨oc, od, kV, doc, pm, an, .ref c, ct, osl, rfl, l, cd⟩, k⟩
  exact ⟨f, _, ⟨⟨oc, od, kV, doc, pm, an, ct, osl, rfl, l, cd⟩, k⟩, PySem.W.mg_of X G a, F.binds b, b _ _ _ _ _ _⟩
theorem own0 {C : Addr} (X : K.In h) (G : h.Ns mainGlobals mg) {B newId initId : String} {bm : List Value} (F : ExcBaseFacts B newId initId bm) (a : PySem.W.nsIn K mainGlobals x = some (some (.ref C))) (e : PySem.W.excIn K C bm newId = true) (k : PySem.W.keepIn K (.ref C) = true)
    (h1 : PySem.W.subIn K (.ref C) (.type "BaseException") = some true) (h2 : PySem.W.typeIn K (.ref C) = some (.type "type")) : Own0 K mg x C := ⟨⟨B, newId, initId, bm, F, e⟩, PySem.W.mg_of X G a, k, h1, h2⟩
theorem ownX {C fI : Addr} {fl : Str} (X : K.In h) (G : h.Ns mainGlobals mg) {B newId initId : String} {tl : List Value} (F : ExcBaseFacts B newId initId tl) (SF : StoreFacts B tl "object.__setattr__" "object") (nm : Ow.Nm fl)
    {qn : Str} {p1 p2 q1 q2 q3 q4 : Pos}
    (a : PySem.W.nsIn K mainGlobals x = some (some (.ref C))) (iC : PySem.W.findIn K (.ref C) "__init__" = some (some (.ref fI))) (l : K.lookup fI = some ⟨oc, od, .func (PySem.W.fnOf "__init__" qn (Ow.iA fl p1 p2) (Ow.iB fl q1 q2 q3 q4) (Ow.iS fl) .none .none doc pm an cdv ct), osl⟩) (cd : PySem.W.codeIn K cdv qn = true)
    (ini : PySem.W.excInitIn K C tl newId = true) (ovr : PySem.W.excOver K C tl = true) (tak : PySem.W.takerIn K C fl = some none) (sa : PySem.W.findIn K (.ref C) "__setattr__" = some (some (.builtin "object.__setattr__")))
    (ga : PySem.W.findIn K (.ref C) "__getattribute__" = some (some (.builtin "BaseException.__getattribute__"))) (gg : PySem.W.findIn K (.ref C) "__getattr__" = some none) (noN : PySem.W.findIn K (.ref C) fl = some none)
    (tC : PySem.W.typeIn K (.ref fI) = some (.type "function")) (kC : PySem.W.keepIn K (.ref C) = true) (exC : PySem.W.subIn K (.ref C) (.type "BaseException") = some true) (tyC : PySem.W.typeIn K (.ref C) = some (.type "type")) (hdC : PySem.W.hasDictIn K C = true) : OwnX K mg x fl C :=
  ⟨⟨fI, B, newId, initId, tl, ⟨PySem.W.mg_of X G a, ini, ovr, tak, sa, ga, gg, noN, iC, tC, kC, exC, tyC, hdC, ⟨oc, od, doc, pm, an, cdv, ct, osl, qn, p1, p2, q1, q2, q3, q4, l, cd⟩⟩, F, SF⟩, nm⟩
end
end SQ
/-! enumerate of a tuple -/
namespace SQ
open PySem PySem.Spec PyProof.Rows L2
open Sem (wp)
abbrev enObj (it : Addr) (k : Int) : Obj := { cls := .type "enumerate", data := .fields #[.none, .bool false, .ref it, rawInt k, .none, .none] }
theorem meets_enum1 {v : Value} {ob : Obj} {Z : Heap → Prop} (B : Begins v ob Z) : Meets (Builtin.«enumerate.__new__» ⟨[.type "enumerate", v], []⟩)
    (fun _ R s => Z s.heap ∧ R (.ok (.ret (.ref (s.heap.push ob).objs.size))) { s with heap := (s.heap.push ob).push (enObj s.heap.objs.size 0) }) := by
  refine .of_wp fun prog w A R s z => ?_
  obtain ⟨hp, gs, dr, tk, os⟩ := s
  obtain ⟨z1, z2⟩ := z
  have sub := sub_enumerate
  have go : ∀ {A' : Around} {E : Value → Shared → Prop} {Q : Value → Shared → Prop}, Q (.ref hp.objs.size) ⟨hp.push ob, gs, dr, tk, os⟩ →
      wpAny (model prog w) A' (pyIter v) Q E ⟨hp, gs, dr, tk, os⟩ := fun q => B.iter prog w _ _ ⟨hp, gs, dr, tk, os⟩ _ z1 q
  wp_walk using go
  refine wpAny_stack_any fun st => wpAny_pure ?_
  split
  · rename_i c _ _ _ _ _
    cases (c == Value.type "enumerate") <;> (wp_walk using go; exact ⟨_, rfl, z2⟩)
  · wp_walk using go
    exact ⟨_, rfl, z2⟩
section
variable {prog : Program} {w : World} {A : Around} {E : Value → Shared → Prop} {s : Shared}
theorem enum1 {v : Value} {ob : Obj} {Z : Heap → Prop} {Q : Value → Shared → Prop} (B : Begins v ob Z) (z : Z s.heap)
    (k : ∀ h', IsEnum h' (s.heap.objs.size + 1) s.heap.objs.size 0 .none → h'.get? s.heap.objs.size = some ob → (∀ b o, s.heap.get? b = some o → h'.get? b = some o) → Q (.ref (s.heap.objs.size + 1)) { s with heap := h' }) :
    wpAny (model prog w) A (call (.type "enumerate") [v]) Q E s := by
  refine callType_new F.called_enumerate (by decide) (F.typeCall_enumerate_1 _) (F.newCall_enumerate_1 _) (fun obj => F.args_object_init_2 obj _) F.entry_enumerate_new (meets_enum1 B) ⟨z, ?_⟩
  have sz : (s.heap.push ob).objs.size = s.heap.objs.size + 1 := Heap.size_push ..
  have e1 : ((s.heap.push ob).push (enObj s.heap.objs.size 0)).get? (s.heap.push ob).objs.size = some (enObj s.heap.objs.size 0) := Heap.get?_push_size _ rfl
  rw [sz] at e1
  show _ ∧ _
  rw [sz]
  refine ⟨⟨_, e1, rfl⟩, k _ e1 ?_ fun b o x => Heap.get?_push_of_some _ (Heap.get?_push_of_some _ x)⟩
  exact Heap.get?_push_of_some _ (Heap.get?_push_size _ B.free)
end
/-- the tuple at a, each item in a new pair with its place -/
def IteT (K : PySem.W.Frag) (a : Addr) : It :=
  ⟨fun i H => ∃ (xs : List V) (x : V), SqT K H a xs ∧ xs[i]? = some x,
   fun i H v H' => ∃ T x, v = .ref T ∧ H T = none ∧ H' = upd H T (.tup [.int (i : Nat), x]) ∧ ∀ xs, SqT K H a xs → xs[i]? = some x,
   fun i H => ∃ xs : List V, SqT K H a xs ∧ xs.length = i⟩
theorem turn_enumT {P : Program} {w : World} {K : PySem.W.Frag} {elts : List Expr} {kk : Nat} {tpos : Pos} (a e it : Addr) :
    Turn P w K (.Tuple elts kk tpos) (IteT K a) [e, it] e (fun i h => (∃ old, IsEnum h e it ((i : Nat) : Int) old) ∧ h.IsTupleIter it a i ∧ e ≠ it ∧ e ≠ a ∧ a ≠ it) where
  mem := List.mem_cons_self
  obj := by
    rintro i h ⟨⟨old, he⟩, ⟨o, ho, _, hd⟩, _⟩ b hb
    rcases List.mem_cons.mp hb with rfl | hb
    · exact ⟨_, he, fun v q => by cases q⟩
    · obtain rfl := List.mem_singleton.mp hb
      exact ⟨o, ho, fun v q => by rw [hd] at q; cases q⟩
  keep := by
    rintro i h h' ⟨⟨old, he⟩, hi, r⟩ k
    exact ⟨⟨old, k e List.mem_cons_self _ he⟩, hi.at fun o q => k it (List.mem_cons_of_mem _ List.mem_cons_self) o q, r⟩
  item := by
    intro X hP hw hK hc i pins s σ H E I hf st hg
    subst hP hw hK
    obtain ⟨⟨old, he⟩, hit, hne, hea, hai⟩ := st
    obtain ⟨xs, x, hq, hx⟩ := hg
    obtain ⟨its, rv, p, hz⟩ := I.tuple hq
    have p : s.heap.IsTuple a its.toArray := p
    obtain ⟨u, hu, ru⟩ := rv.get hx
    have lt1 : e < s.heap.objs.size := Heap.lt_size he
    have lt2 : it < s.heap.objs.size := by
      obtain ⟨_, q, _⟩ := hit
      exact Heap.lt_size q
    have D : Draws X.prog X.w X.A.in1 it [it, a] its.toArray.size (fun i v => its.toArray[i]? = some v) (fun i h => h.IsTupleIter it a i ∧ h.IsTuple a its.toArray) := Draws.tuple (show X.A.in1.handled = none from I.ok.hd hc) it a hai its.toArray
    have hi : i < its.toArray.size := by
      have := (List.getElem?_eq_some_iff.mp hu).1
      simpa using this
    refine wpAny_pyNext_enum_itemD D he ⟨hit, p⟩ hi hne (by simp [hne, hea]) fun y h' tk hy out st' tup size keep => ?_
    have hy : y = u := by
      have hu' : its.toArray[i]? = some u := by simpa using hu
      rw [hu'] at hy
      exact (Option.some.inj hy).symm
    subst hy
    refine ⟨_, rfl, wpAny_letOwnedTupleGo_enum (s := { s with heap := h', toks := tk + 1 }) out fun h'' back same => ?_⟩
    have tup2 : h''.get? s.heap.objs.size = some { cls := .type "tuple", data := .seq #[.int i tk, y] } := (same.2 _ (Nat.ne_of_gt lt1)).trans tup
    have new : ObjOk X.prog X.w (upd H s.heap.objs.size (.tup [.int (i : Nat), x])) h'' s.heap.objs.size (.tup [.int (i : Nat), x]) := by
      refine ⟨?_, [.int i tk, y], .cons ⟨_, rfl⟩ (.cons ru .nil), ⟨_, tup2, rfl, _, rfl⟩⟩
      show 2 ≤ sizeLine
      decide
    have I1 : Inv X pins σ (upd H s.heap.objs.size (.tup [.int (i : Nat), x])) { s with heap := h'', toks := tk + 1 } := by
      refine I.turnedNew (ch := [e, it]) (fun b ob hb q => ?_) hf (Nat.le_refl _) new
      have n1 : b ≠ e := fun z => hb (by simp [z])
      have n2 : b ≠ it := fun z => hb (by simp [z])
      exact (same.2 b n1).trans (keep b ob n1 n2 q)
    refine ⟨.ref s.heap.objs.size, _, I1, rfl, ⟨_, x, rfl, I.hok.fresh (Nat.le_refl _), rfl, fun ys hy => ?_⟩, ⟨⟨y, ?_⟩, ?_, hne, hea, hai⟩, fun b hb => ?_⟩
    · rw [I.tuple_inj hy hq]; exact hx
    · have z : ((i + 1 : Nat) : Int) = (i : Int) + 1 := rfl
      rw [z]; exact back
    · exact st'.1.at fun o q => (same.2 it (Ne.symm hne)).trans q
    · have : b < s.heap.objs.size := by
        rcases List.mem_cons.mp hb with rfl | hb
        · exact lt1
        · obtain rfl := List.mem_singleton.mp hb
          exact lt2
      rw [upd_ne (Nat.ne_of_lt this)]
      exact (hf b hb).1
  done := by
    intro X hP hw hK hc i pins s σ H E I hf st hg
    subst hP hw hK
    obtain ⟨⟨old, he⟩, hit, hne, hea, hai⟩ := st
    obtain ⟨xs, hq, hx⟩ := hg
    obtain ⟨its, rv, p, hz⟩ := I.tuple hq
    have p : s.heap.IsTuple a its.toArray := p
    have hn : i = its.toArray.size := by
      have := rv.length
      simp; omega
    have D : Draws X.prog X.w X.A.in1 it [it, a] its.toArray.size (fun i v => its.toArray[i]? = some v) (fun i h => h.IsTupleIter it a i ∧ h.IsTuple a its.toArray) := Draws.tuple (show X.A.in1.handled = none from I.ok.hd hc) it a hai its.toArray
    obtain ⟨f0, f1, f2, f3, f4, f5⟩ := hf it (List.mem_cons_of_mem _ List.mem_cons_self)
    refine wpAny_pyNext_enum_endD D he ⟨hn ▸ hit, p⟩ fun h' but => ?_
    exact ⟨rfl, I.turned (t' := s.toks) (fun b o hb q => but b o hb q) f0 f1 f3 f4 f5⟩
  self := by
    rintro A i s Q E ⟨⟨old, he⟩, _⟩ h
    exact wpAny_pyIter_enum he h
def iEnumT (K : PySem.W.Frag) (ta : TA) : TI := fun σ H R => ta σ H fun vs H1 => ∃ a xs, vs = [.ref a] ∧ SqT K H1 a xs ∧ R (IteT K a) H1
theorem pi_enumT {X : Cx} {e : Expr} {ta : TA} {p pos tpos : Pos} {elts : List Expr} {kk : Nat} (hg : Gl X "enumerate") (hm : X.mg "enumerate" = none) (ha : PA X [e] ta) (hs : starEach [e] X.env = [(false, eval e X.env)] := by rfl) :
    PI X (.Tuple elts kk tpos) (.Call (.Name "enumerate" p) [e] [] pos) (iEnumT X.K ta) := by
  constructor
  intro pins s σ H R I h
  refine Call_ (ld_blt I hg hm boot_enumerate (PyProof.Rows.callWith_type1 (thn (ha.run pos pins s σ H _ I h) ?_) hs rfl))
  rintro us s1 ⟨vs, H1, I1, r1, a, xs, rfl, hq, q⟩
  obtain ⟨u, rfl, r⟩ := vals1 r1
  have r : u = .ref a := r
  subst r
  obtain ⟨its, rv, p', hz⟩ := I1.tuple hq
  have p' : s1.heap.IsTuple a its.toArray := p'
  have la : a < s1.heap.objs.size := by
    obtain ⟨_, q, _⟩ := id p'
    exact Heap.lt_size q
  refine enum1 (begins_tuple a its.toArray) p' fun h' he hit hk => wpAny_pyIter_enum he ?_
  refine ⟨s1.heap.objs.size + 1, [s1.heap.objs.size + 1, s1.heap.objs.size], _, _, H1, rfl, I1.kept (t' := s1.toks) hk, turn_enumT a (s1.heap.objs.size + 1) s1.heap.objs.size, ?_, fun b hb => ?_, q⟩
  · exact ⟨⟨.none, he⟩, ⟨_, hit, rfl, rfl⟩, Nat.succ_ne_self _, Nat.ne_of_gt (Nat.lt_succ_of_lt la), Nat.ne_of_lt la⟩
  · have hle : s1.heap.objs.size ≤ b := by
      rcases List.mem_cons.mp hb with rfl | hb
      · omega
      · obtain rfl := List.mem_singleton.mp hb
        omega
    exact I1.fpOk hle (I1.hok.fresh hle)
end SQ
/-! enumerate of a tuple, over trees; divmod; a list's greatest -/
namespace SQ
open PySem PySem.Spec PyProof.Rows L2
section
variable {K : PySem.W.Frag} {Γ : Cxt} {ss : List Sl} {xs : List D}
theorem walks_enumT {a : Addr} : Walks K Γ (IteT K a) (enumD 0 xs) [(.val (.tup xs), some (.ref a))] := fun H0 H ps I m => by
  obtain ⟨a', vs, e, h, r⟩ := I.val (m _ List.mem_cons_self)
  cases e
  refine ⟨fun i d hd => ?_, ⟨vs, h, by rw [enumD_length, ← r.length]⟩⟩
  obtain ⟨x, hx, rfl⟩ := enumD_get _ hd
  obtain ⟨v, hv, rv⟩ := r.get hx
  refine ⟨⟨vs, v, h, hv⟩, fun z H' y => ?_⟩
  obtain ⟨T, v1, rfl, hT, rfl, y1⟩ := y
  obtain rfl : v = v1 := Option.some.inj (hv.symm.trans (y1 vs h))
  rw [Nat.zero_add]
  exact I.newTup hT (.cons rfl (.cons rv .nil))
theorem wpI_enumT {ta : TA} {C : List D → Prop} (h : wpA K Γ ta ss fun ds => ∃ xs, ds = [.tup xs] ∧ C (enumD 0 xs)) : wpI K Γ (iEnumT K ta) ss C := fun H0 σ H τ hl I R k =>
  h H0 σ H τ hl I _ fun vs ds H1 hd J c => by
    obtain ⟨xs, rfl, c⟩ := c
    match vs, hd with
    | [v], _ =>
      obtain ⟨a, us, rfl, t, r⟩ := J.val (d := .tup xs) List.mem_cons_self
      exact ⟨a, us, rfl, t, k _ H1 _ [(.val (.tup xs), some (.ref a))] (J.perm (List.perm_middle (l₁ := ss.zip σ) (a := (Sl.val (D.tup xs), some (V.ref a)))).symm) walks_enumT c⟩
end
theorem pi_enumTK {X : Cx} {K : PySem.W.Frag} {e : Expr} {ta : TA} {p pos tpos : Pos} {elts : List Expr} {kk : Nat} (hg : Gl X "enumerate") (hm : X.mg "enumerate" = none) (ha : PA X [e] ta) (h : X.K = K := by rfl) (hs : starEach [e] X.env = [(false, eval e X.env)] := by rfl) :
    PI X (.Tuple elts kk tpos) (.Call (.Name "enumerate" p) [e] [] pos) (iEnumT K ta) := by subst h; exact pi_enumT hg hm ha hs
theorem pi_enumLK {X : Cx} {K : PySem.W.Frag} {e : Expr} {ta : TA} {p pos tpos : Pos} {elts : List Expr} {kk : Nat} (hg : Gl X "enumerate") (hm : X.mg "enumerate" = none) (ha : PA X [e] ta) (h : X.K = K := by rfl) (hs : starEach [e] X.env = [(false, eval e X.env)] := by rfl) :
    PI X (.Tuple elts kk tpos) (.Call (.Name "enumerate" p) [e] [] pos) (iEnum K ta) := by subst h; exact pi_enum hg hm ha hs
end SQ
/-! a def's own list is read; while; pop; a list's greatest; divmod -/
namespace SQ
open PySem PySem.Spec PyProof.Rows L2
section
variable {K : PySem.W.Frag} {Γ : Cxt} {ss : List Sl} {xs : List D} {C : D → Prop} {te : TE} {e : En} {i : Nat}
/-- xs[e], xs the def's own list -/
theorem wpE_ixOwn (h : ss[i]? = some (.own xs)) (k : wpE K Γ te ss fun y => ∃ j d, y = .int j ∧ atI xs j = some d ∧ C d) : wpE K Γ (tOp (rIx K) (tVar i) te) ss C := fun H0 σ H τ hl I Q q => by
  obtain ⟨a, ha, _⟩ := Env.ownAt (qs := []) hl h I
  refine ⟨.ref a, ha, k H0 σ H τ hl I _ fun y dy H2 J c => ?_⟩
  obtain ⟨j, d, rfl, hd, c⟩ := c
  have ry : y = .int j := J.val List.mem_cons_self
  subst ry
  obtain ⟨vs, hv, rv⟩ := J.drop.own (a := a) (xs := xs) (List.mem_append_left _ (zip_get h ha))
  have hl2 := rv.length
  obtain ⟨n, h1, h2⟩ := Option.bind_eq_some_iff.mp (show (ixN xs.length j).bind (fun m => xs[m]?) = some d from hd)
  obtain ⟨v, hz, rd⟩ := rv.get h2
  have hav : atI vs j = some v := by
    show (ixN vs.length j).bind (fun m => vs[m]?) = some v
    rw [← hl2, h1]; exact hz
  exact .inl ⟨a, vs, j, v, rfl, rfl, .inl (.inl hv), hav, q v d H2 (J.drop.push rd) c⟩
/-- len(xs), xs the def's own list -/
theorem wpE_lenOwn (h : ss[i]? = some (.own xs)) (c : C (.int xs.length)) : wpE K Γ (tCB (bLen K) (tCons (tVar i) tNil)) ss C := fun H0 σ H τ hl I Q q => by
  obtain ⟨a, ha, _⟩ := Env.ownAt (qs := []) hl h I
  obtain ⟨vs, hv, rv⟩ := I.own (a := a) (xs := xs) (List.mem_append_left _ (zip_get h ha))
  refine ⟨.ref a, ha, .ref a, vs.length, rfl, ?_, ?_⟩
  · exact .inl ⟨vs, .inl (.inl hv), rfl⟩
  · rw [← rv.length]
    exact q _ (.int xs.length) H (I.push (d := .int xs.length) rfl) c
/-- xs.pop(), what it hands back is dropped -/
theorem wpS_popOwn (h : ss[i]? = some (.own xs)) (hx : xs ≠ []) (k : e.nx (ss.set i (.own xs.dropLast))) : wpS K Γ (tDrop (tBM0 K "list" rPop (tVar i))) ss e := fun H0 σ H τ D hl I kk => by
  obtain ⟨a, ha, _⟩ := Env.ownAt (qs := []) hl h I
  obtain ⟨vs, hv, rv⟩ := I.own (a := a) (xs := xs) (List.mem_append_left _ (zip_get h ha))
  have hl2 := rv.length
  have hp : 0 < vs.length := by rw [← hl2]; exact List.length_pos_iff.mpr hx
  refine ⟨.ref a, ha, .inl ⟨rfl, vs, .inl (.inl hv)⟩, a, vs, vs[vs.length - 1], rfl, rfl, hv, List.getElem?_eq_getElem _, ?_⟩
  refine kk.nx _ σ _ (by simp [hl]) (Env.ownSet hl h ha I ?_) k
  rw [List.dropLast_eq_take, List.dropLast_eq_take, hl2]
  exact rv.take _
theorem wpS_while {c : TT} {tb : TS} (W : Nat → List Sl → Prop) (m0 : Nat) (h0 : W m0 ss)
    (turn : ∀ m s1, W m s1 → wpT K Γ c s1 fun b => if b = true then wpS K Γ tb s1 { nx := fun s2 => ∃ m', m' < m ∧ W m' s2, ct := fun s2 => ∃ m', m' < m ∧ W m' s2, bk := e.nx, rt := e.rt } else e.nx s1) : wpS K Γ (tWhile c tb) ss e := fun H0 σ H τ D hl I k => by
  refine ⟨fun m σ' H' => ∃ s1 : List Sl, σ'.length = s1.length ∧ Env K Γ H0 H' (s1.zip σ' ++ τ) ∧ W m s1, ⟨m0, ss, hl, I, h0⟩, ?_⟩
  rintro m σ' H' ⟨s1, hl1, I1, w1⟩
  refine turn m s1 w1 H0 σ' H' τ hl1 I1 _ fun b H2 I2 hb => ?_
  cases b with
  | false => exact k.nx s1 σ' H2 hl1 I2 hb
  | true =>
    refine ⟨fun σ'' H'' => ∃ m', m' < m ∧ ∃ s2 : List Sl, σ''.length = s2.length ∧ Env K Γ H0 H'' (s2.zip σ'' ++ τ) ∧ W m' s2, fun _ _ z => z, ?_⟩
    have hb : wpS K Γ tb s1 { nx := fun s2 => ∃ m', m' < m ∧ W m' s2, ct := fun s2 => ∃ m', m' < m ∧ W m' s2, bk := e.nx, rt := e.rt } := hb
    refine hb H0 σ' H2 τ _ hl1 I2 ⟨fun s2 σ2 H3 hl2 I3 ⟨m', lt, w2⟩ => ⟨m', lt, s2, hl2, I3, w2⟩, k.rt, k.nx, fun s2 σ2 H3 hl2 I3 ⟨m', lt, w2⟩ => ⟨m', lt, s2, hl2, I3, w2⟩⟩
theorem wpB_maxL {ns : List Int} (hn : 0 < ns.length) (k : ∀ m, m ∈ ns → (∀ y, y ∈ ns → y ≤ m) → C (.int m)) : wpB K (bMax K) [.lst (ns.map D.int)] C := fun S H vs l r Q q => by
  obtain ⟨v, ws, rfl, ⟨a, us, rfl, _, t, r⟩, z⟩ := r
  have z : ws = [] := z
  subst z
  have e : us = ns.map V.int := Reps.ints.mp r
  subst e
  exact .inr ⟨a, ns, rfl, .inl (.inl t), hn, fun m h1 h2 => q _ (.int m) H (Ext.refl H) rfl (k m h1 h2)⟩
def bDivmod : List V → Hp → VK → Prop := fun xs H Q => ∃ i j, xs = [.int i, .int j] ∧ CDivP i j ∧ ∀ p, H p = none → Q (.ref p) (upd H p (.tup [.int (i / j), .int (i % j)]))
theorem wpB_divmod {i j : Int} (h : CDivP i j) (c : C (.tup [.int (i / j), .int (i % j)])) : wpB K bDivmod [.int i, .int j] C := fun S H vs l r Q q => by
  obtain ⟨v, ws, rfl, r1, w, us, rfl, r2, z⟩ := r
  have z : us = [] := z
  have r1 : v = .int i := r1
  have r2 : w = .int j := r2
  subst z r1 r2
  refine ⟨i, j, rfl, h, fun p hp => ?_⟩
  exact q _ (.tup [.int (i / j), .int (i % j)]) _ (Ext.new hp) ⟨p, _, rfl, SqT.of upd_same, .cons (d := .int _) rfl (.cons (d := .int _) rfl rfl)⟩ c
end
end SQ
/-! a tuple of one item or more, once or never -/
namespace SQ
open PySem PySem.Spec PyProof.Rows L2
open AutoSeq1 (wpAny_loadPart')
abbrev tobj (items : Array Value) (n : Nat) (dd : Option Addr) (sl : Array (Option Value)) : Obj := { cls := .type "tuple", dict := dd, data := .seq items n, slots := sl }
def rRep01 (K : PySem.W.Frag) : R2 := fun x y H Q => ∃ (l : Addr) (xs : List V), x = .ref l ∧ SqT K H l xs ∧ xs ≠ [] ∧ ((y = .int 1 ∧ Q (.ref l) H) ∨ (y = .int 0 ∧ ∀ p, H p = none → Q (.ref p) (upd H p (.tup []))))
/-- a tuple, so many times -/
def rTMul (K : PySem.W.Frag) : R2 := fun x y H Q => rRepT K x y H Q ∨ rRep01 K x y H Q
theorem wpR_tmul {K : PySem.W.Frag} {xs : List D} {j : Int} {C : D → Prop} (hx : xs ≠ []) (h : 0 ≤ j ∧ j ≤ 1000) (hz : xs.length ≤ 1000) (c : C (.tup (List.replicate j.toNat xs).flatten)) : wpR K (rTMul K) (.tup xs) (.int j) C := fun S H v w l rx ry Q q => by
  obtain ⟨a, vs, rfl, ta, ra⟩ := rx
  have ry : w = .int j := ry
  have hv : vs ≠ [] := fun e => hx (List.eq_nil_of_length_eq_zero (by rw [ra.length, e]; rfl))
  by_cases h0 : j = 0
  · subst h0
    refine .inr ⟨a, vs, rfl, ta, hv, .inr ⟨ry, fun p hp => ?_⟩⟩
    exact q _ (.tup []) _ (Ext.new hp) ⟨p, [], rfl, SqT.of upd_same, rfl⟩ c
  by_cases h1 : j = 1
  · subst h1
    refine .inr ⟨a, vs, rfl, ta, hv, .inl ⟨ry, ?_⟩⟩
    have e : (List.replicate (Int.toNat 1) xs).flatten = xs := by simp
    rw [e] at c
    exact q _ (.tup xs) H (Ext.refl H) ⟨a, vs, rfl, ta, ra⟩ c
  refine .inl ⟨a, j, vs, rfl, ry, ta, hv, by omega, h.2, by rw [← ra.length]; exact hz, fun p hp => ?_⟩
  exact q _ (.tup (List.replicate j.toNat xs).flatten) _ (Ext.new hp) ⟨p, _, rfl, SqT.of upd_same, (ra.flat _).ext (Ext.new hp)⟩ c
end SQ
/-! comprehensions over pairs of ints, over ints with their places -/
namespace SQ
open PySem PySem.Spec PyProof.Rows L2
theorem zipI : ∀ a b : List Int, zipD (a.map D.int) (b.map D.int) = (a.zip b).map fun p => D.tup [.int p.1, .int p.2]
  | [], _ => rfl
  | _ :: _, [] => rfl
  | x :: a, y :: b => by
    show D.tup [.int x, .int y] :: zipD (a.map D.int) (b.map D.int) = _
    rw [zipI a b]; rfl
def two (f : Int → Int → D) : D → D
  | .tup [.int x, .int y] => f x y
  | _ => .non
section
variable {K : PySem.W.Frag} {Γ : Cxt} {ss : List Sl} {te : TE} {ta : TA} {CO : List D → Prop} {i j : Nat}
end
end SQ
/-! a tuple turned round -/
namespace SQ
open PySem PySem.Spec PyProof.Rows L2
section
variable {prog : Program} {w : World} {A : Around} {E : Value → Shared → Prop} {s : Shared}
end
def tRevT (K : PySem.W.Frag) (te : TE) : TE := fun σ H Q => te σ H fun x H1 => ∃ a xs, x = .ref a ∧ SqT K H1 a xs ∧ ∀ p, H1 p = none → Q (.ref p) (upd H1 p (.tup xs.reverse))
section
variable {K : PySem.W.Frag} {Γ : Cxt} {ss : List Sl} {te : TE} {C : D → Prop}
theorem wpE_revT (h : wpE K Γ te ss fun d => ∃ xs, d = .tup xs ∧ C (.tup xs.reverse)) : wpE K Γ (tRevT K te) ss C := fun H0 σ H τ hl I Q q =>
  h H0 σ H τ hl I _ fun v d H1 J ⟨xs, e, c⟩ => by
    subst e
    obtain ⟨a, vs, e, t, r⟩ := (J.val List.mem_cons_self).less (S' := Out Γ (ss.zip σ ++ τ)) fun a z => z
    refine ⟨a, vs, e, t, fun p hp => ?_⟩
    have ex : Ext H1 (upd H1 p (.tup vs.reverse)) := Ext.new hp
    exact q _ _ _ ((J.drop.ext ex).push (d := .tup xs.reverse) ⟨p, vs.reverse, rfl, SqT.of upd_same, (Reps.rev r).ext ex⟩) c
end
end SQ
/-! repr of lists of trees, also with dicts within lists -/
namespace SQ
open PySem PySem.Spec PyProof.Rows L2
mutual
/-- no list within a dict -/
def nk : D → Bool
  | .lst xs => nks xs
  | .tup xs => nks xs
  | .dk _ ds => nls ds
  | _ => true
def nks : List D → Bool
  | [] => true
  | d :: ds => nk d && nks ds
end
section
variable {X : Cx} {pins : List (Addr × Obj)} {σ : L2.St} {H : Hp} {s : Shared} {S : Addr → Prop} {P : Program} {w : World}
theorem bs_app {h : Heap} {m n k : Nat} {b1 b2 : List Addr} (h1 : ReadAtMost h m b1) (h2 : ReadAtMost h n b2) (q1 : m ≤ k) (q2 : n ≤ k) : ReadAtMost h k (b1 ++ b2) := (h1.mono q1).append (h2.mono q2)
mutual
theorem Rep.shows (I : Inv X pins σ H s) : ∀ (d : D) (v : V) (u : Value), rok d = true → nk d = true → Rep X.K S H d v → RelV v u → (rp d).shown.length ≤ sizeLine → ∃ bs, ReadAtMost s.heap (rp d).depth bs ∧ ReprK P w bs s.heap (rp d).depth u (rp d).shown
  | .lst xs, v, u, k, n, h, r, hz => by
    obtain ⟨as0, rd, _⟩ := Rep.reads I (.lst xs) v u k h r
    obtain ⟨a, vs, rfl, _, t, q⟩ := h
    cases r
    obtain ⟨its, rv, ⟨o, n1, ho, hc, _, hd⟩, _⟩ := I.list (.inl (.inl t))
    have hz' : (listText (PyData.shownAll (rps xs))).length ≤ sizeLine := by simpa only [rp, PyData.shown] using hz
    obtain ⟨bs, hb, hk⟩ := Reps.shows I xs vs its k n q rv fun t ht => Nat.le_trans (listText_mem_le ht) hz'
    have hna : a ∉ bs := not_mem_of_deeper rd (by simp only [rp, PyData.depth]; omega) hb
    refine ⟨a :: bs, ReadAtMost.cons rd (by simp only [rp, PyData.depth]; omega) hb, ?_⟩
    simp only [rp, PyData.depth, PyData.shown]
    cases its with
    | nil =>
      cases rv
      have e : xs = [] := by
        cases xs with
        | nil => rfl
        | cons x r =>
          obtain ⟨v, ws, e, _⟩ := q
          cases e
      subst e
      simp only [rps, PyData.shownAll, listText_nil]
      exact ReprK.listEmpty ho hc hd
    | cons x l => exact ReprK.list ho hc hd hna (by simpa using hk.length_eq) (fun i y e => hk.item i y (by simpa using e))
  | .tup xs, v, u, k, n, h, r, hz => by
    obtain ⟨as0, rd, _⟩ := Rep.reads I (.tup xs) v u k h r
    obtain ⟨a, vs, rfl, t, q⟩ := h
    cases r
    obtain ⟨its, rv, ⟨o, ho, hc, n1, hd⟩, _⟩ := I.tuple t
    have hz' : (tupleText (PyData.shownAll (rps xs))).length ≤ sizeLine := by simpa only [rp, PyData.shown] using hz
    obtain ⟨bs, hb, hk⟩ := Reps.shows I xs vs its k n q rv fun t ht => Nat.le_trans (tupleText_mem_le ht) hz'
    have hna : a ∉ bs := not_mem_of_deeper rd (by simp only [rp, PyData.depth]; omega) hb
    refine ⟨a :: bs, ReadAtMost.cons rd (by simp only [rp, PyData.depth]; omega) hb, ?_⟩
    simp only [rp, PyData.depth, PyData.shown]
    exact ReprK.tuple ho hc hd hna hk
  | .non, v, u, k, n, h, r, hz => by
    obtain ⟨as0, rd, no⟩ := Rep.reads I .non v u k h r
    exact ReprK.of_reads rd rfl (fun _ => no rfl) hz
  | .bl b, v, u, k, n, h, r, hz => by
    obtain ⟨as0, rd, no⟩ := Rep.reads I (.bl b) v u k h r
    exact ReprK.of_reads rd (rok_show _ k).1 (fun _ => no rfl) hz
  | .int i, v, u, k, n, h, r, hz => by
    obtain ⟨as0, rd, no⟩ := Rep.reads I (.int i) v u k h r
    exact ReprK.of_reads rd (rok_show _ k).1 (fun _ => no rfl) hz
  | .str x, v, u, k, n, h, r, hz => by
    obtain ⟨as0, rd, no⟩ := Rep.reads I (.str x) v u k h r
    exact ReprK.of_reads rd (rok_show _ k).1 (fun _ => no rfl) hz
  | .dk ks ds, v, u, k, n, h, r, hz => by
    obtain ⟨as0, rd, no⟩ := Rep.reads I (.dk ks ds) v u k h r
    exact ReprK.of_reads rd (rok_show _ k).1 (fun _ => no n) hz
  | .cell _, _, _, k, _, _, _, _ => by cases k
  | .scr _, _, _, k, _, _, _, _ => by cases k
  | .ty _, _, _, k, _, _, _, _ => by cases k
  | .ins _ _ _, _, _, k, _, _, _, _ => by cases k
theorem Reps.shows (I : Inv X pins σ H s) : ∀ (ds : List D) (vs : List V) (us : List Value), roks ds = true → nks ds = true → Reps X.K S H ds vs → Vals vs us → (∀ t ∈ PyData.shownAll (rps ds), t.length ≤ sizeLine) →
    ∃ bs, ReadAtMost s.heap (PyData.depthAll (rps ds)) bs ∧ ReprAllK P w bs s.heap (PyData.depthAll (rps ds)) us (PyData.shownAll (rps ds))
  | [], vs, us, _, _, h, r, _ => by have h : vs = [] := h; subst h; cases r; exact ⟨[], (fun _ h => nomatch h), by simp only [rps, PyData.shownAll]; exact .nil⟩
  | d :: ds, vs, us, k, n, h, r, hz => by
    obtain ⟨v, ws, rfl, a, b⟩ := h
    have k : (rok d && roks ds) = true := k
    rw [Bool.and_eq_true] at k
    have n : (nk d && nks ds) = true := n
    rw [Bool.and_eq_true] at n
    cases r with
    | cons r1 r2 =>
      obtain ⟨b1, hb1, k1⟩ := Rep.shows I d v _ k.1 n.1 a r1 (hz _ (by simp only [rps, PyData.shownAll]; exact List.mem_cons_self ..))
      obtain ⟨b2, hb2, k2⟩ := Reps.shows I ds ws _ k.2 n.2 b r2 fun t ht => hz t (by simp only [rps, PyData.shownAll]; exact List.mem_cons_of_mem _ ht)
      refine ⟨b1 ++ b2, bs_app hb1 hb2 (by simp only [rps, PyData.depthAll]; exact Nat.le_max_left _ _) (by simp only [rps, PyData.depthAll]; exact Nat.le_max_right _ _), ?_⟩
      simp only [rps, PyData.depthAll, PyData.shownAll]
      exact .cons ((k1.more fun b hb => List.mem_append_left _ hb).level_le (Nat.le_max_left _ _)) (k2.more_le (fun b hb => List.mem_append_right _ hb) (Nat.le_max_right _ _))
end
/-- a list whose items can be shown -/
theorem shows_lst2 {hp : Heap} {a : Addr} {ob : Obj} {its : Array Value} {m : Nat} {ys : List PyData} {as cs : List Addr} (g1 : hp.get? a = some ob) (g2 : ob.cls = .type "list") (g3 : ob.data = .seq its m) (g4 : ReadsAll hp its.toList ys as)
    (deep : ReadAtMost hp (PyData.depthAll ys) cs) (each : ReprAllK P w cs hp (PyData.depthAll ys) its.toList (PyData.shownAll ys)) (sz : (PyData.list ys).shown.length ≤ sizeLine) : ShowsBy P w hp a (.list ys) "list" "list.__repr__" := by
  have sz2 : (listText (PyData.shownAll ys)).length ≤ sizeLine := by
    simpa only [PyData.shown] using sz
  have nin : a ∉ cs := not_mem_of_deeper (.list g1 g2 g3 g4) (Nat.lt_succ_self _) deep
  refine ⟨F.slot_list_repr.toG, F.slot_list_str, F.slot_list_format, fun s kp => ⟨ob, kp _ _ g1, g2⟩, ?_⟩
  intro A E s Q gd un kp fin
  have un2 : A.units + (PyData.depthAll ys + 1) < cLine := un
  have fin2 : ∀ h' u tk, (∀ b o, s.heap.get? b = some o → h'.get? b = some o) → Q (.str (listText (PyData.shownAll ys)) u) { s with heap := h', toks := tk } := by
    simpa only [PyData.shown] using fin
  obtain ⟨l⟩ := its
  cases l with
  | nil =>
    have g4 : ReadsAll hp [] ys as := g4
    cases g4
    have fin3 := fin2
    simp only [PyData.shownAll, listText_nil] at fin3
    exact call_list_repr_empty ⟨ob, kp _ _ g1, g2⟩ (kp _ _ g1) g3 (fin3 s.heap _ _ fun _ _ e => e)
  | cons y l =>
    refine call_list_reprK (d := PyData.depthAll ys) g1 g2 g3 nin ?_ (fun i z e => ?_) gd (fun b _ => Clear.nil b) ?_ kp fin2 sz2
    · simpa using each.length_eq
    · exact each.item i z (by simpa using e)
    · exact un2
/-- repr([..]) -/
def rRepr2 (K : PySem.W.Frag) : List V → Hp → VK → Prop := fun xs H Q => ∃ (S : Addr → Prop) (v : V) (ys : List D), xs = [v] ∧ Rep K S H (.lst ys) v ∧ roks ys = true ∧ nks ys = true ∧
  (PyData.list (rps ys)).weight ≤ 200000 ∧ PyData.depthAll (rps ys) ≤ 60 ∧ Q (.str (rp (.lst ys)).shown) H
theorem cr_repr2U {X : Cx} (hu : X.A.guards = some []) (hun : X.A.units + 200 < cLine) : CallR X (.builtin "repr") (rRepr2 X.K) := by
  intro pins s σ H xs us Q I r h
  obtain ⟨S, v, ys, rfl, rd, ok, nd, hw, hd, q⟩ := h
  obtain ⟨u, rfl, r1⟩ := vals1 r
  obtain ⟨a, vs, rfl, _, t, qs⟩ := rd
  have r1 : u = .ref a := r1
  subst r1
  obtain ⟨its, rv, ⟨o, n, ho, hc, _, hs⟩, _⟩ := I.list (.inl (.inl t))
  obtain ⟨as, g4, hn⟩ := Reps.reads I ys vs its ok qs rv
  have hsz := shown_small (d := .lst ys) ok hw
  have hz' : (listText (PyData.shownAll (rps ys))).length ≤ sizeLine := by simpa only [rp, PyData.shown] using hsz
  obtain ⟨cs, dp, each⟩ := Reps.shows (P := X.prog) (w := X.w) I ys vs its ok nd qs rv fun t ht => Nat.le_trans (listText_mem_le ht) hz'
  have sb : ShowsBy X.prog X.w s.heap a (.list (rps ys)) "list" "list.__repr__" := shows_lst2 ho hc hs g4 dp each hsz
  refine call_repr_slot (by omega) (sb.typeIs s fun _ _ e => e) sb.slotRepr (sb.call X.A.in1 _ s _ hu ?_ (fun _ _ e => e) fun h' tk tk' kp => ?_)
  · show X.A.units + 1 + (PyData.depthAll (rps ys) + 1) < cLine
    omega
  · exact ⟨_, _, rfl, .str _, H, I.kept kp, ⟨_, rfl⟩, q⟩
end
section
variable {K : PySem.W.Frag} {C : D → Prop} {ys : List D}
end
end SQ
/-! a def's own list: an item is put, or made greater or less -/
namespace SQ
open PySem PySem.Spec PyProof.Rows L2
theorem get_list {X : Cx} : PGet X (rIxL X.K) := by
  intro pins s σ H x y v u Q I rx ry h
  obtain ⟨p, xs, i, z, rfl, rfl, hq, he, q⟩ := h
  cases rx
  obtain ⟨t, rfl⟩ := ry
  obtain ⟨its, r, pl, hz⟩ := I.list hq
  obtain ⟨j, h1, h2, h3, h4, h5⟩ := atI_get he
  obtain ⟨w, ew, rw'⟩ := r.get h2
  have hl := r.length
  have hn := line63
  have fin : EP X pins σ Q w s := ⟨z, H, I, rw', q⟩
  by_cases h0 : 0 ≤ i
  · have hj : i.toNat = j := by
      rw [seqIndex_of h0 h5] at h1
      exact Option.some.inj h1
    exact wpAny_getItem_list pl.isList h0 (by omega) (by rw [hj]; simpa using ew) fin
  · have hj : (i + (its.toArray.size : Int)).toNat = j := by
      rw [seqIndex_neg (by omega) h4] at h1
      rw [List.size_toArray, ← hl]
      exact Option.some.inj h1
    exact wpAny_getItem_list_neg pl.isList (by omega) (by rw [List.size_toArray] <;> omega) (by omega) (by rw [hj]; simpa using ew) fin
theorem get_listK {X : Cx} {K : PySem.W.Frag} (h : X.K = K := by rfl) : PGet X (rIxL K) := by subst h; exact get_list
section
variable {K : PySem.W.Frag} {Γ : Cxt} {ss : List Sl} {xs : List D} {te ti : TE} {e : En} {i : Nat}
theorem Reps.put {S : Addr → Prop} {H : Hp} {d : D} {v : V} (r : Rep K S H d v) : ∀ {xs : List D} {vs : List V} {m : Nat}, Reps K S H xs vs → Reps K S H (xs.set m d) (vs.set m v)
  | [], vs, m, h => by
    have h : vs = [] := h
    subst h; exact rfl
  | x :: xs, vs, 0, h => by
    obtain ⟨w, ws, rfl, a, b⟩ := h
    exact ⟨v, ws, rfl, r, b⟩
  | x :: xs, vs, m + 1, h => by
    obtain ⟨w, ws, rfl, a, b⟩ := h
    exact ⟨w, ws.set m v, rfl, a, Reps.put r b⟩
/-- xs[j] = e, xs the def's own list -/
theorem wpS_putOwn (h : ss[i]? = some (.own xs)) (k : wpE K Γ te ss fun d => wpE K Γ ti ss fun y => ∃ j m, y = .int j ∧ ixN xs.length j = some m ∧ e.nx (ss.set i (.own (xs.set m d)))) : wpS K Γ (tAsg te (gSub (tVar i) ti rSetL)) ss e := fun H0 σ H τ D hl I kk => by
  obtain ⟨a, ha, _⟩ := Env.ownAt (qs := []) hl h I
  refine k H0 σ H τ hl I _ fun v d H1 J1 c1 => ⟨.ref a, ha, ?_⟩
  refine c1 H0 σ H1 ((.val d, some v) :: τ) hl (J1.perm (List.perm_middle.symm)) _ fun y dy H2 J2 c => ?_
  obtain ⟨j, m, rfl, hm, c⟩ := c
  have ry : y = .int j := J2.val List.mem_cons_self
  subst ry
  have J3 := J2.drop.perm (List.perm_middle (l₁ := ss.zip σ) (a := (Sl.val d, some v)) (l₂ := τ))
  obtain ⟨vs, hv, rv⟩ := J3.drop.own (a := a) (xs := xs) (List.mem_append_left _ (zip_get h ha))
  have rd : Rep K (Out Γ (ss.zip σ ++ τ)) H2 d v := (J3.val List.mem_cons_self).less fun b z => z
  have hl2 := rv.length
  refine ⟨a, vs, j, m, rfl, rfl, hv, by rw [← hl2]; exact hm, ?_⟩
  exact kk.nx _ σ _ (by simp [hl]) (Env.ownSet hl h ha J3.drop (Reps.put rd rv)) c
/-- xs[j] op= e, xs the def's own list of ints -/
theorem wpS_augOwn {f : Int → Int → Int} (h : ss[i]? = some (.own xs)) (k : wpE K Γ ti ss fun y => ∃ j m n, y = .int j ∧ ixN xs.length j = some m ∧ xs[m]? = some (.int n) ∧ wpE K Γ te ss fun d => ∃ z, d = .int z ∧ e.nx (ss.set i (.own (xs.set m (.int (f n z)))))) :
    wpS K Γ (tAugS (tVar i) ti te (rIxL K) (ipI f) rSetL) ss e := fun H0 σ H τ D hl I kk => by
  obtain ⟨a, ha, _⟩ := Env.ownAt (qs := []) hl h I
  refine ⟨.ref a, ha, ?_⟩
  refine k H0 σ H τ hl I _ fun y dy H1 J1 c1 => ?_
  obtain ⟨j, m, n, rfl, hm, hn, c1⟩ := c1
  have ry : y = .int j := J1.val List.mem_cons_self
  subst ry
  obtain ⟨vs, hv, rv⟩ := J1.drop.own (a := a) (xs := xs) (List.mem_append_left _ (zip_get h ha))
  have hl2 := rv.length
  obtain ⟨v, hz, rd⟩ := rv.get hn
  have rd : v = .int n := rd
  subst rd
  have hav : atI vs j = some (.int n) := by
    show (ixN vs.length j).bind (fun m => vs[m]?) = some _
    rw [← hl2, hm]; exact hz
  refine ⟨a, vs, j, _, rfl, rfl, .inl (.inl hv), hav, ?_⟩
  refine c1 H0 σ H1 τ hl J1.drop _ fun x dx H2 J2 c => ?_
  obtain ⟨z, rfl, c⟩ := c
  have rx : x = .int z := J2.val List.mem_cons_self
  subst rx
  obtain ⟨ws, hw, rw'⟩ := J2.drop.own (a := a) (xs := xs) (List.mem_append_left _ (zip_get h ha))
  refine ⟨n, z, rfl, rfl, a, ws, j, m, rfl, rfl, hw, by rw [← rw'.length]; exact hm, ?_⟩
  exact kk.nx _ σ _ (by simp [hl]) (Env.ownSet hl h ha J2.drop (Reps.put (d := .int (f n z)) rfl rw')) c
end
end SQ
/-! sorted of a list of pairs of ints, of any length -/
namespace SQ
open PySem PySem.Spec PyProof.Rows L2
abbrev PT := Addr × (Int × Int)
def refT (t : PT) : V := .ref t.1
def rSortPT (K : PySem.W.Frag) : List V → Hp → VK → Prop := fun vs H Q => ∃ (a : Addr) (ts : List PT), vs = [V.ref a] ∧ SqL K H a (ts.map refT) ∧ (∀ t ∈ ts, SqT K H t.1 [.int t.2.1, .int t.2.2]) ∧
  ∀ (ys : List PT) (p : Addr), ys.Perm ts → ys.Pairwise (fun x y => SrtO.lexB y.2 x.2 = false) → H p = none → Q (.ref p) (upd H p (.lst (ys.map refT)))
def keyT (ts : List PT) : V → Int × Int
  | .ref a => match ts.find? (fun t => t.1 == a) with
    | some t => t.2
    | none => (0, 0)
  | _ => (0, 0)
def addrV : V → Addr
  | .ref a => a
  | _ => 0
section
variable {X : Cx}
theorem cr_sortPT : CallR X (.builtin "sorted") (rSortPT X.K) := by
  intro pins s σ H vs us Q I r h
  obtain ⟨a, ts, rfl, hs, hx, q⟩ := h
  have kt : ∀ t ∈ ts, keyT ts (refT t) = t.2 := fun t ht => by
    have hf : (ts.find? fun u => u.1 == t.1).isSome = true := List.find?_isSome.mpr ⟨t, ht, beq_self_eq_true _⟩
    obtain ⟨u, hu⟩ := Option.isSome_iff_exists.mp hf
    have hu1 : (u.1 == t.1) = true := List.find?_some (p := fun u : PT => u.1 == t.1) hu
    have hu2 : u ∈ ts := List.mem_of_find?_eq_some hu
    show (match ts.find? (fun u => u.1 == t.1) with | some t => t.2 | none => (0, 0)) = t.2
    rw [hu]
    have e1 : u.1 = t.1 := eq_of_beq hu1
    have h1 := hx u hu2
    rw [e1] at h1
    have := I.tuple_inj h1 (hx t ht)
    simp only [List.cons.injEq, V.int.injEq, and_true] at this
    exact Prod.ext this.1 this.2
  have rf : ∀ x ∈ ts.map refT, ∃ a, x = V.ref a := fun x hx => by
    obtain ⟨t, _, rfl⟩ := List.mem_map.mp hx
    exact ⟨_, rfl⟩
  obtain ⟨its, rv, hl, hz⟩ := I.list hs
  obtain ⟨u, rfl, ru⟩ := vals1 r
  obtain rfl : u = Value.ref a := ru
  obtain ⟨e1, e2⟩ := refs_back rv rf
  refine SrtO.sorted_pairsO (k := fun u => keyT ts (backV u)) hl.isList (by rw [← rv.length]; exact hz) (fun v hv => ?_) fun h' d out h1 h2 kp hd hn => ?_
  · obtain ⟨t, rfl⟩ := e2 v hv
    have hm : V.ref t ∈ ts.map refT := by rw [e1]; exact List.mem_map.mpr ⟨_, hv, rfl⟩
    obtain ⟨t', ht', e⟩ := List.mem_map.mp hm
    have e : V.ref t'.1 = V.ref t := e
    cases e
    obtain ⟨its2, r2, ⟨o, ho, hc, n, hd⟩, _⟩ := I.tuple (hx t' ht')
    obtain ⟨u1, u2, rfl, ri, rj⟩ := vals2 r2
    obtain ⟨t1, rfl⟩ := ri
    obtain ⟨t2, rfl⟩ := rj
    have kk : keyT ts (backV (Value.ref t'.1)) = t'.2 := kt t' ht'
    rw [kk]
    exact ⟨t'.1, o, t1, t2, n, rfl, ho, hc, hd⟩
  · have h3 : ∀ u ∈ out, ∃ a, u = Value.ref a := fun u hu => e2 u (h2.perm.mem_iff.mp hu)
    obtain ⟨n, hn⟩ := hn
    have pb : (out.map backV).Perm (ts.map refT) := by
      rw [e1]; exact h2.perm.map _
    let ys : List PT := (out.map backV).map fun x => (addrV x, keyT ts x)
    have ey : ys.map refT = out.map backV := by
      show ((out.map backV).map fun x => (addrV x, keyT ts x)).map refT = _
      rw [List.map_map]
      have : ∀ x ∈ out.map backV, (refT ∘ fun x => (addrV x, keyT ts x)) x = x := fun x hx => by
        obtain ⟨b, rfl⟩ := rf x (pb.mem_iff.mp hx)
        rfl
      rw [List.map_congr_left this, List.map_id']
    have py : ys.Perm ts := by
      have := pb.map fun x => (addrV x, keyT ts x)
      rw [List.map_map (f := refT)] at this
      have e : ts.map ((fun x => (addrV x, keyT ts x)) ∘ refT) = ts := by
        have : ∀ t ∈ ts, ((fun x => (addrV x, keyT ts x)) ∘ refT) t = t := fun t ht => by
          show (t.1, keyT ts (refT t)) = t
          rw [kt t ht]
        rw [List.map_congr_left this, List.map_id']
      rw [e] at this
      exact this
    have sy : ys.Pairwise (fun x y => SrtO.lexB y.2 x.2 = false) := by
      show ((out.map backV).map fun x => (addrV x, keyT ts x)).Pairwise _
      rw [List.map_map, List.pairwise_map]
      exact h1
    refine ⟨.ref d, upd H d (.lst (ys.map refT)), I.laid (t' := s.toks) kp hd ⟨?_, out, n, by rw [ey]; exact vals_back h3, hn⟩, rfl, q ys d py sy (I.hok.fresh hd)⟩
    rw [ey, pb.length_eq]
    exact hz
end
def pairD (p : Int × Int) : D := .tup [.int p.1, .int p.2]
section
variable {K : PySem.W.Frag} {S : Addr → Prop} {H : Hp}
theorem pairs_refs : ∀ {ps : List (Int × Int)} {vs : List V}, Reps K S H (ps.map pairD) vs → ∃ ts : List PT, vs = ts.map refT ∧ ts.map (·.2) = ps ∧ ∀ t ∈ ts, SqT K H t.1 [.int t.2.1, .int t.2.2]
  | [], vs, h => by
    have h : vs = [] := h
    subst h
    exact ⟨[], rfl, rfl, fun t ht => by cases ht⟩
  | p :: ps, vs, h => by
    obtain ⟨v, ws, rfl, ⟨a, us, rfl, t, q⟩, b⟩ := h
    obtain ⟨u1, us1, rfl, e1, u2, us2, rfl, e2, e3⟩ := q
    have e1 : u1 = .int p.1 := e1
    have e2 : u2 = .int p.2 := e2
    have e3 : us2 = [] := e3
    subst e1 e2 e3
    obtain ⟨ts, rfl, h2, h3⟩ := pairs_refs b
    refine ⟨(a, p) :: ts, rfl, by rw [List.map_cons, h2], fun t' ht => ?_⟩
    rcases List.mem_cons.mp ht with rfl | ht
    · exact t
    · exact h3 t' ht
theorem refs_pairs : ∀ {ts : List PT}, (∀ t ∈ ts, SqT K H t.1 [.int t.2.1, .int t.2.2]) → Reps K S H ((ts.map (·.2)).map pairD) (ts.map refT)
  | [], _ => rfl
  | t :: ts, h => ⟨refT t, ts.map refT, rfl, ⟨t.1, [.int t.2.1, .int t.2.2], rfl, h t List.mem_cons_self, .int t.2.1, [.int t.2.2], rfl, rfl, .int t.2.2, [], rfl, rfl, rfl⟩, refs_pairs fun u hu => h u (List.mem_cons_of_mem _ hu)⟩
end
section
variable {K : PySem.W.Frag} {C : D → Prop} {CO : List D → Prop}
theorem wpBO_sortPT {ps : List (Int × Int)} (c : ∀ qs : List (Int × Int), qs.Perm ps → qs.Pairwise (fun x y => SrtO.lexB y x = false) → CO (qs.map pairD)) : wpBO K (rSortPT K) [.lst (ps.map pairD)] CO := fun S H vs l r Q q => by
  obtain ⟨v, rfl, a, ws, rfl, n, t, r⟩ := reps1 r
  obtain ⟨ts, rfl, h2, h3⟩ := pairs_refs r
  refine ⟨a, ts, rfl, .inl (.inl t), h3, fun ys p py sy hp => ?_⟩
  have pq : (ys.map (·.2)).Perm ps := by rw [← h2]; exact py.map _
  refine q p ((ys.map (·.2)).map pairD) (ys.map refT) hp (refs_pairs fun u hu => h3 u (py.mem_iff.mp hu)) (c _ pq ?_)
  rw [List.pairwise_map]; exact sy
theorem wpB_sortPT {ps : List (Int × Int)} (c : ∀ qs : List (Int × Int), qs.Perm ps → qs.Pairwise (fun x y => SrtO.lexB y x = false) → C (.lst (qs.map pairD))) : wpB K (rSortPT K) [.lst (ps.map pairD)] C := wpB_frz (wpBO_sortPT c)
end
end SQ
/-! comprehensions over pairs of ints, with a test -/
namespace SQ
open PySem PySem.Spec PyProof.Rows L2
def twoB (p : Int → Int → Bool) : D → Bool
  | .tup [.int x, .int y] => p x y
  | _ => false
section
variable {K : PySem.W.Frag} {Γ : Cxt} {ss : List Sl} {te : TE} {tt : TT} {ta : TA} {CO : List D → Prop} {i j : Nat}
end
end SQ
/-! enumerate of a zip of two tuples -/
namespace SQ
open PySem PySem.Spec PyProof.Rows L2 RZ
open Sem (wp)
abbrev zpObj (f0 f1 : Value) (TI TO : Addr) : Obj := { cls := .type "zip", dict := none, data := .fields #[f0, f1, .bool false, .ref TI, .ref TO], slots := #[] }
abbrev prObj (x y : Value) : Obj := { cls := .type "tuple", data := .seq #[x, y] }
/-- a zip within another iterator: its pair was taken or not -/
def ZBusy (h : Heap) (z TI TO : Addr) : Prop := ∃ (T : Addr) (f : Bool), h.get? z = some (zpObj (rawInt T) (.bool f) TI TO)
section
variable {prog : Program} {w : World} {A : Around} {E : Value → Shared → Prop} {s : Shared}
theorem wpAny_loadIfAlive {a : Addr} {Q : Option Obj → Shared → Prop} (h : Q (s.heap.get? a) s) : wpAny (model prog w) A (loadIfAlive a) Q E s := by
  unfold wpAny loadIfAlive
  intros
  rw [Sem.wp_loadIfAlive]
  first | exact h | (rw [Sem.wp_pure]; exact h)
/-- the pair that was handed out: it is alive, or gone -/
theorem zip_free {z TI TO : Addr} {Q : Bool → Shared → Prop} (hz : ZBusy s.heap z TI TO)
    (hQ : ∀ h', ZBusy h' z TI TO → Heap.SameBut z s.heap h' → Q false { s with heap := h' }) (hR : Q true s) :
    wpAny (model prog w) A (Builtin.SmallTypes.ownedTupleIsFree (.ref z)) Q E s := by
  obtain ⟨T, f, hz⟩ := hz
  unfold Builtin.SmallTypes.ownedTupleIsFree
  refine wpAny_bind (wpAny_field hz rfl (x := rawInt T) rfl ?_)
  simp only [rawInt]
  refine wpAny_bind (wpAny_loadIfAlive ?_)
  cases e : s.heap.get? (T : Int).toNat with
  | none =>
    simp only [Option.isNone_none, if_true]
    exact wpAny_pure hR
  | some oT =>
    simp only [Option.isNone_some, Bool.false_eq_true, if_false]
    refine wpAny_bind (wpAny_field hz rfl (x := .bool f) rfl ?_)
    cases f with
    | true =>
      simp only [bne_self_eq_false, Bool.false_eq_true, if_false]
      exact wpAny_pure (hQ s.heap ⟨T, true, hz⟩ ⟨rfl, fun _ _ => rfl⟩)
    | false =>
      rw [if_pos (by rfl)]
      refine wpAny_bind (wpAny_setField_rec hz (by simp) fun h₁ hz₁ hs₁ => wpAny_pure ?_)
      exact hQ h₁ ⟨T, true, hz₁⟩ hs₁
theorem zipB_next_item {z TI TO i1 i2 l1 l2 : Addr} {k1 k2 : Nat} {xs ys : Array Value} {x y : Value} {Q : Value → Shared → Prop} (D : ZipApart z TI TO i1 i2 l1 l2)
    (hz : ZBusy s.heap z TI TO) (hTI : PySem.IsPair s.heap TI (.ref i1) (.ref i2)) {a b : Value} (hTO : PySem.IsPair s.heap TO a b)
    (h1 : s.heap.IsTupleIter i1 l1 k1) (h2 : s.heap.IsTupleIter i2 l2 k2) (hl1 : s.heap.IsTuple l1 xs) (hl2 : s.heap.IsTuple l2 ys) (hx : xs[k1]? = some x) (hy : ys[k2]? = some y)
    (hQ : ∀ h', ZBusy h' z TI TO → (∃ p q, PySem.IsPair h' TO p q) → h'.IsTupleIter i1 l1 (k1 + 1) → h'.IsTupleIter i2 l2 (k2 + 1) → PySem.IsPair h' s.heap.objs.size x y → h'.objs.size = s.heap.objs.size + 1 →
      (∀ c o, c ≠ z → c ≠ TO → c ≠ i1 → c ≠ i2 → s.heap.get? c = some o → h'.get? c = some o) → Q (.ref s.heap.objs.size) { s with heap := h' }) :
    wpAny (model prog w) A (Builtin.«zip.__next__» ⟨[.ref z], []⟩) (fun fin s' => ∃ v, fin = .done (.ret v) ∧ Q v s') E s := by
  obtain ⟨T0, f0, hz0⟩ := id hz
  show wpAny _ _ (field (.ref z) 2 >>= _) _ _ _
  refine wpAny_bind (wpAny_field hz0 rfl (x := .bool false) rfl ?_)
  show wpAny _ _ (field (.ref z) 3 >>= _) _ _ _
  refine wpAny_bind (wpAny_field hz0 rfl (x := .ref TI) rfl ?_)
  refine wpAny_bind (wpAny_seqItems hTI rfl ?_)
  show wpAny _ _ (Builtin.SmallTypes.ownedTupleIsFree (.ref z) >>= _) _ _ _
  refine wpAny_bind (zip_free hz (fun h₁ hb₁ hs₁ => ?_) ?gone)
  case gone =>
    simp only [if_true]
    refine wpAny_bind (wpAny_rule ?_)
    refine wpAny_bind (wpAny_field hz0 rfl (x := .ref TO) rfl ?_)
    refine wpAny_bind (wpAny_setField_rec hz0 (by simp) fun g1 zz1 t1 => ?_)
    have zz1 : g1.get? z = some (zpObj .ellipsis (.bool f0) TI TO) := zz1
    simp only [List.zipIdx_cons, List.zipIdx_nil, List.forIn_cons, List.forIn_nil]
    refine wpAny_bind (wpAny_bind (wpAny_bind (wpAny_onRaise ?_)))
    show wpAny _ _ (Builtin.SmallTypes.nextOf (.ref i1) >>= _) _ _ _
    refine wpAny_bind (nextOf_tuple_item (h1.extBut t1.extBut D.i1z) (hl1.extBut t1.extBut D.l1z) hx fun g2 j1 t2 => wpAny_pure ?_)
    have to2 : PySem.IsPair g2 TO a b := t2.extBut _ _ D.TOi1 (t1.extBut _ _ D.TOz hTO)
    refine wpAny_bind (wpAny_seqItems to2 rfl (wpAny_bind (wpAny_updateSeq_pair to2 fun g3 to3 t3 => wpAny_bind (wpAny_letGo (wpAny_pure ?_)))))
    have to3 : PySem.IsPair g3 TO x b := to3
    refine wpAny_bind (wpAny_bind (wpAny_onRaise ?_))
    show wpAny _ _ (Builtin.SmallTypes.nextOf (.ref i2) >>= _) _ _ _
    refine wpAny_bind (nextOf_tuple_item (((h2.extBut t1.extBut D.i2z).extBut t2.extBut D.i12.symm).extBut t3.extBut D.TOi2.symm)
      (((hl2.extBut t1.extBut D.l2z).extBut t2.extBut D.l2i1).extBut t3.extBut D.l2TO) hy fun g4 j2 t4 => wpAny_pure ?_)
    have to4 : PySem.IsPair g4 TO x b := t4.extBut _ _ D.TOi2 to3
    refine wpAny_bind (wpAny_seqItems to4 rfl (wpAny_bind (wpAny_updateSeq_pair to4 fun g5 to5 t5 => wpAny_bind (wpAny_letGo (wpAny_pure (wpAny_pure ?_))))))
    have to5 : PySem.IsPair g5 TO x y := to5
    refine wpAny_bind (wpAny_seqItems to5 rfl (wpAny_bind (wpAny_newTuple ?_)))
    have zs : g5.objs.size = s.heap.objs.size := by rw [t5.1, t4.1, t3.1, t2.1, t1.1]
    have zz5 : g5.get? z = some (zpObj .ellipsis (.bool f0) TI TO) := t5.extBut _ _ D.TOz.symm (t4.extBut _ _ D.i2z.symm (t3.extBut _ _ D.TOz.symm (t2.extBut _ _ D.i1z.symm zz1)))
    have kk : ∀ c o, c ≠ z → c ≠ TO → c ≠ i1 → c ≠ i2 → s.heap.get? c = some o → g5.get? c = some o := fun c o c1 c2 c3 c4 e =>
      t5.extBut _ _ c2 (t4.extBut _ _ c4 (t3.extBut _ _ c2 (t2.extBut _ _ c3 (t1.extBut _ _ c1 e))))
    have ii1 : g5.IsTupleIter i1 l1 (k1 + 1) := ((j1.extBut t3.extBut D.TOi1.symm).extBut t4.extBut D.i12).extBut t5.extBut D.TOi1.symm
    have ii2 : g5.IsTupleIter i2 l2 (k2 + 1) := j2.extBut t5.extBut D.TOi2.symm
    have zlt : z < g5.objs.size := Heap.lt_size zz5
    show wpAny _ _ (Builtin.SmallTypes.ownedTupleHandOut (.ref z) (.ref g5.objs.size) >>= _) _ _ _
    refine wpAny_bind ?_
    unfold Builtin.SmallTypes.ownedTupleHandOut
    have zz6 : (g5.push (prObj x y)).get? z = some (zpObj .ellipsis (.bool f0) TI TO) := Heap.get?_push_of_some _ zz5
    refine wpAny_bind (wpAny_setField_rec zz6 (by simp) fun g7 zz7 t7 => ?_)
    have zz7 : g7.get? z = some (zpObj (rawInt g5.objs.size) (.bool f0) TI TO) := zz7
    refine wpAny_setField_rec zz7 (by simp) fun g8 zz8 t8 => ?_
    have zz8 : g8.get? z = some (zpObj (rawInt g5.objs.size) (.bool false) TI TO) := zz8
    have up : ∀ c o, c ≠ z → g5.get? c = some o → g8.get? c = some o := fun c o c1 e => t8.extBut _ _ c1 (t7.extBut _ _ c1 (Heap.get?_push_of_some _ e))
    have pr8 : g8.get? g5.objs.size = some (prObj x y) := t8.extBut _ _ (Nat.ne_of_gt zlt) (t7.extBut _ _ (Nat.ne_of_gt zlt) (Heap.get?_push_size _ rfl))
    have sz8 : g8.objs.size = g5.objs.size + 1 := by rw [t8.1, t7.1, Heap.size_push]
    rw [zs] at pr8 sz8
    refine wpAny_pure ⟨_, rfl, ?_⟩
    show Q (.ref g5.objs.size) _
    rw [zs]
    exact hQ g8 ⟨_, false, zz8⟩ ⟨x, y, up _ _ D.TOz to5⟩ (ii1.at fun o e => up _ o D.i1z e) (ii2.at fun o e => up _ o D.i2z e) pr8 sz8 fun c o c1 c2 c3 c4 e => up c o c1 (kk c o c1 c2 c3 c4 e)
  simp only [Bool.false_eq_true, if_false]
  simp only [List.forIn_toArray, List.forIn_cons, List.forIn_nil]
  refine wpAny_bind (wpAny_bind (wpAny_bind (wpAny_holding ?_)))
  show wpAny _ _ (Builtin.SmallTypes.nextOf (.ref i1) >>= _) _ _ _
  refine wpAny_bind (nextOf_tuple_item (h1.extBut hs₁.extBut D.i1z) (hl1.extBut hs₁.extBut D.l1z) hx fun h₂ h1₂ hs₂ => wpAny_pure (wpAny_pure ?_))
  refine wpAny_bind (wpAny_bind (wpAny_holding ?_))
  show wpAny _ _ (Builtin.SmallTypes.nextOf (.ref i2) >>= _) _ _ _
  refine wpAny_bind (nextOf_tuple_item ((h2.extBut hs₁.extBut D.i2z).extBut hs₂.extBut D.i12.symm)
    ((hl2.extBut hs₁.extBut D.l2z).extBut hs₂.extBut D.l2i1) hy fun h₃ h2₃ hs₃ => wpAny_pure (wpAny_pure (wpAny_pure ?_)))
  refine wpAny_bind (wpAny_newTuple ?_ (by show 2 ≤ sizeLine; decide))
  have hsz : h₃.objs.size = s.heap.objs.size := by rw [hs₃.1, hs₂.1, hs₁.1]
  refine wpAny_pure ⟨_, rfl, ?_⟩
  show Q (.ref h₃.objs.size) _
  have hn : ∀ c o, h₃.get? c = some o → (h₃.push (prObj x y)).get? c = some o := fun c o e => Heap.get?_push_of_some _ e
  have hpair : (h₃.push (prObj x y)).get? h₃.objs.size = some (prObj x y) := Heap.get?_push_size _ rfl
  rw [hsz] at hpair ⊢
  refine hQ _ ?_ ⟨a, b, hn _ _ (hs₃.extBut _ _ D.TOi2 (hs₂.extBut _ _ D.TOi1 (hs₁.extBut _ _ D.TOz hTO)))⟩ ?_ ?_ hpair (by rw [Heap.size_push, hsz]) ?_
  · obtain ⟨T', f', a1⟩ := hb₁
    exact ⟨T', f', hn _ _ (hs₃.extBut _ _ D.i2z.symm (hs₂.extBut _ _ D.i1z.symm a1))⟩
  · exact (h1₂.extBut hs₃.extBut D.i12).at fun o q => hn _ o q
  · exact h2₃.at fun o q => hn _ o q
  · exact fun c o c1 _ c2 c3 e => hn c o (hs₃.extBut _ _ c3 (hs₂.extBut _ _ c2 (hs₁.extBut _ _ c1 e)))
theorem zipB_next_end {z TI TO i1 i2 l1 l2 : Addr} {k1 k2 : Nat} {xs ys : Array Value} {Q : Fin → Shared → Prop} (hh : A.handled = none) (D : ZipApart z TI TO i1 i2 l1 l2)
    (hz : ZBusy s.heap z TI TO) (hTI : PySem.IsPair s.heap TI (.ref i1) (.ref i2)) {a b : Value} (hTO : PySem.IsPair s.heap TO a b)
    (h1 : s.heap.IsTupleIter i1 l1 k1) (h2 : s.heap.IsTupleIter i2 l2 k2) (hl1 : s.heap.IsTuple l1 xs) (hl2 : s.heap.IsTuple l2 ys) (hend : xs[k1]? = none ∨ ys[k2]? = none)
    (hE : ∀ h' e, (∀ c o, c ≠ z → c ≠ TO → c ≠ i1 → c ≠ i2 → s.heap.get? c = some o → h'.get? c = some o) → (∃ o, h'.get? e = some o ∧ o.cls = .type "StopIteration") → E (.ref e) { s with heap := h' }) :
    wpAny (model prog w) A (Builtin.«zip.__next__» ⟨[.ref z], []⟩) Q E s := by
  obtain ⟨T0, f0, hz0⟩ := id hz
  show wpAny _ _ (field (.ref z) 2 >>= _) _ _ _
  refine wpAny_bind (wpAny_field hz0 rfl (x := .bool false) rfl ?_)
  show wpAny _ _ (field (.ref z) 3 >>= _) _ _ _
  refine wpAny_bind (wpAny_field hz0 rfl (x := .ref TI) rfl ?_)
  refine wpAny_bind (wpAny_seqItems hTI rfl ?_)
  show wpAny _ _ (Builtin.SmallTypes.ownedTupleIsFree (.ref z) >>= _) _ _ _
  refine wpAny_bind (zip_free hz (fun h₁ hb₁ hs₁ => ?_) ?gone)
  case gone =>
    simp only [if_true]
    refine wpAny_bind (wpAny_rule ?_)
    refine wpAny_bind (wpAny_field hz0 rfl (x := .ref TO) rfl ?_)
    refine wpAny_bind (wpAny_setField_rec hz0 (by simp) fun g1 zz1 t1 => ?_)
    have zz1 : g1.get? z = some (zpObj .ellipsis (.bool f0) TI TO) := zz1
    simp only [List.zipIdx_cons, List.zipIdx_nil, List.forIn_cons, List.forIn_nil]
    refine wpAny_bind (wpAny_bind (wpAny_bind (wpAny_onRaise ?_)))
    show wpAny _ _ (Builtin.SmallTypes.nextOf (.ref i1) >>= _) _ _ _
    cases hx : xs[k1]? with
    | none =>
      refine wpAny_bind (nextOf_tuple_end hh (h1.extBut t1.extBut D.i1z) (hl1.extBut t1.extBut D.l1z) hx fun g2 e t2 he => ?_)
      obtain ⟨oe, hoe, hce⟩ := he
      have zz2 : g2.get? z = some (zpObj .ellipsis (.bool f0) TI TO) := t2 _ _ D.i1z.symm zz1
      have ez : e ≠ z := fun q => by subst q; rw [zz2] at hoe; cases hoe; simp at hce
      exact wpAny_setField_rec zz2 (by simp) fun g3 _ t3 => hE g3 e (fun c o c1 _ c3 _ q => t3.extBut _ _ c1 (t2 _ _ c3 (t1.extBut _ _ c1 q))) ⟨oe, t3.extBut _ _ ez hoe, hce⟩
    | some x =>
      have hy : ys[k2]? = none := by rcases hend with h | h; rw [hx] at h; cases h; exact h
      refine wpAny_bind (nextOf_tuple_item (h1.extBut t1.extBut D.i1z) (hl1.extBut t1.extBut D.l1z) hx fun g2 j1 t2 => wpAny_pure ?_)
      have to2 : PySem.IsPair g2 TO a b := t2.extBut _ _ D.TOi1 (t1.extBut _ _ D.TOz hTO)
      refine wpAny_bind (wpAny_seqItems to2 rfl (wpAny_bind (wpAny_updateSeq_pair to2 fun g3 to3 t3 => wpAny_bind (wpAny_letGo (wpAny_pure ?_)))))
      refine wpAny_bind (wpAny_bind (wpAny_onRaise ?_))
      show wpAny _ _ (Builtin.SmallTypes.nextOf (.ref i2) >>= _) _ _ _
      refine wpAny_bind (nextOf_tuple_end hh (((h2.extBut t1.extBut D.i2z).extBut t2.extBut D.i12.symm).extBut t3.extBut D.TOi2.symm)
        (((hl2.extBut t1.extBut D.l2z).extBut t2.extBut D.l2i1).extBut t3.extBut D.l2TO) hy fun g4 e t4 he => ?_)
      obtain ⟨oe, hoe, hce⟩ := he
      have zz4 : g4.get? z = some (zpObj .ellipsis (.bool f0) TI TO) := t4 _ _ D.i2z.symm (t3.extBut _ _ D.TOz.symm (t2.extBut _ _ D.i1z.symm zz1))
      have ez : e ≠ z := fun q => by subst q; rw [zz4] at hoe; cases hoe; simp at hce
      exact wpAny_setField_rec zz4 (by simp) fun g5 _ t5 => hE g5 e (fun c o c1 c2 c3 c4 q => t5.extBut _ _ c1 (t4 _ _ c4 (t3.extBut _ _ c2 (t2.extBut _ _ c3 (t1.extBut _ _ c1 q))))) ⟨oe, t5.extBut _ _ ez hoe, hce⟩
  simp only [Bool.false_eq_true, if_false]
  simp only [List.forIn_toArray, List.forIn_cons, List.forIn_nil]
  refine wpAny_bind (wpAny_bind (wpAny_bind (wpAny_holding ?_)))
  show wpAny _ _ (Builtin.SmallTypes.nextOf (.ref i1) >>= _) _ _ _
  cases hx : xs[k1]? with
  | none =>
    refine wpAny_bind (nextOf_tuple_end hh (h1.extBut hs₁.extBut D.i1z) (hl1.extBut hs₁.extBut D.l1z) hx fun h₂ e hs₂ he => ?_)
    exact hE h₂ e (fun c o c1 _ c3 _ x => hs₂ _ _ c3 (hs₁.extBut _ _ c1 x)) he
  | some x =>
    have hy : ys[k2]? = none := by rcases hend with h | h; rw [hx] at h; cases h; exact h
    refine wpAny_bind (nextOf_tuple_item (h1.extBut hs₁.extBut D.i1z) (hl1.extBut hs₁.extBut D.l1z) hx fun h₂ h1₂ hs₂ => wpAny_pure (wpAny_pure ?_))
    refine wpAny_bind (wpAny_bind (wpAny_holding ?_))
    show wpAny _ _ (Builtin.SmallTypes.nextOf (.ref i2) >>= _) _ _ _
    refine wpAny_bind (nextOf_tuple_end hh ((h2.extBut hs₁.extBut D.i2z).extBut hs₂.extBut D.i12.symm)
      ((hl2.extBut hs₁.extBut D.l2z).extBut hs₂.extBut D.l2i1) hy fun h₄ e hs₄ he => ?_)
    exact hE h₄ e (fun c o c1 _ c3 c4 x => hs₄ _ _ c4 (hs₂.extBut _ _ c3 (hs₁.extBut _ _ c1 x))) he
/-- a zip within another iterator, at any time -/
def ZAny (h : Heap) (z TI TO : Addr) : Prop := PySem.IsZip h z TI TO .none ∨ ZBusy h z TI TO
structure ZSt (h : Heap) (z TI TO i1 i2 l1 l2 : Addr) (i : Nat) : Prop where
  z : ZAny h z TI TO
  TI : PySem.IsPair h TI (.ref i1) (.ref i2)
  TO : ∃ x y, PySem.IsPair h TO x y
  i1 : h.IsTupleIter i1 l1 i
  i2 : h.IsTupleIter i2 l2 i
theorem nextZ_item {z TI TO i1 i2 l1 l2 : Addr} {k : Nat} {xs ys : Array Value} {x y : Value} {Q : Value → Shared → Prop} (D : ZipApart z TI TO i1 i2 l1 l2) (hst : ZSt s.heap z TI TO i1 i2 l1 l2 k)
    (hl1 : s.heap.IsTuple l1 xs) (hl2 : s.heap.IsTuple l2 ys) (hx : xs[k]? = some x) (hy : ys[k]? = some y)
    (hQ : ∀ h', ZSt h' z TI TO i1 i2 l1 l2 (k + 1) → PySem.IsPair h' s.heap.objs.size x y → h'.objs.size = s.heap.objs.size + 1 →
      (∀ c o, c ≠ z → c ≠ TO → c ≠ i1 → c ≠ i2 → s.heap.get? c = some o → h'.get? c = some o) → Q (.ref s.heap.objs.size) { s with heap := h' }) :
    wpAny (model prog w) A (Builtin.SmallTypes.nextOf (.ref z)) Q E s := by
  obtain ⟨hz, hTI, ⟨a, b, hTO⟩, h1, h2⟩ := hst
  have hT : s.TypeIs (.ref z) "zip" := by
    rcases hz with hz | ⟨_, _, hz⟩
    · exact ⟨_, hz, rfl⟩
    · exact ⟨_, hz, rfl⟩
  unfold Builtin.SmallTypes.nextOf
  refine wpAny_bind (wpAny_callSpecial?_slot (name := Str.ofString "__next__") hT F.slot_zip_next
    (wpAny_call_entry F.slot_zip_next hT F.entry_zip_next ?_ (F.args_zip_next_1 _)))
  rcases hz with hz | hz
  · refine zipT_next_item D hz hTI hTO h1 h2 hl1 hl2 hx hy fun h' a1 a2 a3 a4 a5 a6 a7 => wpAny_pure (hQ h' ⟨.inr ⟨_, false, a1⟩, ?_, ⟨_, _, a2⟩, a3, a4⟩ a5 a6 a7)
    exact a7 _ _ D.TIz D.TITO D.TIi1 D.TIi2 hTI
  · refine zipB_next_item D hz hTI hTO h1 h2 hl1 hl2 hx hy fun h' a1 a2 a3 a4 a5 a6 a7 => wpAny_pure (hQ h' ⟨.inr a1, ?_, a2, a3, a4⟩ a5 a6 a7)
    exact a7 _ _ D.TIz D.TITO D.TIi1 D.TIi2 hTI
theorem nextZ_end {z TI TO i1 i2 l1 l2 : Addr} {k : Nat} {xs ys : Array Value} {Q : Value → Shared → Prop} (hh : A.handled = none) (D : ZipApart z TI TO i1 i2 l1 l2) (hst : ZSt s.heap z TI TO i1 i2 l1 l2 k)
    (hl1 : s.heap.IsTuple l1 xs) (hl2 : s.heap.IsTuple l2 ys) (hend : xs[k]? = none ∨ ys[k]? = none)
    (hE : ∀ h' e, (∀ c o, c ≠ z → c ≠ TO → c ≠ i1 → c ≠ i2 → s.heap.get? c = some o → h'.get? c = some o) → (∃ o, h'.get? e = some o ∧ o.cls = .type "StopIteration") → E (.ref e) { s with heap := h' }) :
    wpAny (model prog w) A (Builtin.SmallTypes.nextOf (.ref z)) Q E s := by
  obtain ⟨hz, hTI, ⟨a, b, hTO⟩, h1, h2⟩ := hst
  have hT : s.TypeIs (.ref z) "zip" := by
    rcases hz with hz | ⟨_, _, hz⟩
    · exact ⟨_, hz, rfl⟩
    · exact ⟨_, hz, rfl⟩
  unfold Builtin.SmallTypes.nextOf
  refine wpAny_bind (wpAny_callSpecial?_slot (name := Str.ofString "__next__") hT F.slot_zip_next
    (wpAny_call_entry F.slot_zip_next hT F.entry_zip_next ?_ (F.args_zip_next_1 _)))
  rcases hz with hz | hz
  · exact zipT_next_end hh D hz hTI hTO h1 h2 hl1 hl2 hend hE
  · exact zipB_next_end hh D hz hTI hTO h1 h2 hl1 hl2 hend hE
theorem ZSt.frame {h h' : Heap} {z TI TO i1 i2 l1 l2 e : Addr} {i : Nat} (S : ZSt h z TI TO i1 i2 l1 l2 i) (k : ∀ c o, c ≠ e → h.get? c = some o → h'.get? c = some o) (n : z ≠ e ∧ TI ≠ e ∧ TO ≠ e ∧ i1 ≠ e ∧ i2 ≠ e) : ZSt h' z TI TO i1 i2 l1 l2 i := by
  obtain ⟨n1, n2, n3, n4, n5⟩ := n
  refine ⟨?_, k _ _ n2 S.TI, ?_, S.i1.at fun o q => k _ o n4 q, S.i2.at fun o q => k _ o n5 q⟩
  · rcases S.z with hz | ⟨T, f, hz⟩
    · exact .inl (k _ _ n1 hz)
    · exact .inr ⟨T, f, k _ _ n1 hz⟩
  · obtain ⟨x, y, q⟩ := S.TO
    exact ⟨x, y, k _ _ n3 q⟩
/-- enumerate's next over a zip -/
theorem enumZ_next_item {e z TI TO i1 i2 l1 l2 : Addr} {i : Nat} {xs ys : Array Value} {x y old : Value} {Q : Value → Shared → Prop}
    (D : ZipApart z TI TO i1 i2 l1 l2) (he : IsEnum s.heap e z i old) (hst : ZSt s.heap z TI TO i1 i2 l1 l2 i) (n : z ≠ e ∧ TI ≠ e ∧ TO ≠ e ∧ i1 ≠ e ∧ i2 ≠ e)
    (hl1 : s.heap.IsTuple l1 xs) (hl2 : s.heap.IsTuple l2 ys) (hx : xs[i]? = some x) (hy : ys[i]? = some y)
    (hQ : ∀ h₁ h', (PySem.IsPair h₁ s.heap.objs.size x y ∧ (∀ c o, c ≠ z → c ≠ TO → c ≠ i1 → c ≠ i2 → s.heap.get? c = some o → h₁.get? c = some o)) →
      IsEnumOut h' e z ((i : Int) + 1) (.ref s.heap.objs.size) (s.heap.objs.size + 1) → ZSt h' z TI TO i1 i2 l1 l2 (i + 1) →
      h'.get? (s.heap.objs.size + 1) = some (prObj (.int i s.toks) (.ref s.heap.objs.size)) → h₁.objs.size = s.heap.objs.size + 1 →
      (∀ b o, b ≠ e → h₁.get? b = some o → h'.get? b = some o) → Q (.ref (s.heap.objs.size + 1)) { s with heap := h', toks := s.toks + 1 }) :
    wpAny (model prog w) A (Builtin.«enumerate.__next__» ⟨[.ref e], []⟩) (fun fin s' => ∃ v, fin = .done (.ret v) ∧ Q v s') E s := by
  obtain ⟨hp, g, d, tk, os⟩ := s
  show wpAny _ _ (field (.ref e) 2 >>= _) _ _ _
  refine wpAny_bind (wpAny_field he rfl (x := .ref z) rfl ?_)
  refine wpAny_bind (nextZ_item D hst hl1 hl2 hx hy fun h₁ st₁ pr₁ sz₁ k₁ => ?_)
  have el : e < hp.objs.size := Heap.lt_size he
  have pr₁ : PySem.IsPair h₁ hp.objs.size x y := pr₁
  have sz₁ : h₁.objs.size = hp.objs.size + 1 := sz₁
  have k₁ : ∀ c o, c ≠ z → c ≠ TO → c ≠ i1 → c ≠ i2 → hp.get? c = some o → h₁.get? c = some o := k₁
  have he₁ : IsEnum h₁ e z i old := k₁ e _ n.1.symm n.2.2.1.symm n.2.2.2.1.symm n.2.2.2.2.symm he
  show wpAny _ _ (field (.ref e) 3 >>= _) _ _ ⟨h₁, g, d, tk, os⟩
  refine wpAny_bind (wpAny_field he₁ rfl (x := rawInt i) rfl ?_)
  show wpAny _ _ (field (.ref e) 4 >>= _) _ _ ⟨h₁, g, d, tk, os⟩
  refine wpAny_bind (wpAny_field he₁ rfl (x := .none) rfl ?_)
  show wpAny _ _ (mkInt i >>= _) _ _ ⟨h₁, g, d, tk, os⟩
  refine wpAny_bind (wpAny_mkInt ?_)
  show wpAny _ _ (setField (.ref e) 3 (rawInt ((i : Int) + 1)) >>= _) _ _ ⟨h₁, g, d, tk + 1, os⟩
  refine wpAny_bind (wpAny_setField_rec he₁ (by simp) fun h₂ he₂ hs₂ => ?_)
  replace hs₂ : Heap.SameBut e h₁ h₂ := hs₂
  replace he₂ : IsEnum h₂ e z ((i : Int) + 1) old := he₂
  show wpAny _ _ (setField (.ref e) 4 .none >>= _) _ _ ⟨h₂, g, d, tk + 1, os⟩
  refine wpAny_bind (wpAny_setField_rec he₂ (by simp) fun h₃ he₃ hs₃ => ?_)
  replace hs₃ : Heap.SameBut e h₂ h₃ := hs₃
  replace he₃ : IsEnum h₃ e z ((i : Int) + 1) old := he₃
  show wpAny _ _ (newTuple [.int i tk, .ref hp.objs.size] >>= _) _ _ ⟨h₃, g, d, tk + 1, os⟩
  refine wpAny_bind (wpAny_newTuple ?_)
  have he₄ : IsEnum (h₃.push (prObj (.int i tk) (.ref hp.objs.size))) e z ((i : Int) + 1) old := Heap.get?_push_of_some _ he₃
  have hsz : h₃.objs.size = hp.objs.size + 1 := by rw [hs₃.1, hs₂.1, sz₁]
  have ht₄ : (h₃.push (prObj (.int i tk) (.ref hp.objs.size))).get? (hp.objs.size + 1) = some (prObj (.int i tk) (.ref hp.objs.size)) := by rw [← hsz]; exact Heap.get?_push_size _ rfl
  have k₄ : ∀ b o, b ≠ e → h₁.get? b = some o → (h₃.push (prObj (.int i tk) (.ref hp.objs.size))).get? b = some o := fun b o hb q => Heap.get?_push_of_some _ (hs₃.extBut b o hb (hs₂.extBut b o hb q))
  show wpAny _ _ (Builtin.SmallTypes.ownedTupleIsFree (.ref e) >>= _) _ _ ⟨h₃.push (prObj (.int i tk) (.ref hp.objs.size)), g, d, tk + 1, os⟩
  rw [hsz]
  generalize h₃.push (prObj (.int i tk) (.ref hp.objs.size)) = h₄ at he₄ ht₄ k₄
  refine wpAny_bind ?_
  · unfold Builtin.SmallTypes.ownedTupleIsFree
    refine wpAny_bind (wpAny_field he₄ rfl (x := .none) rfl (wpAny_pure ?_))
    simp only [if_true]
    refine wpAny_bind (wpAny_rule ?_)
    refine wpAny_bind (wpAny_field he₄ rfl (x := old) rfl ?_)
    refine wpAny_bind (wpAny_setField_rec he₄ (by simp) fun h₅ he₅ hs₅ => ?_)
    replace hs₅ : Heap.SameBut e h₄ h₅ := hs₅
    replace he₅ : IsEnum h₅ e z ((i : Int) + 1) (.ref hp.objs.size) := he₅
    show wpAny _ _ (Builtin.SmallTypes.ownedTupleHandOut (.ref e) (.ref (hp.objs.size + 1)) >>= _) _ _ ⟨h₅, g, d, tk + 1, os⟩
    refine wpAny_bind ?_
    · unfold Builtin.SmallTypes.ownedTupleHandOut
      refine wpAny_bind (wpAny_setField_rec he₅ (by simp) fun h₆ he₆ hs₆ => ?_)
      replace hs₆ : Heap.SameBut e h₅ h₆ := hs₆
      replace he₆ : IsEnumOut h₆ e z ((i : Int) + 1) (.ref hp.objs.size) (hp.objs.size + 1) := he₆
      refine wpAny_setField_rec he₆ (by simp) fun h₇ he₇ hs₇ => ?_
      replace hs₇ : Heap.SameBut e h₆ h₇ := hs₇
      replace he₇ : IsEnumOut h₇ e z ((i : Int) + 1) (.ref hp.objs.size) (hp.objs.size + 1) := he₇
      have k₇ : ∀ b o, b ≠ e → h₁.get? b = some o → h₇.get? b = some o := fun b o hb q => hs₇.extBut b o hb (hs₆.extBut b o hb (hs₅.extBut b o hb (k₄ b o hb q)))
      have ne : hp.objs.size + 1 ≠ e := Nat.ne_of_gt (Nat.lt_succ_of_lt el)
      exact wpAny_bind (wpAny_letGo (wpAny_pure ⟨_, rfl, hQ h₁ h₇ ⟨pr₁, k₁⟩ he₇ (st₁.frame k₇ n) (hs₇.extBut _ _ ne (hs₆.extBut _ _ ne (hs₅.extBut _ _ ne ht₄))) sz₁ k₇⟩))
theorem pyNext_enumZ_item {e z TI TO i1 i2 l1 l2 : Addr} {i : Nat} {xs ys : Array Value} {x y old : Value} {Q : Option Value → Shared → Prop}
    (D : ZipApart z TI TO i1 i2 l1 l2) (he : IsEnum s.heap e z i old) (hst : ZSt s.heap z TI TO i1 i2 l1 l2 i) (n : z ≠ e ∧ TI ≠ e ∧ TO ≠ e ∧ i1 ≠ e ∧ i2 ≠ e)
    (hl1 : s.heap.IsTuple l1 xs) (hl2 : s.heap.IsTuple l2 ys) (hx : xs[i]? = some x) (hy : ys[i]? = some y)
    (hQ : ∀ h₁ h', (PySem.IsPair h₁ s.heap.objs.size x y ∧ (∀ c o, c ≠ z → c ≠ TO → c ≠ i1 → c ≠ i2 → s.heap.get? c = some o → h₁.get? c = some o)) →
      IsEnumOut h' e z ((i : Int) + 1) (.ref s.heap.objs.size) (s.heap.objs.size + 1) → ZSt h' z TI TO i1 i2 l1 l2 (i + 1) →
      h'.get? (s.heap.objs.size + 1) = some (prObj (.int i s.toks) (.ref s.heap.objs.size)) → h₁.objs.size = s.heap.objs.size + 1 →
      (∀ b o, b ≠ e → h₁.get? b = some o → h'.get? b = some o) → Q (some (.ref (s.heap.objs.size + 1))) { s with heap := h', toks := s.toks + 1 }) :
    wpAny (model prog w) A (pyNext (.ref e)) Q E s := by
  have hT : s.TypeIs (.ref e) "enumerate" := ⟨_, he, rfl⟩
  unfold pyNext
  exact wpAny_bind (wpAny_attempt (wpAny_callSpecial?_slot (name := Str.ofString "__next__") hT F.slot_enumerate_next
    (wpAny_call_entry F.slot_enumerate_next hT F.entry_enumerate_next
      (enumZ_next_item D he hst n hl1 hl2 hx hy fun h₁ h' a b c d k q => wpAny_pure (hQ h₁ h' a b c d k q)) (F.args_enumerate_next_1 _))))
theorem pyNext_enumZ_end {e z TI TO i1 i2 l1 l2 : Addr} {i : Nat} {xs ys : Array Value} {old : Value} {Q : Option Value → Shared → Prop} (hh : A.handled = none)
    (D : ZipApart z TI TO i1 i2 l1 l2) (he : IsEnum s.heap e z i old) (hst : ZSt s.heap z TI TO i1 i2 l1 l2 i)
    (hl1 : s.heap.IsTuple l1 xs) (hl2 : s.heap.IsTuple l2 ys) (hend : xs[i]? = none ∨ ys[i]? = none)
    (hQ : ∀ h', (∀ c o, c ≠ z → c ≠ TO → c ≠ i1 → c ≠ i2 → s.heap.get? c = some o → h'.get? c = some o) → Q none { s with heap := h' }) : wpAny (model prog w) A (pyNext (.ref e)) Q E s := by
  have hT : s.TypeIs (.ref e) "enumerate" := ⟨_, he, rfl⟩
  unfold pyNext
  refine wpAny_bind (wpAny_attempt (wpAny_callSpecial?_slot (name := Str.ofString "__next__") hT F.slot_enumerate_next
    (wpAny_call_entry F.slot_enumerate_next hT F.entry_enumerate_next ?_ (F.args_enumerate_next_1 _))))
  show wpAny _ _ (field (.ref e) 2 >>= _) _ _ _
  refine wpAny_bind (wpAny_field he rfl (x := .ref z) rfl ?_)
  refine wpAny_bind (nextZ_end hh D hst hl1 hl2 hend fun h' x he' hx' => ?_)
  obtain ⟨o, ho, hc⟩ := hx'
  refine wpAny_bind (wpAny_isInstance (T := "StopIteration") (b := true) ⟨o, ho, hc⟩ isSubtype_stop ?_)
  exact wpAny_pure (hQ _ he')
end
/-- the tuples at a and b, the items in new pairs, these in new pairs with their places -/
def IteZ (K : PySem.W.Frag) (a b : Addr) : It :=
  ⟨fun i H => ∃ (xs ys : List V) (x y : V), SqT K H a xs ∧ SqT K H b ys ∧ xs[i]? = some x ∧ ys[i]? = some y,
    fun i H v H' => ∃ T T' x y, v = .ref T' ∧ H T = none ∧ H T' = none ∧ T ≠ T' ∧ H' = upd (upd H T (.tup [x, y])) T' (.tup [.int (i : Nat), .ref T]) ∧ (∀ xs, SqT K H a xs → xs[i]? = some x) ∧ ∀ ys, SqT K H b ys → ys[i]? = some y,
    fun i H => ∃ xs ys : List V, SqT K H a xs ∧ SqT K H b ys ∧ (xs.length ≤ i ∨ ys.length ≤ i)⟩
theorem turn_enumZ {P : Program} {w : World} {K : PySem.W.Frag} {elts : List Expr} {kk : Nat} {tpos : Pos} {a b e z TI TO i1 i2 : Addr} (D : ZipApart z TI TO i1 i2 a b) (n : z ≠ e ∧ TI ≠ e ∧ TO ≠ e ∧ i1 ≠ e ∧ i2 ≠ e) :
    Turn P w K (.Tuple elts kk tpos) (IteZ K a b) [e, z, TI, TO, i1, i2] e (fun i h => (∃ old, IsEnum h e z ((i : Nat) : Int) old) ∧ ZSt h z TI TO i1 i2 a b i) where
  mem := by simp
  obj := by
    rintro i h ⟨⟨old, he⟩, hz, hTI, ⟨x, y, hTO⟩, ⟨o1, e1, _, d1⟩, ⟨o2, e2, _, d2⟩⟩ c hc
    have e' : c = e ∨ c = z ∨ c = TI ∨ c = TO ∨ c = i1 ∨ c = i2 := by simpa using hc
    rcases e' with q | q | q | q | q | q
    · rw [q]; exact ⟨_, he, fun v q => nomatch q⟩
    · rw [q]
      rcases hz with hz | ⟨_, _, hz⟩
      · exact ⟨_, hz, fun v q => nomatch q⟩
      · exact ⟨_, hz, fun v q => nomatch q⟩
    · rw [q]; exact ⟨_, hTI, fun v q => nomatch q⟩
    · rw [q]; exact ⟨_, hTO, fun v q => nomatch q⟩
    · rw [q]; exact ⟨o1, e1, fun v q => by rw [d1] at q; cases q⟩
    · rw [q]; exact ⟨o2, e2, fun v q => by rw [d2] at q; cases q⟩
  keep := by
    rintro i h h' ⟨⟨old, he⟩, S⟩ k
    obtain ⟨x, y, q⟩ := S.TO
    refine ⟨⟨old, k e (by simp) _ he⟩, ?_, k TI (by simp) _ S.TI, ⟨x, y, k TO (by simp) _ q⟩, S.i1.at fun o q => k i1 (by simp) o q, S.i2.at fun o q => k i2 (by simp) o q⟩
    rcases S.z with hz | ⟨T, f, hz⟩
    · exact .inl (k z (by simp) _ hz)
    · exact .inr ⟨T, f, k z (by simp) _ hz⟩
  item := by
    intro X hP hw hK hc i pins s σ H E I hf st hg
    subst hP hw hK
    obtain ⟨⟨old, he⟩, S⟩ := st
    obtain ⟨xs, ys, x, y, hqx, hqy, hx, hy⟩ := hg
    obtain ⟨its, rv, p, _⟩ := I.tuple hqx
    obtain ⟨its2, rv2, p2, _⟩ := I.tuple hqy
    obtain ⟨u, hu, ru⟩ := rv.get hx
    obtain ⟨u2, hu2, ru2⟩ := rv2.get hy
    have lt : ∀ c ∈ [e, z, TI, TO, i1, i2], c < s.heap.objs.size := by
      obtain ⟨hz, hTI, ⟨x, y, hTO⟩, ⟨o1, e1, _, d1⟩, ⟨o2, e2, _, d2⟩⟩ := id S
      intro c hc
      have e' : c = e ∨ c = z ∨ c = TI ∨ c = TO ∨ c = i1 ∨ c = i2 := by simpa using hc
      rcases e' with q | q | q | q | q | q
      · rw [q]; exact Heap.lt_size he
      · rw [q]
        rcases hz with hz | ⟨_, _, hz⟩
        · exact Heap.lt_size hz
        · exact Heap.lt_size hz
      · rw [q]; exact Heap.lt_size hTI
      · rw [q]; exact Heap.lt_size hTO
      · rw [q]; exact Heap.lt_size e1
      · rw [q]; exact Heap.lt_size e2
    refine pyNext_enumZ_item D he S n p p2 (x := u) (y := u2) (by simpa using hu) (by simpa using hu2) fun h₁ h' ⟨pr, k1⟩ out st' tup sz k2 => ?_
    refine ⟨_, rfl, wpAny_letOwnedTupleGo_enum (s := { s with heap := h', toks := s.toks + 1 }) out fun h'' back same => ?_⟩
    have same : Heap.SameBut e h' h'' := same
    have ne1 : s.heap.objs.size ≠ e := Nat.ne_of_gt (lt e (by simp))
    have ne2 : s.heap.objs.size + 1 ≠ e := Nat.ne_of_gt (Nat.lt_succ_of_lt (lt e (by simp)))
    have new1 : ObjOk X.prog X.w (upd H s.heap.objs.size (.tup [x, y])) h₁ s.heap.objs.size (.tup [x, y]) :=
      ⟨by show 2 ≤ sizeLine; decide, [u, u2], .cons ru (.cons ru2 .nil), ⟨_, pr, rfl, _, rfl⟩⟩
    have hfz : ∀ c ∈ [z, TO, i1, i2], FpOk X pins H c := fun c hc => hf c (by simp only [List.mem_cons, List.not_mem_nil, or_false] at hc ⊢; rcases hc with q | q | q | q <;> simp [q])
    have I1 : Inv X pins σ (upd H s.heap.objs.size (.tup [x, y])) { s with heap := h₁ } :=
      I.turnedNew (t' := s.toks) (ch := [z, TO, i1, i2]) (fun c o hb q => k1 c o (fun q' => hb (by simp [q'])) (fun q' => hb (by simp [q'])) (fun q' => hb (by simp [q'])) (fun q' => hb (by simp [q'])) q) hfz (Nat.le_refl _) new1
    have k3 : ∀ c o, c ≠ e → h₁.get? c = some o → h''.get? c = some o := fun c o hb q => (same.2 c hb).trans (k2 c o hb q)
    have tup2 : h''.get? (s.heap.objs.size + 1) = some (prObj (.int i s.toks) (.ref s.heap.objs.size)) := (same.2 _ ne2).trans tup
    have hfe : ∀ c ∈ [e], FpOk X pins (upd H s.heap.objs.size (.tup [x, y])) c := fun c hc => by
      obtain rfl := List.mem_singleton.mp hc
      have := hf c (by simp)
      exact ⟨by rw [upd_ne ne1.symm]; exact this.1, this.2⟩
    have new2 : ObjOk X.prog X.w (upd (upd H s.heap.objs.size (.tup [x, y])) (s.heap.objs.size + 1) (.tup [.int (i : Nat), .ref s.heap.objs.size])) h'' (s.heap.objs.size + 1) (.tup [.int (i : Nat), .ref s.heap.objs.size]) :=
      ⟨by show 2 ≤ sizeLine; decide, [.int i s.toks, .ref s.heap.objs.size], .cons ⟨_, rfl⟩ (.cons rfl .nil), ⟨_, tup2, rfl, _, rfl⟩⟩
    have I2 : Inv X pins σ (upd (upd H s.heap.objs.size (.tup [x, y])) (s.heap.objs.size + 1) (.tup [.int (i : Nat), .ref s.heap.objs.size])) { s with heap := h'', toks := s.toks + 1 } :=
      I1.turnedNew (t' := s.toks + 1) (ch := [e]) (fun c o hb q => k3 c o (fun q' => hb (by simp [q'])) q) hfe (show h₁.objs.size ≤ _ by rw [sz]; exact Nat.le_refl _) new2
    refine ⟨.ref (s.heap.objs.size + 1), _, I2, rfl, ⟨_, _, x, y, rfl, I.hok.fresh (Nat.le_refl _), I.hok.fresh (Nat.le_succ _), (Nat.succ_ne_self _).symm, rfl, fun l hl => by rw [I.tuple_inj hl hqx]; exact hx, fun l hl => by rw [I.tuple_inj hl hqy]; exact hy⟩, ⟨⟨_, back⟩, ?_⟩, fun c hcm => ?_⟩
    · exact st'.frame (fun c o hb q => (same.2 c hb).trans q) n
    · have := lt c hcm
      rw [upd_ne (Nat.ne_of_lt (Nat.lt_succ_of_lt this)), upd_ne (Nat.ne_of_lt this)]
      exact (hf c hcm).1
  done := by
    intro X hP hw hK hc i pins s σ H E I hf st hg
    subst hP hw hK
    obtain ⟨⟨old, he⟩, S⟩ := st
    obtain ⟨xs, ys, hqx, hqy, hend⟩ := hg
    obtain ⟨its, rv, p, _⟩ := I.tuple hqx
    obtain ⟨its2, rv2, p2, _⟩ := I.tuple hqy
    have l1 := rv.length
    have l2 := rv2.length
    have hh : its.toArray[i]? = none ∨ its2.toArray[i]? = none := by
      rcases hend with q | q
      · exact .inl (by simp; omega)
      · exact .inr (by simp; omega)
    exact pyNext_enumZ_end (I.ok.hd hc) D he S p p2 hh fun h' hk => ⟨rfl, I.turnedL (t' := s.toks) (ch := [e, z, TI, TO, i1, i2]) (fun c o hb q =>
      hk c o (fun q' => hb (by simp [q'])) (fun q' => hb (by simp [q'])) (fun q' => hb (by simp [q'])) (fun q' => hb (by simp [q'])) q) hf⟩
  self := by
    rintro A i s Q E ⟨⟨old, he⟩, _⟩ h
    exact wpAny_pyIter_enum he h
/-- enumerate of what is its own iterator -/
theorem meets_enumS {v : Value} {Z : Heap → Prop} (B : ∀ (prog : Program) (w : World) (A : Around) (E : Value → Shared → Prop) (s : Shared) (Q : Value → Shared → Prop), Z s.heap → Q v s → wpAny (model prog w) A (pyIter v) Q E s) (a : Addr) (hv : v = .ref a) : Meets (Builtin.«enumerate.__new__» ⟨[.type "enumerate", v], []⟩)
    (fun _ R s => Z s.heap ∧ R (.ok (.ret (.ref s.heap.objs.size))) { s with heap := s.heap.push (enObj a 0) }) := by
  subst hv
  refine .of_wp fun prog w A R s zz => ?_
  obtain ⟨hp, gs, dr, tk, os⟩ := s
  obtain ⟨z1, z2⟩ := zz
  have sub := sub_enumerate
  have go : ∀ {A' : Around} {E : Value → Shared → Prop} {Q : Value → Shared → Prop}, Q (.ref a) ⟨hp, gs, dr, tk, os⟩ →
      wpAny (model prog w) A' (pyIter (.ref a)) Q E ⟨hp, gs, dr, tk, os⟩ := fun q => B prog w _ _ ⟨hp, gs, dr, tk, os⟩ _ z1 q
  wp_walk using go
  refine wpAny_stack_any fun st => wpAny_pure ?_
  split
  · rename_i c _ _ _ _ _
    cases (c == Value.type "enumerate") <;> (wp_walk using go; exact ⟨_, rfl, z2⟩)
  · wp_walk using go
    exact ⟨_, rfl, z2⟩
theorem enumS {prog : Program} {w : World} {A : Around} {E : Value → Shared → Prop} {s : Shared} {a : Addr} {Z : Heap → Prop} {Q : Value → Shared → Prop}
    (B : ∀ (prog : Program) (w : World) (A : Around) (E : Value → Shared → Prop) (s : Shared) (Q : Value → Shared → Prop), Z s.heap → Q (.ref a) s → wpAny (model prog w) A (pyIter (.ref a)) Q E s) (z : Z s.heap)
    (k : ∀ h', IsEnum h' s.heap.objs.size a 0 .none → (∀ b o, s.heap.get? b = some o → h'.get? b = some o) → Q (.ref s.heap.objs.size) { s with heap := h' }) :
    wpAny (model prog w) A (call (.type "enumerate") [.ref a]) Q E s := by
  refine callType_new F.called_enumerate (by decide) (F.typeCall_enumerate_1 _) (F.newCall_enumerate_1 _) (fun obj => F.args_object_init_2 obj _) F.entry_enumerate_new (meets_enumS B a rfl) ⟨z, ?_⟩
  have e1 : (s.heap.push (enObj a 0)).get? s.heap.objs.size = some (enObj a 0) := Heap.get?_push_size _ rfl
  exact ⟨⟨_, e1, rfl⟩, k _ e1 fun b o x => Heap.get?_push_of_some _ x⟩
def iEnumZ (K : PySem.W.Frag) (ta : TA) : TI := fun σ H R => ta σ H fun vs H1 => ∃ a b xs ys, vs = [.ref a, .ref b] ∧ SqT K H1 a xs ∧ SqT K H1 b ys ∧ R (IteZ K a b) H1
theorem pi_enumZ {X : Cx} {e e2 : Expr} {ta : TA} {p pos tpos p2 pos2 : Pos} {elts : List Expr} {kk : Nat} (hg : Gl X "enumerate") (hm : X.mg "enumerate" = none) (hgz : Gl X "zip") (hmz : X.mg "zip" = none) (ha : PA X [e, e2] ta)
    (hs : starEach [e, e2] X.env = (false, eval e X.env) :: starEach [e2] X.env := by rfl) (hpl : (backTo pos2 (starEach [e2] X.env)).any (·.1) = false := by rfl)
    (na : starEach [Expr.Call (.Name "zip" p2) [e, e2] [] pos2] X.env = (false, eval (.Call (.Name "zip" p2) [e, e2] [] pos2) X.env) :: starEach [] X.env := by rfl) :
    PI X (.Tuple elts kk tpos) (.Call (.Name "enumerate" p) [.Call (.Name "zip" p2) [e, e2] [] pos2] [] pos) (iEnumZ X.K ta) := by
  refine ⟨fun pins s σ H R I h => ?_⟩
  refine Call_ (ld_blt I hg hm boot_enumerate (PyProof.Rows.callWith_type1 (args_cons (thn (Call_ (ld_blt I hgz hmz PyProof.Rows.boot_zip (PyProof.Rows.callWith_type1 (thn (ha.run pos2 pins s σ H _ I h) fun us s1 ⟨vs, H1, I1, r1, q1⟩ => ?_) hs hpl))) fun x s1 q => args_nil q) na) na))
  obtain ⟨a, b, xs, ys, ex, hqx, hqy, q⟩ := q1
  subst ex
  obtain ⟨u1, u2, rfl, ra, rb⟩ : ∃ u1 u2, us = [u1, u2] ∧ RelV (.ref a) u1 ∧ RelV (.ref b) u2 := by
    cases r1 with
    | cons r rr => cases rr with
      | cons r' rr => cases rr; exact ⟨_, _, rfl, r, r'⟩
  have ra : u1 = .ref a := ra
  have rb : u2 = .ref b := rb
  subst ra rb
  obtain ⟨its, rv, p1, _⟩ := I1.tuple hqx
  obtain ⟨its2, rv2, p2, _⟩ := I1.tuple hqy
  obtain ⟨o1, ho1, _⟩ := id p1
  obtain ⟨o2, ho2, _⟩ := id p2
  have D : ZipApart (s1.heap.objs.size + 4) (s1.heap.objs.size + 2) (s1.heap.objs.size + 3) s1.heap.objs.size (s1.heap.objs.size + 1) a b := PySem.W.ktu_apart s1.heap.objs.size a b (Heap.lt_size ho1) (Heap.lt_size ho2)
  refine call_zipT (show s1.heap.IsTuple a its.toArray from p1) (show s1.heap.IsTuple b its2.toArray from p2) fun h' hz hTI hTO h1 h2 hsz hk => ?_
  have hsz : h'.objs.size = s1.heap.objs.size + 5 := hsz
  refine enumS (s := { s1 with heap := h' }) (Z := fun h => IsZip h (s1.heap.objs.size + 4) (s1.heap.objs.size + 2) (s1.heap.objs.size + 3) .none) (fun prog w A E s Q z q => wpAny_pyIter_zip z q) hz fun h'' he hk2 => wpAny_pyIter_enum he ?_
  have he : IsEnum h'' h'.objs.size (s1.heap.objs.size + 4) 0 .none := he
  have hk2 : ∀ b o, h'.get? b = some o → h''.get? b = some o := hk2
  have I2 : Inv X pins σ H1 { s1 with heap := h'' } := I1.kept (t' := s1.toks) fun b o q => hk2 b o (hk b o q)
  have S : ZSt h'' (s1.heap.objs.size + 4) (s1.heap.objs.size + 2) (s1.heap.objs.size + 3) s1.heap.objs.size (s1.heap.objs.size + 1) a b 0 := ⟨.inl (hk2 _ _ hz), hk2 _ _ hTI, ⟨_, _, hk2 _ _ hTO⟩, h1.at fun o q => hk2 _ o q, h2.at fun o q => hk2 _ o q⟩
  refine ⟨h'.objs.size, [h'.objs.size, s1.heap.objs.size + 4, s1.heap.objs.size + 2, s1.heap.objs.size + 3, s1.heap.objs.size, s1.heap.objs.size + 1], _, _, H1, rfl, I2, turn_enumZ D (by rw [hsz]; exact ⟨Nat.ne_of_lt (Nat.add_lt_add_left (by decide) _), Nat.ne_of_lt (Nat.add_lt_add_left (by decide) _), Nat.ne_of_lt (Nat.add_lt_add_left (by decide) _), Nat.ne_of_lt (Nat.lt_add_of_pos_right (by decide)), Nat.ne_of_lt (Nat.add_lt_add_left (by decide) _)⟩), ⟨⟨.none, he⟩, S⟩, fun c hcm => ?_, q⟩
  have hle : s1.heap.objs.size ≤ c := by
    simp only [List.mem_cons, List.not_mem_nil, or_false, hsz] at hcm
    rcases hcm with q | q | q | q | q | q
    · rw [q]; exact Nat.le_add_right _ _
    · rw [q]; exact Nat.le_add_right _ _
    · rw [q]; exact Nat.le_add_right _ _
    · rw [q]; exact Nat.le_add_right _ _
    · rw [q]; exact Nat.le_refl _
    · rw [q]; exact Nat.le_add_right _ _
  exact I1.fpOk hle (I1.hok.fresh hle)
theorem pi_enumZipK {X : Cx} {K : PySem.W.Frag} {e e2 : Expr} {ta : TA} {p pos tpos p2 pos2 : Pos} {elts : List Expr} {kk : Nat} (hg : Gl X "enumerate") (hm : X.mg "enumerate" = none) (hgz : Gl X "zip") (hmz : X.mg "zip" = none) (ha : PA X [e, e2] ta) (h : X.K = K := by rfl)
    (hs : starEach [e, e2] X.env = (false, eval e X.env) :: starEach [e2] X.env := by rfl) (hpl : (backTo pos2 (starEach [e2] X.env)).any (·.1) = false := by rfl)
    (na : starEach [Expr.Call (.Name "zip" p2) [e, e2] [] pos2] X.env = (false, eval (.Call (.Name "zip" p2) [e, e2] [] pos2) X.env) :: starEach [] X.env := by rfl) :
    PI X (.Tuple elts kk tpos) (.Call (.Name "enumerate" p) [.Call (.Name "zip" p2) [e, e2] [] pos2] [] pos) (iEnumZ K ta) := by subst h; exact pi_enumZ hg hm hgz hmz ha hs hpl na
variable {K : PySem.W.Frag} {Γ : Cxt} {ss : List Sl}
theorem walks_enumZ {a b : Addr} {xs ys : List D} : Walks K Γ (IteZ K a b) (enumD 0 (zipD xs ys)) [(.val (.tup xs), some (.ref a)), (.val (.tup ys), some (.ref b))] := fun H0 H ps I m => by
  obtain ⟨a', vs, e, hq, r⟩ := I.val (m _ List.mem_cons_self)
  obtain ⟨b', ws, e', hq', r'⟩ := I.val (m _ (List.mem_cons_of_mem _ List.mem_cons_self))
  cases e; cases e'
  refine ⟨fun i d hd => ?_, ⟨vs, ws, hq, hq', by rw [enumD_length, zipD_length, ← r.length, ← r'.length]; omega⟩⟩
  obtain ⟨pr, hp, rfl⟩ := enumD_get _ hd
  obtain ⟨x, y, hx, hy, rfl⟩ := zipD_get _ _ hp
  obtain ⟨v, hv, rv⟩ := r.get hx
  obtain ⟨w, hw, rw'⟩ := r'.get hy
  refine ⟨⟨vs, ws, v, w, hq, hq', hv, hw⟩, fun z H' y => ?_⟩
  obtain ⟨T, T', v1, w1, rfl, hT, hT', hne, rfl, y1, y2⟩ := y
  have e1 : v = v1 := Option.some.inj (hv.symm.trans (y1 vs hq))
  have e2 : w = w1 := Option.some.inj (hw.symm.trans (y2 ws hq'))
  subst e1 e2
  have J := I.newTup hT (.cons rv (.cons rw' .nil))
  have J2 := J.newTup (ds := [.int ((0 + i : Nat)), .tup [x, _]]) (ws := [.int ((i : Nat)), .ref T]) (p := T') (by rw [upd_ne hne.symm]; exact hT') (.cons (by rw [Nat.zero_add]; rfl) (.cons (J.val List.mem_cons_self) .nil))
  exact (J2.perm (List.Perm.swap _ _ _)).drop
theorem wpI_enumZ {ta : TA} {C : List D → Prop} (h : wpA K Γ ta ss fun ds => ∃ xs ys, ds = [.tup xs, .tup ys] ∧ C (enumD 0 (zipD xs ys))) : wpI K Γ (iEnumZ K ta) ss C := fun H0 σ H τ hl I R k =>
  h H0 σ H τ hl I _ fun vs ds H1 hd J c => by
    obtain ⟨xs, ys, rfl, c⟩ := c
    match vs, hd with
    | [v, w], _ =>
      obtain ⟨a, us, rfl, t, r⟩ := J.val (d := .tup xs) List.mem_cons_self
      obtain ⟨b, ws, rfl, t', r'⟩ := J.val (d := .tup ys) (List.mem_cons_of_mem _ List.mem_cons_self)
      refine ⟨a, b, us, ws, rfl, t, t', k _ H1 _ [(.val (.tup xs), some (.ref a)), (.val (.tup ys), some (.ref b))] (J.perm ?_) walks_enumZ c⟩
      rw [← List.append_assoc, ← List.append_assoc]
      exact List.perm_append_comm.append_right _
end SQ
/-! repr of any plain value -/
namespace SQ
open PySem PySem.Spec PyProof.Rows L2
/-- what can be shown -/
def shw : D → Bool
  | .non => true
  | .bl _ => true
  | .int i => decide (i.natAbs < 10 ^ 45)
  | .str x => decide ((reprText x).length ≤ 1000000)
  | .lst ys => roks ys && nks ys && decide ((PyData.list (rps ys)).weight ≤ 200000) && decide (PyData.depthAll (rps ys) ≤ 60)
  | .tup ys => roks ys && !(PyData.hasDictAll (rps ys)) && decide ((PyData.list (rps ys)).weight ≤ 200000) && decide (PyData.depthAll (rps ys) ≤ 60)
  | .dk ks ds => rok (.dk ks ds) && nls ds && decide ((rp (.dk ks ds)).weight ≤ 200000) && decide ((rp (.dk ks ds)).depth ≤ 60)
  | _ => false
def rReprA (K : PySem.W.Frag) : List V → Hp → VK → Prop := fun xs H Q => ∃ (S : Addr → Prop) (v : V) (d : D), xs = [v] ∧ Rep K S H d v ∧ shw d = true ∧ Q (.str (rp d).shown) H
theorem cr_reprU {X : Cx} (hu : X.A.guards = some []) (hun : X.A.units + 200 < cLine) : CallR X (.builtin "repr") (rReprA X.K) := by
  intro pins s σ H xs us Q I r h
  obtain ⟨S, v, d, rfl, rd, ok, q⟩ := h
  cases d with
  | non =>
    have rd : v = .non := rd
    subst rd
    obtain ⟨u, rfl, r1⟩ := vals1 r
    cases (show u = Value.none from r1)
    exact PySem.P.repr_of_none ⟨.str _, H, I.tok _, ⟨_, rfl⟩, q⟩
  | bl b =>
    have rd : v = .bl b := rd
    subst rd
    obtain ⟨u, rfl, r1⟩ := vals1 r
    cases (show u = Value.bool b from r1)
    refine PySem.P.repr_of_bool ⟨.str _, H, I.tok _, ⟨_, rfl⟩, ?_⟩
    have e : (rp (.bl b)).shown = (if b then "True" else "False" : Str) := by simp [rp, PyData.shown]
    rw [← e]; exact q
  | int i =>
    have rd : v = .int i := rd
    subst rd
    obtain ⟨u, rfl, t, rfl⟩ := vals1 r
    have hi : i.natAbs < 10 ^ 45 := of_decide_eq_true ok
    refine PySem.P.repr_of_int (int_showable hi) ⟨.str _, H, I.tok _, ⟨_, rfl⟩, ?_⟩
    have e : (rp (.int i)).shown = (toString i : Str) := by simp [rp, PyData.shown]
    rw [← e]; exact q
  | str x =>
    have rd : v = .str x := rd
    subst rd
    obtain ⟨u, rfl, t, rfl⟩ := vals1 r
    have hx : (reprText x).length ≤ 1000000 := of_decide_eq_true ok
    refine PySem.P.repr_of_str ⟨.str _, H, I.tok _, ⟨_, rfl⟩, ?_⟩ (Nat.le_trans hx (by decide))
    have e : (rp (.str x)).shown = reprText x := by simp [rp, PyData.shown]
    rw [← e]; exact q
  | lst ys =>
    simp only [shw, Bool.and_eq_true, decide_eq_true_eq] at ok
    obtain ⟨⟨⟨k1, k2⟩, k3⟩, k4⟩ := ok
    exact cr_repr2U hu hun pins s σ H [v] us Q I r ⟨S, v, ys, rfl, rd, k1, k2, k3, k4, q⟩
  | tup ys =>
    simp only [shw, Bool.and_eq_true, decide_eq_true_eq, Bool.not_eq_true'] at ok
    obtain ⟨⟨⟨k1, k2⟩, k3⟩, k4⟩ := ok
    obtain ⟨u, rfl, r1⟩ := vals1 r
    obtain ⟨as, g, _⟩ := Rep.reads I (.tup ys) v u k1 rd r1
    obtain ⟨a, vs, rfl, _⟩ := rd
    cases (show u = Value.ref a from r1)
    have k3' : (rp (.tup ys)).weight ≤ 200000 := by
      have e : (rp (.tup ys)).weight = (PyData.list (rps ys)).weight := by simp [rp, PyData.weight]
      rw [e]; exact k3
    have hsz := shown_small (d := .tup ys) k1 k3'
    have hd : (rp (.tup ys)).depth ≤ 61 := by
      have e : (rp (.tup ys)).depth = PyData.depthAll (rps ys) + 1 := by simp [rp, PyData.depth]
      omega
    refine PySem.repr_of_reads' g (roks_show ys k1).1 (fun z => ?_) hu (by omega) (fun _ _ e => e) (fun h' t tk kp => ⟨.str _, H, I.kept kp, ⟨_, rfl⟩, q⟩) hsz
    have e : (rp (.tup ys)).hasDict = PyData.hasDictAll (rps ys) := by simp [rp, PyData.hasDict]
    rw [e, k2] at z; cases z
  | dk ks ds =>
    simp only [shw, Bool.and_eq_true, decide_eq_true_eq] at ok
    obtain ⟨⟨⟨k1, k2⟩, k3⟩, k4⟩ := ok
    obtain ⟨u, rfl, r1⟩ := vals1 r
    obtain ⟨as, g, no⟩ := Rep.reads I (.dk ks ds) v u k1 rd r1
    obtain ⟨a, kws, rfl, _⟩ := rd
    cases (show u = Value.ref a from r1)
    have hsz := shown_small (d := .dk ks ds) k1 k3
    refine PySem.repr_of_reads' g (rok_show _ k1).1 (fun z => no k2) hu (by omega) (fun _ _ e => e) (fun h' t tk kp => ⟨.str _, H, I.kept kp, ⟨_, rfl⟩, q⟩) hsz
  | _ => cases ok
theorem cr_reprA {X : Cx} (hu : X.A.guards = some []) {k : Nat} (hr : Room k X.A) : CallR X (.builtin "repr") (rReprA X.K) := cr_reprU hu (by have := hr.un; omega)
theorem cr_reprUK {X : Cx} {K : PySem.W.Frag} (hu : X.A.guards = some []) (hun : X.A.units + 200 < cLine) (h : X.K = K := by rfl) : CallR X (.builtin "repr") (rReprA K) := by subst h; exact cr_reprU hu hun
theorem cr_reprAK {X : Cx} {K : PySem.W.Frag} (hu : X.A.guards = some []) {k : Nat} (hr : Room k X.A) (h : X.K = K := by rfl) : CallR X (.builtin "repr") (rReprA K) := by subst h; exact cr_reprA hu hr
theorem wpB_reprA {K : PySem.W.Frag} {C : D → Prop} {d : D} (ok : shw d = true) (c : C (.str (rp d).shown)) : wpB K (rReprA K) [d] C := fun S H vs lv r Q q => by
  obtain ⟨v, ws, rfl, a, b⟩ := r
  have b : ws = [] := b
  subst b
  exact ⟨S, v, d, rfl, a, ok, q _ (.str _) H (Ext.refl H) rfl c⟩
end SQ
/-! a def with one keyword-only parameter that has a default (an int) -/
namespace SQ
open PySem PySem.Spec PyProof.Rows L2
def tAppN (n m : Nat) (ta tb : TA) : TA := fun σ H Q => ta σ H fun vs H1 => tb σ H1 fun zs H2 => vs.length = n ∧ zs.length = m ∧ Q (vs ++ zs) H2
def tDefN (d : Int) (ta : TA) : TA := fun σ H Q => ta σ H fun vs H1 => Q (vs ++ [.int d]) H1
section
variable {K : PySem.W.Frag} {Γ : Cxt} {ta tb : TA} {ss : List Sl} {C : List D → Prop} {n m : Nat}
theorem pile_app : ∀ {d1 : List D} {v1 : List V} {d2 : List D} {v2 : List V}, d1.length = v1.length → pile (d1 ++ d2) (v1 ++ v2) = pile d1 v1 ++ pile d2 v2
  | [], [], _, _, _ => rfl
  | d :: d1, v :: v1, d2, v2, h => by
    simp only [List.cons_append, pile_cons, pile_app (d1 := d1) (v1 := v1) (d2 := d2) (v2 := v2) (by simpa using h)]
theorem wpA_appN (h : wpA K Γ ta ss fun xs => xs.length = n ∧ wpA K Γ tb ss fun ys => ys.length = m ∧ C (xs ++ ys)) : wpA K Γ (tAppN n m ta tb) ss C := fun H0 σ H τ hl I Q q =>
  h H0 σ H τ hl I _ fun vs ds H1 hd J1 h1 => h1.2 H0 σ H1 (pile ds vs ++ τ) hl (J1.perm (by
      rw [← List.append_assoc, ← List.append_assoc]; exact List.Perm.append_right _ List.perm_append_comm)) _ fun zs es H2 he J2 c =>
    ⟨hd.symm.trans h1.1, he.symm.trans c.1, q (vs ++ zs) (ds ++ es) H2 (by simp [hd, he]) (J2.perm (by
      rw [pile_app hd]
      have a : (pile es zs ++ (ss.zip σ ++ (pile ds vs ++ τ))).Perm (pile es zs ++ (pile ds vs ++ (ss.zip σ ++ τ))) := List.Perm.append_left _ (by
        rw [← List.append_assoc, ← List.append_assoc]; exact List.Perm.append_right _ List.perm_append_comm)
      refine a.trans ?_
      rw [← List.append_assoc]
      exact List.Perm.append_right _ List.perm_append_comm)) c.2⟩
theorem wpA_defN {d : Int} (h : wpA K Γ ta ss fun xs => C (xs ++ [.int d])) : wpA K Γ (tDefN d ta) ss C := fun H0 σ H τ hl I Q q =>
  h H0 σ H τ hl I _ fun vs ds H1 hd J1 h1 => q (vs ++ [.int d]) (ds ++ [.int d]) H1 (by simp [hd]) ((J1.push (d := .int d) (v := .int d) rfl).perm (by
    rw [pile_app hd]
    show List.Perm ((Sl.val (.int d), some (.int d)) :: (pile ds vs ++ (ss.zip σ ++ τ))) ((pile ds vs ++ [(Sl.val (.int d), some (.int d))]) ++ (ss.zip σ ++ τ))
    rw [List.append_assoc]
    exact List.perm_middle.symm)) h1
end
/-- such a def's promise -/
structure CalK (P : Program) (w : World) (K : PySem.W.Frag) (mg : Str → Option Value) (base : Heap) (k : Nat) (x : Str) (n : Nat) (kw : Str) (d : Int) (sp : Sp) : Prop where
  ex : ∃ (f : Addr) (fd : FuncData) (ps : List Str), FnOk P w K mg base (L2.CX P w) k f fd ps sp ∧ mg x = some (.ref f) ∧ PySem.W.keepIn K (.ref f) = true ∧ (∃ ds, Vals [.int d] ds ∧ Binds K fd ps ds) ∧ KBn K fd ps n [kw] (fun us ws => us ++ ws) (fun vs zs => vs ++ zs)
structure DefK (K : PySem.W.Frag) (mg : Str → Option Value) (x : Str) (st : Stmt) (ps : List Str) (n : Nat) (kw : Str) (d : Int) : Prop where
  ex : ∃ (f : Addr) (fd : FuncData), Fun K x x st f fd ∧ mg x = some (.ref f) ∧ (∃ ds, Vals [.int d] ds ∧ Binds K fd ps ds) ∧ KBn K fd ps n [kw] (fun us ws => us ++ ws) (fun vs zs => vs ++ zs)
section
variable {P : Program} {w : World} {K : PySem.W.Frag} {mg : Str → Option Value} {base h : Heap} {x kw : Str} {st : Stmt} {f : Addr} {fd : FuncData} {N ps : List Str} {k n : Nat} {d : Int} {F : Fn}
end
section
variable {X : Cx} {k j n : Nat} {x kw : Str} {sp : Sp} {p pos : Pos} {e : Expr} {es : List Expr} {t tk : TA} {d : Int} {kws : List Keyword}
end
end SQ
/-! max and min of a tuple of ints, of three ints -/
namespace SQ
open PySem PySem.Spec PyProof.Rows L2
section
variable {prog : Program} {w : World} {A : Around} {E : Value → Shared → Prop} {s : Shared} {l : Addr} {its : List Value} {ns : List Int} {Q : Value → Shared → Prop}
theorem tup_kept {h' : Heap} (hk : ∀ b o, b ∉ [s.heap.objs.size] → (s.heap.push { cls := .type "tuple_iterator", data := .fields #[.ref l, .int 0 0] }).get? b = some o → h'.get? b = some o) :
    ∀ b o, s.heap.get? b = some o → h'.get? b = some o := fun b o e => by
  refine hk b o (fun hm => ?_) (Heap.get?_push_of_some _ e)
  rcases List.mem_cons.mp hm with e1 | hm
  · exact absurd (e1 ▸ Heap.lt_size e) (Nat.lt_irrefl _)
  · cases hm
theorem max_tup_raw (hh : A.handled = none) (hl : s.heap.IsTuple l its.toArray) (hi : IntsAre its ns) (hne : 0 < ns.length)
    (h : ∀ h' tk M t', (∀ b o, s.heap.get? b = some o → h'.get? b = some o) → M ∈ ns → (∀ a, a ∈ ns → a ≤ M) → Q (.int M t') { s with heap := h', toks := tk }) : wpAny (model prog w) A (call (.builtin "max") [.ref l]) Q E s := by
  obtain ⟨xs, e⟩ := hi.allInts.items
  have hn : numsOf (intItems xs).toList = ns := by rw [← e]; exact hi.numsOf
  rw [nums_intItems] at hn
  subst hn
  rw [e] at hl
  have hsz : 0 < xs.size := by simpa using hne
  have hlt : l < s.heap.objs.size := by obtain ⟨_, e, _⟩ := hl; exact Heap.lt_size e
  refine call_max_walk (wpAny_pyIter_tuple hl ?_)
  refine ⟨_, _, _, _, _, _, _, rfl, Walks.tuple (A := A.in1) hh _ l (Nat.ne_of_lt hlt) (intItems xs), ⟨⟨_, Heap.get?_push_size _ rfl, rfl, rfl⟩, hl.push _⟩, fun c hc => ?_, by simpa [intItems] using hsz, CmpOf.ints_gt (numAt xs) (fun _ _ => intItems_at), fun v h' tk hP hk => ?_⟩
  · show c < (s.heap.push _).objs.size
    rw [Heap.size_push]
    rcases List.mem_cons.mp hc with rfl | hc
    · exact Nat.lt_succ_self _
    · rcases List.mem_cons.mp hc with rfl | hc
      · exact Nat.lt_succ_of_lt hlt
      · cases hc
  · have hv : (intItems xs)[argBest (fun i j => decide (numAt xs i > numAt xs j)) (xs.size - 1)]? = some v := by simpa [intItems] using hP
    obtain ⟨t, rfl⟩ := intItems_at hv
    obtain ⟨h1, h2⟩ := argBest_gt (numAt xs) (xs.size - 1)
    refine h h' tk _ t (tup_kept hk) ?_ fun a ha => ?_
    · rw [numAt_eq]; exact PySem.getD_mem (by rw [List.length_map, Array.length_toList]; omega)
    · obtain ⟨j, hj, rfl⟩ := mem_getD ha
      rw [List.length_map, Array.length_toList] at hj
      rw [← numAt_eq]; exact h2 j (by omega)
theorem min_tup_raw (hh : A.handled = none) (hl : s.heap.IsTuple l its.toArray) (hi : IntsAre its ns) (hne : 0 < ns.length)
    (h : ∀ h' tk M t', (∀ b o, s.heap.get? b = some o → h'.get? b = some o) → M ∈ ns → (∀ a, a ∈ ns → M ≤ a) → Q (.int M t') { s with heap := h', toks := tk }) : wpAny (model prog w) A (call (.builtin "min") [.ref l]) Q E s := by
  obtain ⟨xs, e⟩ := hi.allInts.items
  have hn : numsOf (intItems xs).toList = ns := by rw [← e]; exact hi.numsOf
  rw [nums_intItems] at hn
  subst hn
  rw [e] at hl
  have hsz : 0 < xs.size := by simpa using hne
  have hlt : l < s.heap.objs.size := by obtain ⟨_, e, _⟩ := hl; exact Heap.lt_size e
  refine call_min_walk (wpAny_pyIter_tuple hl ?_)
  refine ⟨_, _, _, _, _, _, _, rfl, Walks.tuple (A := A.in1) hh _ l (Nat.ne_of_lt hlt) (intItems xs), ⟨⟨_, Heap.get?_push_size _ rfl, rfl, rfl⟩, hl.push _⟩, fun c hc => ?_, by simpa [intItems] using hsz, CmpOf.ints_lt (numAt xs) (fun _ _ => intItems_at), fun v h' tk hP hk => ?_⟩
  · show c < (s.heap.push _).objs.size
    rw [Heap.size_push]
    rcases List.mem_cons.mp hc with rfl | hc
    · exact Nat.lt_succ_self _
    · rcases List.mem_cons.mp hc with rfl | hc
      · exact Nat.lt_succ_of_lt hlt
      · cases hc
  · have hv : (intItems xs)[argBest (fun i j => decide (numAt xs i < numAt xs j)) (xs.size - 1)]? = some v := by simpa [intItems] using hP
    obtain ⟨t, rfl⟩ := intItems_at hv
    obtain ⟨h1, h2⟩ := argBest_lt (numAt xs) (xs.size - 1)
    refine h h' tk _ t (tup_kept hk) ?_ fun a ha => ?_
    · rw [numAt_eq]; exact PySem.getD_mem (by rw [List.length_map, Array.length_toList]; omega)
    · obtain ⟨j, hj, rfl⟩ := mem_getD ha
      rw [List.length_map, Array.length_toList] at hj
      rw [← numAt_eq]; exact h2 j (by omega)
end
def bMaxT (K : PySem.W.Frag) : List V → Hp → VK → Prop := fun vs H Q => ∃ (a : Addr) (ns : List Int), vs = [V.ref a] ∧ SqT K H a (ns.map V.int) ∧ 0 < ns.length ∧ ∀ m, m ∈ ns → (∀ y, y ∈ ns → y ≤ m) → Q (.int m) H
def bMinT (K : PySem.W.Frag) : List V → Hp → VK → Prop := fun vs H Q => ∃ (a : Addr) (ns : List Int), vs = [V.ref a] ∧ SqT K H a (ns.map V.int) ∧ 0 < ns.length ∧ ∀ m, m ∈ ns → (∀ y, y ∈ ns → m ≤ y) → Q (.int m) H
section
variable {X : Cx}
theorem cr_maxT (hc : X.calm = true) : CallR X (.builtin "max") (bMaxT X.K) := by
  intro pins s σ H vs us Q I r h
  obtain ⟨a, ns, rfl, hs, hne, q⟩ := h
  obtain ⟨its, rv, hl, hz⟩ := I.tuple hs
  rw [Vals.ref1 r]
  have hl' : s.heap.IsTuple a its.toArray := by
    obtain ⟨o, h1, h2, n, h3⟩ := hl
    exact ⟨o, h1, h2, n, h3⟩
  exact max_tup_raw (I.ok.hd hc) hl' rv.ints hne fun h' tk m t' hk h1 h2 => ⟨.int _, H, I.kept hk, ⟨_, rfl⟩, q m h1 h2⟩
theorem cr_minT (hc : X.calm = true) : CallR X (.builtin "min") (bMinT X.K) := by
  intro pins s σ H vs us Q I r h
  obtain ⟨a, ns, rfl, hs, hne, q⟩ := h
  obtain ⟨its, rv, hl, hz⟩ := I.tuple hs
  rw [Vals.ref1 r]
  have hl' : s.heap.IsTuple a its.toArray := by
    obtain ⟨o, h1, h2, n, h3⟩ := hl
    exact ⟨o, h1, h2, n, h3⟩
  exact min_tup_raw (I.ok.hd hc) hl' rv.ints hne fun h' tk m t' hk h1 h2 => ⟨.int _, H, I.kept hk, ⟨_, rfl⟩, q m h1 h2⟩
def bMax4 (K : PySem.W.Frag) : List V → Hp → VK → Prop := fun vs H Q => bMax K vs H Q ∨ bMaxT K vs H Q ∨ rNuC3 nuMax3 vs H Q
def bMin4 (K : PySem.W.Frag) : List V → Hp → VK → Prop := fun vs H Q => bMin K vs H Q ∨ bMinT K vs H Q ∨ rNuC3 nuMin3 vs H Q
theorem cr_max4K {K : PySem.W.Frag} (hc : X.calm = true) (h : X.K = K := by rfl) : CallR X (.builtin "max") (bMax4 K) := by subst h; exact (cr_maxA hc).or ((cr_maxT hc).or (call_max3Nu hc))
theorem cr_min4K {K : PySem.W.Frag} (hc : X.calm = true) (h : X.K = K := by rfl) : CallR X (.builtin "min") (bMin4 K) := by subst h; exact (cr_minA hc).or ((cr_minT hc).or (call_min3Nu hc))
end
section
variable {K : PySem.W.Frag} {C : D → Prop} {ns : List Int} {i j k : Int}
theorem wpB_max4 {ds : List D} (h : wpB K (bMax K) ds C) : wpB K (bMax4 K) ds C := fun S H vs l r Q q => .inl (h S H vs l r Q q)
theorem wpB_min4 {ds : List D} (h : wpB K (bMin K) ds C) : wpB K (bMin4 K) ds C := fun S H vs l r Q q => .inl (h S H vs l r Q q)
theorem wpB_max4T (hn : 0 < ns.length) (k : ∀ m, m ∈ ns → (∀ y, y ∈ ns → y ≤ m) → C (.int m)) : wpB K (bMax4 K) [.tup (ns.map D.int)] C := fun S H vs l r Q q => by
  obtain ⟨v, rfl, a, ws, rfl, t, r⟩ := reps1 r
  rw [Reps.ints.mp r] at t
  exact .inr (.inl ⟨a, ns, rfl, t, hn, fun m h1 h2 => q _ (.int m) H (Ext.refl H) rfl (k m h1 h2)⟩)
theorem wpB_min4T (hn : 0 < ns.length) (k : ∀ m, m ∈ ns → (∀ y, y ∈ ns → m ≤ y) → C (.int m)) : wpB K (bMin4 K) [.tup (ns.map D.int)] C := fun S H vs l r Q q => by
  obtain ⟨v, rfl, a, ws, rfl, t, r⟩ := reps1 r
  rw [Reps.ints.mp r] at t
  exact .inr (.inl ⟨a, ns, rfl, t, hn, fun m h1 h2 => q _ (.int m) H (Ext.refl H) rfl (k m h1 h2)⟩)
theorem wpB_max43 (c : C (.int (max (max i j) k))) : wpB K (bMax4 K) [.int i, .int j, .int k] C := fun S H vs l r Q q => by
  obtain ⟨v, vs1, rfl, r1, w, vs2, rfl, r2, z, vs3, rfl, r3, e⟩ := r
  have e : vs3 = [] := e
  have r1 : v = .int i := r1
  have r2 : w = .int j := r2
  have r3 : z = .int k := r3
  subst e r1 r2 r3
  refine .inr (.inr ⟨_, _, _, .int (max (max i j) k), rfl, ?_, q _ (.int (max (max i j) k)) H (Ext.refl H) rfl c⟩)
  have two : ∀ a b : Int, nuMax2 (.int a) (.int b) = some (.int (max a b)) := fun a b => by
    simp only [nuMax2, nuLt, nuCB, Option.map_some, Option.some.injEq, decide_eq_true_eq]
    split <;> (congr 1; omega)
  rw [nuMax3, two, Option.bind_some, two]
theorem wpB_min43 (c : C (.int (min (min i j) k))) : wpB K (bMin4 K) [.int i, .int j, .int k] C := fun S H vs l r Q q => by
  obtain ⟨v, vs1, rfl, r1, w, vs2, rfl, r2, z, vs3, rfl, r3, e⟩ := r
  have e : vs3 = [] := e
  have r1 : v = .int i := r1
  have r2 : w = .int j := r2
  have r3 : z = .int k := r3
  subst e r1 r2 r3
  refine .inr (.inr ⟨_, _, _, .int (min (min i j) k), rfl, ?_, q _ (.int (min (min i j) k)) H (Ext.refl H) rfl c⟩)
  have two : ∀ a b : Int, nuMin2 (.int a) (.int b) = some (.int (min a b)) := fun a b => by
    simp only [nuMin2, nuLt, nuCB, Option.map_some, Option.some.injEq, decide_eq_true_eq]
    split <;> (congr 1; omega)
  rw [nuMin3, two, Option.bind_some, two]
end
end SQ
/-! list(zip(a, b)) of two tuples -/
namespace SQ
open PySem PySem.Spec PyProof.Rows L2 RZ
open Sem (wp)
section
variable {prog : Program} {w : World} {A : Around} {E : Value → Shared → Prop} {s : Shared}
theorem zip_no_len : typeLookup (.type "zip") "__len__" = pure none := by rw [typeLookup_type, builtinLookup_eq_fast]; kernel_rfl
theorem zip_no_hint : typeLookup (.type "zip") "__length_hint__" = pure none := by rw [typeLookup_type, builtinLookup_eq_fast]; kernel_rfl
theorem pyNextZ_item {z TI TO i1 i2 l1 l2 : Addr} {k : Nat} {xs ys : Array Value} {x y : Value} {Q : Option Value → Shared → Prop} (D : ZipApart z TI TO i1 i2 l1 l2) (hst : ZSt s.heap z TI TO i1 i2 l1 l2 k)
    (hl1 : s.heap.IsTuple l1 xs) (hl2 : s.heap.IsTuple l2 ys) (hx : xs[k]? = some x) (hy : ys[k]? = some y)
    (hQ : ∀ h', ZSt h' z TI TO i1 i2 l1 l2 (k + 1) → PySem.IsPair h' s.heap.objs.size x y → h'.objs.size = s.heap.objs.size + 1 →
      (∀ c o, c ≠ z → c ≠ TO → c ≠ i1 → c ≠ i2 → s.heap.get? c = some o → h'.get? c = some o) → Q (some (.ref s.heap.objs.size)) { s with heap := h' }) :
    wpAny (model prog w) A (pyNext (.ref z)) Q E s := by
  obtain ⟨hz, hTI, ⟨a, b, hTO⟩, h1, h2⟩ := hst
  have hT : s.TypeIs (.ref z) "zip" := by
    rcases hz with hz | ⟨_, _, hz⟩
    · exact ⟨_, hz, rfl⟩
    · exact ⟨_, hz, rfl⟩
  unfold pyNext
  refine wpAny_bind (wpAny_attempt (wpAny_callSpecial?_slot (name := Str.ofString "__next__") hT F.slot_zip_next
    (wpAny_call_entry F.slot_zip_next hT F.entry_zip_next ?_ (F.args_zip_next_1 _))))
  rcases hz with hz | hz
  · refine zipT_next_item D hz hTI hTO h1 h2 hl1 hl2 hx hy fun h' a1 a2 a3 a4 a5 a6 a7 => wpAny_pure (hQ h' ⟨.inr ⟨_, false, a1⟩, ?_, ⟨_, _, a2⟩, a3, a4⟩ a5 a6 a7)
    exact a7 _ _ D.TIz D.TITO D.TIi1 D.TIi2 hTI
  · refine zipB_next_item D hz hTI hTO h1 h2 hl1 hl2 hx hy fun h' a1 a2 a3 a4 a5 a6 a7 => wpAny_pure (hQ h' ⟨.inr a1, ?_, a2, a3, a4⟩ a5 a6 a7)
    exact a7 _ _ D.TIz D.TITO D.TIi1 D.TIi2 hTI
theorem pyNextZ_end {z TI TO i1 i2 l1 l2 : Addr} {k : Nat} {xs ys : Array Value} {Q : Option Value → Shared → Prop} (hh : A.handled = none) (D : ZipApart z TI TO i1 i2 l1 l2) (hst : ZSt s.heap z TI TO i1 i2 l1 l2 k)
    (hl1 : s.heap.IsTuple l1 xs) (hl2 : s.heap.IsTuple l2 ys) (hend : xs[k]? = none ∨ ys[k]? = none)
    (hQ : ∀ h', (∀ c o, c ≠ z → c ≠ TO → c ≠ i1 → c ≠ i2 → s.heap.get? c = some o → h'.get? c = some o) → Q none { s with heap := h' }) : wpAny (model prog w) A (pyNext (.ref z)) Q E s := by
  obtain ⟨hz, hTI, ⟨a, b, hTO⟩, h1, h2⟩ := hst
  have hT : s.TypeIs (.ref z) "zip" := by
    rcases hz with hz | ⟨_, _, hz⟩
    · exact ⟨_, hz, rfl⟩
    · exact ⟨_, hz, rfl⟩
  unfold pyNext
  refine wpAny_bind (wpAny_attempt (wpAny_callSpecial?_slot (name := Str.ofString "__next__") hT F.slot_zip_next
    (wpAny_call_entry F.slot_zip_next hT F.entry_zip_next ?_ (F.args_zip_next_1 _))))
  rcases hz with hz | hz
  · refine zipT_next_end hh D hz hTI hTO h1 h2 hl1 hl2 hend fun h' x he hx => ?_
    obtain ⟨o, ho, hc⟩ := hx
    refine wpAny_bind (wpAny_isInstance (T := "StopIteration") (b := true) ⟨o, ho, hc⟩ isSubtype_stop ?_)
    exact wpAny_pure (hQ _ he)
  · refine zipB_next_end hh D hz hTI hTO h1 h2 hl1 hl2 hend fun h' x he hx => ?_
    obtain ⟨o, ho, hc⟩ := hx
    refine wpAny_bind (wpAny_isInstance (T := "StopIteration") (b := true) ⟨o, ho, hc⟩ isSubtype_stop ?_)
    exact wpAny_pure (hQ _ he)
end
/-- what stands there when i pairs have been put on the list at S -/
structure LzSt (X : Cx) (pins : List (Addr × Obj)) (σ : L2.St) (z TI TO i1 i2 a b S : Addr) (its its2 : List Value) (xs ys : List V) (H0 : Hp) (i : Nat) (H : Hp) (s : Shared) (Ts : List Addr) : Prop where
  inv : Inv X pins σ H s
  st : ZSt s.heap z TI TO i1 i2 a b i
  t1 : s.heap.IsTuple a its.toArray
  t2 : s.heap.IsTuple b its2.toArray
  fp : ∀ q ∈ [z, TO, i1, i2], FpOk X pins H q
  lst : H S = some (.lst (Ts.map V.ref))
  mem : ∃ c, s.heap.get? S = some { cls := .type "list", dict := none, data := .seq (Ts.map Value.ref).toArray c, slots := #[] }
  len : Ts.length = i
  each : ∀ (j : Nat) (T : Addr) (x y : V), Ts[j]? = some T → xs[j]? = some x → ys[j]? = some y → H T = some (.tup [x, y])
  old : ∀ c u, c ≠ S → H0 c = some u → H c = some u
  new : ∀ T ∈ Ts, H0 T = none
theorem vals_refs : ∀ (Ts : List Addr), Vals (Ts.map V.ref) (Ts.map Value.ref)
  | [] => .nil
  | T :: r => .cons rfl (vals_refs r)
theorem ext_loopZ {X : Cx} {pins : List (Addr × Obj)} {σ : L2.St} {A : Around} (hh : A.in1.handled = none) {z TI TO i1 i2 a b S : Addr} (D : ZipApart z TI TO i1 i2 a b) {its its2 : List Value} {xs ys : List V} {H0 : Hp} (r1 : Vals xs its) (r2 : Vals ys its2)
    (res : Value) {R : Result → Shared → Prop} (hS : S ∉ [z, TO, i1, i2] ∧ S ≠ TI ∧ S ≠ a ∧ S ≠ b) {n : Nat} (hn : n = min xs.length ys.length) (hz : n ≤ sizeLine)
    (hR : ∀ s' H' Ts', LzSt X pins σ z TI TO i1 i2 a b S its its2 xs ys H0 n H' s' Ts' → ∀ h'', Inv X pins σ H' { s' with heap := h'' } → R (.ok (.ret res)) { s' with heap := h'' }) :
    ∀ (k i : Nat) (s : Shared) (H : Hp) (Ts : List Addr), n - i = k → i ≤ n → LzSt X pins σ z TI TO i1 i2 a b S its its2 xs ys H0 i H s Ts →
      codeAny (model X.prog X.w) A (.builtin "list.extend.loop" ⟨[.ref S, .ref z, res], []⟩) R s := by
  intro k
  induction k with
  | zero =>
    intro i s H Ts hk hi L
    have hin : i = n := by omega
    subst hin
    refine codeAny_builtin F.entry_extend_loop ?_
    rw [Around.under_plainId F.plain_extend_loop _]
    show wpAny _ A.in1 (pyNext (.ref z) >>= _) _ _ s
    have l1 : its.length = xs.length := r1.length.symm
    have l2 : its2.length = ys.length := r2.length.symm
    refine wpAny_bind (pyNextZ_end hh D L.st L.t1 L.t2 ?_ fun h' kk => ?_)
    · rcases Nat.le_total xs.length ys.length with h | h
      · exact .inl (Array.getElem?_eq_none (by simp; omega))
      · exact .inr (Array.getElem?_eq_none (by simp; omega))
    · refine wpAny_pure (hR s H Ts L h' (L.inv.turnedL (t' := s.toks) (ch := [z, TO, i1, i2]) (fun c o hc e => kk c o (fun q => hc (by simp [q])) (fun q => hc (by simp [q])) (fun q => hc (by simp [q])) (fun q => hc (by simp [q])) e) L.fp))
  | succ k ih =>
    intro i s H Ts hk hi L
    have hlt : i < n := by omega
    have hx : i < xs.length := by omega
    have hy : i < ys.length := by omega
    obtain ⟨u, hu, ru⟩ := r1.get (List.getElem?_eq_getElem hx)
    obtain ⟨v, hv, rv⟩ := r2.get (List.getElem?_eq_getElem hy)
    refine codeAny_builtin F.entry_extend_loop ?_
    rw [Around.under_plainId F.plain_extend_loop _]
    show wpAny _ A.in1 (pyNext (.ref z) >>= _) _ _ s
    refine wpAny_bind (pyNextZ_item D L.st L.t1 L.t2 (by simpa using hu) (by simpa using hv) fun h' st' pr sz kk => ?_)
    have Slt : S < s.heap.objs.size := by obtain ⟨c, e⟩ := L.mem; exact Heap.lt_size e
    have hS0 : S ≠ z ∧ S ≠ TO ∧ S ≠ i1 ∧ S ≠ i2 := by
      have := hS.1
      simp at this
      exact this
    have new : ObjOk X.prog X.w (upd H s.heap.objs.size (.tup [xs[i], ys[i]])) h' s.heap.objs.size (.tup [xs[i], ys[i]]) := by
      refine ⟨?_, [u, v], .cons ru (.cons rv .nil), ⟨_, pr, rfl, _, rfl⟩⟩
      show 2 ≤ sizeLine
      decide
    have I1 : Inv X pins σ (upd H s.heap.objs.size (.tup [xs[i], ys[i]])) { s with heap := h', toks := s.toks } :=
      L.inv.turnedNew (ch := [z, TO, i1, i2]) (fun c o hc e => kk c o (fun q => hc (by simp [q])) (fun q => hc (by simp [q])) (fun q => hc (by simp [q])) (fun q => hc (by simp [q])) e) L.fp (Nat.le_refl _) new
    obtain ⟨c, hm⟩ := L.mem
    have hm' : h'.get? S = some { cls := .type "list", dict := none, data := .seq (Ts.map Value.ref).toArray c, slots := #[] } := kk S _ hS0.1 hS0.2.1 hS0.2.2.1 hS0.2.2.2 hm
    show wpAny _ A.in1 (updateSeq S (·.push (.ref s.heap.objs.size)) >>= _) _ _ _
    refine wpAny_bind ?_
    have up : ∀ c o, c ≠ S → h'.get? c = some o → (h'.update S (Obj.mapSeq (·.push (.ref s.heap.objs.size)))).get? c = some o := fun c o hc e => (Heap.get?_update_other _ _ (fun q => hc q.symm)).trans e
    have hS2 := Heap.get?_update_self (Obj.mapSeq (·.push (.ref s.heap.objs.size))) hm' rfl
    obtain ⟨c3, hS3⟩ : ∃ c3, (h'.update S (Obj.mapSeq (·.push (.ref s.heap.objs.size)))).get? S = some { cls := .type "list", dict := none, data := .seq ((Ts ++ [s.heap.objs.size]).map Value.ref).toArray c3, slots := #[] } := ⟨_, by rw [hS2]; simp [Obj.mapSeq]; rfl⟩
    have Tlt : ∀ T ∈ Ts, T ≠ s.heap.objs.size := fun T m => by
      obtain ⟨j, hj⟩ := List.mem_iff_getElem?.mp m
      have jl : j < Ts.length := (List.getElem?_eq_some_iff.mp hj).1
      rw [L.len] at jl
      have := L.each j T _ _ hj (List.getElem?_eq_getElem (show j < xs.length by omega)) (List.getElem?_eq_getElem (show j < ys.length by omega))
      exact Nat.ne_of_lt (L.inv.hok.lt this)
    refine wpAny_updateSeq hm' rfl (wpAny_pure ⟨plainId_quiet F.plain_extend_loop _, ih (i + 1) _ (upd (upd H s.heap.objs.size (.tup [xs[i], ys[i]])) S (.lst ((Ts ++ [s.heap.objs.size]).map V.ref))) (Ts ++ [s.heap.objs.size]) (by omega) hlt ?_⟩) ?_ ?_
    · refine ⟨?_, ?_, ?_, ?_, ?_, upd_same, ?_, by simp [L.len], ?_, ?_, ?_⟩
      · refine I1.write (x := S) (e := S) (t' := s.toks) ?_ (.inl rfl) (fun c o hc e => up c o hc e) ⟨_, hS2⟩ ⟨?_, (Ts ++ [s.heap.objs.size]).map Value.ref, c3, vals_refs _, hS3⟩
        · rw [upd_ne (Nat.ne_of_lt Slt), L.lst]; trivial
        · simp [L.len]; omega
      · exact st'.frame (e := S) up ⟨hS0.1.symm, hS.2.1.symm, hS0.2.1.symm, hS0.2.2.1.symm, hS0.2.2.2.symm⟩
      · obtain ⟨o, h1, h2, m, h3⟩ := L.t1
        exact ⟨o, up _ _ hS.2.2.1.symm (kk _ _ D.l1z D.l1TO D.l1i1 D.l1i2 h1), h2, m, h3⟩
      · obtain ⟨o, h1, h2, m, h3⟩ := L.t2
        exact ⟨o, up _ _ hS.2.2.2.symm (kk _ _ D.l2z D.l2TO D.l2i1 D.l2i2 h1), h2, m, h3⟩
      · intro q hq
        obtain ⟨f0, f1⟩ := L.fp q hq
        refine ⟨?_, f1⟩
        have q1 : q ≠ S := fun e => hS.1 (e ▸ hq)
        have q2 : q < s.heap.objs.size := by
          have lz : z < s.heap.objs.size := by
            rcases L.st.z with h | ⟨_, _, h⟩ <;> exact Heap.lt_size h
          have lT : TO < s.heap.objs.size := by obtain ⟨_, _, h⟩ := L.st.TO; exact Heap.lt_size h
          have l1 : i1 < s.heap.objs.size := by obtain ⟨_, h, _⟩ := L.st.i1; exact Heap.lt_size h
          have l2 : i2 < s.heap.objs.size := by obtain ⟨_, h, _⟩ := L.st.i2; exact Heap.lt_size h
          simp only [List.mem_cons, List.not_mem_nil, or_false] at hq
          rcases hq with rfl | rfl | rfl | rfl <;> assumption
        rw [upd_ne q1, upd_ne (Nat.ne_of_lt q2)]
        exact f0
      · exact ⟨c3, hS3⟩
      · intro j T x y hT hx' hy'
        have hj : j < i + 1 := by
          have := (List.getElem?_eq_some_iff.mp hT).1
          simpa [L.len] using this
        by_cases e : j = i
        · subst e
          have : T = s.heap.objs.size := by
            rw [← L.len, List.getElem?_concat_length] at hT
            exact (Option.some.inj hT).symm
          subst this
          rw [upd_ne (Nat.ne_of_gt Slt), upd_same]
          rw [List.getElem?_eq_getElem hx] at hx'
          rw [List.getElem?_eq_getElem hy] at hy'
          cases hx'; cases hy'; rfl
        · have hT' : Ts[j]? = some T := by rwa [List.getElem?_append_left (by rw [L.len]; omega)] at hT
          have h0 := L.each j T x y hT' hx' hy'
          have n1 : T ≠ S := fun e => by rw [e, L.lst] at h0; cases h0
          rw [upd_ne n1, upd_ne (Tlt T (List.mem_of_getElem? hT'))]
          exact h0
      · intro c u hc e
        have := L.old c u hc e
        rw [upd_ne hc, upd_ne (Nat.ne_of_lt (L.inv.hok.lt this))]
        exact this
      · intro T m
        rcases List.mem_append.mp m with m | m
        · exact L.new T m
        · rw [List.mem_singleton.mp m]
          cases q : H0 s.heap.objs.size with
          | none => rfl
          | some u => exact absurd (L.inv.hok.lt (L.old _ u (Nat.ne_of_gt Slt) q)) (Nat.lt_irrefl _)
    · simp [L.len]; omega
    · show _ ≤ sizeLine + 1
      simp [L.len]; omega
theorem ext_zip {X : Cx} {pins : List (Addr × Obj)} {σ : L2.St} {A : Around} (hh : A.in1.handled = none) {z TI TO i1 i2 a b S : Addr} (D : ZipApart z TI TO i1 i2 a b) {its its2 : List Value} {xs ys : List V} {H0 : Hp} (r1 : Vals xs its) (r2 : Vals ys its2)
    {E : Value → Shared → Prop} (res : Value) {R : Result → Shared → Prop} (hS : S ∉ [z, TO, i1, i2] ∧ S ≠ TI ∧ S ≠ a ∧ S ≠ b) {n : Nat} (hn : n = min xs.length ys.length) (hz : n ≤ sizeLine) {s : Shared} {H : Hp}
    (L : LzSt X pins σ z TI TO i1 i2 a b S its its2 xs ys H0 0 H s [])
    (hR : ∀ s' H' Ts', LzSt X pins σ z TI TO i1 i2 a b S its its2 xs ys H0 n H' s' Ts' → ∀ h'', Inv X pins σ H' { s' with heap := h'' } → R (.ok (.ret res)) { s' with heap := h'' }) :
    wpAny (model X.prog X.w) A.in1 (Builtin.List.listExtendWith (.ref S) (.ref z) res)
      (fun fin s' => match fin with | .done f => R (.ok f) s' | .again c' => c'.quiet = true ∧ codeAny (model X.prog X.w) A c' R s') E s := by
  have hT : s.TypeIs (.ref z) "zip" := by
    rcases L.st.z with hz | ⟨_, _, hz⟩
    · exact ⟨_, hz, rfl⟩
    · exact ⟨_, hz, rfl⟩
  have hS0 : S ≠ z ∧ S ≠ TO ∧ S ≠ i1 ∧ S ≠ i2 := by
    have := hS.1
    simp at this
    exact this
  unfold Builtin.List.listExtendWith
  refine wpAny_bind (wpAny_typeOf hT ?_)
  have h1 : Builtin.List.listSameRef (.ref S) (.ref z) = false := by simp [Builtin.List.listSameRef, hS0.1]
  have h2 : (Value.type "zip" == Value.type "list") = false := by decide
  have h3 : (Value.type "zip" == Value.type "tuple") = false := by decide
  simp only [h1, h2, h3, Bool.or_false, Bool.false_eq_true, if_false]
  refine wpAny_bind ?_
  have itr : ∀ {Q : Value → Shared → Prop} {E : Value → Shared → Prop}, Q (.ref z) s → wpAny (model X.prog X.w) A.in1 (pyIter (.ref z)) Q E s := fun q => by
    refine wpAny_pyIter_slot hT F.slot_zip_iter (wpAny_call_entry F.slot_zip_iter hT F.entry_zip_iter ?_ (F.args_zip_iter_1 _))
    show wpAny _ _ (ret (.ref z)) _ _ s
    exact wpAny_pure ⟨_, rfl, "zip", _, hT, F.slot_zip_next.lookup, q⟩
  refine itr ?_
  refine wpAny_bind (wpAny_holding ?_)
  unfold Builtin.List.listLengthHint
  refine wpAny_bind (wpAny_specialOf hT zip_no_len ?_)
  show wpAny _ A.in1 (specialOf (Value.ref z) (Str.ofString "__length_hint__") >>= _) _ _ _
  refine wpAny_bind (wpAny_specialOf hT zip_no_hint ?_)
  refine wpAny_pure ?_
  show wpAny _ A.in1 (rule "list.extend.makes-room" >>= fun _ => Builtin.List.listTouch (.ref S) >>= fun _ =>
    again (.builtin "list.extend.loop" ⟨[.ref S, .ref z, res], []⟩)) _ _ _
  refine wpAny_bind (wpAny_rule ?_)
  refine wpAny_bind ?_
  show wpAny _ A.in1 (updateSeq S (·.push .none) >>= fun _ => updateSeq S (·.pop)) _ _ _
  obtain ⟨c, hm⟩ := L.mem
  refine wpAny_bind (wpAny_updateSeq hm rfl ?_)
  have hS₂ := Heap.get?_update_self (Obj.mapSeq (·.push Value.none)) hm rfl
  refine wpAny_updateSeq (hz := by seq_fits) hS₂ rfl ?_
  have hS₃ := Heap.get?_update_self (Obj.mapSeq (·.pop)) hS₂ rfl
  have oth : ∀ b o, b ≠ S → s.heap.get? b = some o → ((s.heap.update S (Obj.mapSeq (·.push Value.none))).update S (Obj.mapSeq (·.pop))).get? b = some o :=
    fun b o hb e => (Heap.get?_update_other _ _ (Ne.symm hb)).trans ((Heap.get?_update_other _ _ (Ne.symm hb)).trans e)
  refine wpAny_pure ⟨plainId_quiet F.plain_extend_loop _, ext_loopZ hh D r1 r2 res hS hn hz hR n 0 _ H [] rfl (Nat.zero_le _) ?_⟩
  obtain ⟨c3, hS4⟩ : ∃ c3, ((s.heap.update S (Obj.mapSeq (·.push Value.none))).update S (Obj.mapSeq (·.pop))).get? S = some { cls := .type "list", dict := none, data := .seq (([] : List Addr).map Value.ref).toArray c3, slots := #[] } := ⟨_, by rw [hS₃]; simp [Obj.mapSeq]; rfl⟩
  refine ⟨?_, L.st.frame (e := S) oth ⟨hS0.1.symm, hS.2.1.symm, hS0.2.1.symm, hS0.2.2.1.symm, hS0.2.2.2.symm⟩, ?_, ?_, L.fp, L.lst, ⟨c3, hS4⟩, rfl, fun j T x y h => by simp at h, L.old, fun T m => by cases m⟩
  · have e : upd H S (.lst (([] : List Addr).map V.ref)) = H := by
      funext q
      by_cases hq : q = S
      · subst hq; rw [upd_same, L.lst]
      · rw [upd_ne hq]
    have := L.inv.write (x := S) (e := S) (o := .lst (([] : List Addr).map V.ref)) (t' := s.toks) (by rw [L.lst]; trivial) (.inl rfl) oth ⟨_, hS4⟩ ⟨Nat.zero_le _, [], c3, .nil, hS4⟩
    rw [e] at this
    exact this
  · obtain ⟨o, h1, h2, m, h3⟩ := L.t1
    exact ⟨o, oth _ _ hS.2.2.1.symm h1, h2, m, h3⟩
  · obtain ⟨o, h1, h2, m, h3⟩ := L.t2
    exact ⟨o, oth _ _ hS.2.2.2.symm h1, h2, m, h3⟩
/-- list(zip(a, b)): the pairs, the list -/
def tListZip (K : PySem.W.Frag) (ta : TA) : TE := fun σ H Q => ta σ H fun vs H1 => ∃ a b xs ys, vs = [.ref a, .ref b] ∧ SqT K H1 a xs ∧ SqT K H1 b ys ∧
  ∀ (S : Addr) (Ts : List Addr) (H2 : Hp), H1 S = none → Ts.length = min xs.length ys.length → H2 S = some (.lst (Ts.map V.ref)) → (∀ (j : Nat) (T : Addr) (x y : V), Ts[j]? = some T → xs[j]? = some x → ys[j]? = some y → H2 T = some (.tup [x, y])) →
    (∀ c u, H1 c = some u → H2 c = some u) → (∀ T ∈ Ts, H1 T = none) → Q (.ref S) H2
theorem pe_listZip {X : Cx} {e e2 : Expr} {ta : TA} {p p2 q pos : Pos} (hg : Gl X "list") (hm : X.mg "list" = none) (hg2 : Gl X "zip") (hm2 : X.mg "zip" = none) (ha : PA X [e, e2] ta) (hc : X.calm = true := by rfl)
    (hs : starEach [e, e2] X.env = (false, eval e X.env) :: starEach [e2] X.env := by rfl) (hpl : (backTo q (starEach [e2] X.env)).any (·.1) = false := by rfl)
    (na : starEach [.Call (.Name "zip" p2) [e, e2] [] q] X.env = (false, eval (.Call (.Name "zip" p2) [e, e2] [] q) X.env) :: starEach [] X.env := by rfl) :
    PE X (.Call (.Name "list" p) [.Call (.Name "zip" p2) [e, e2] [] q] [] pos) (tListZip X.K ta) := by
  refine ⟨fun pins s σ H Q I h => ?_⟩
  refine Call_ (ld_blt I hg hm PyProof.Rows.boot_list ?_)
  refine PyProof.Rows.callWith_type1 (PyProof.Rows.args_cons ?_ na) na rfl
  refine Call_ (ld_blt I hg2 hm2 PyProof.Rows.boot_zip (PyProof.Rows.callWith_type1 (thn (ha.run q pins s σ H _ I h) fun us s1 ⟨vs, H1, I1, r1, q1⟩ => ?_) hs hpl))
  obtain ⟨a, b, xs, ys, rfl, hqx, hqy, q1⟩ := q1
  cases r1 with
  | cons r rr =>
    cases rr with
    | cons r' rr =>
      cases rr
      cases r
      cases r'
      obtain ⟨its, rv, p1, hz1⟩ := I1.tuple hqx
      obtain ⟨its2, rv2, p2', hz2⟩ := I1.tuple hqy
      obtain ⟨o1, ho1, _⟩ := id p1
      obtain ⟨o2, ho2, _⟩ := id p2'
      have la := Heap.lt_size ho1
      have lb := Heap.lt_size ho2
      refine call_zipT (show s1.heap.IsTuple a its.toArray from p1) (show s1.heap.IsTuple b its2.toArray from p2') fun h' hz hTI hTO h1 h2 hsz hk => PyProof.Rows.args_nil ?_
      have zS : (h'.push { cls := .type "list", data := .seq #[] }).get? h'.objs.size = some { cls := .type "list", data := .seq #[] } := Heap.get?_push_size _ rfl
      refine callType_codes (Q₁ := fun obj s₁ => obj = .ref h'.objs.size ∧ s₁ = { { s1 with heap := h' } with heap := h'.push { cls := .type "list", data := .seq #[] } }) F.called_list (F.typeCall_list_1 _) F.entry_list_init
        (code_list_new _ ⟨rfl, rfl⟩) fun obj s₁ h₁ => ?_
      obtain ⟨rfl, rfl⟩ := h₁
      refine ⟨⟨_, zS, rfl⟩, F.args_list_init_2 _ _, ?_⟩
      have nS : s1.heap.objs.size ≤ h'.objs.size := by omega
      have D := PySem.W.ktu_apart s1.heap.objs.size a b la lb
      show wpAny _ _ (do let old ← Builtin.List.listItems (.ref h'.objs.size); Builtin.List.listUpdate (.ref h'.objs.size) (fun _ => #[]); letGo old.toList.reverse; Builtin.List.listExtendWith (.ref h'.objs.size) (.ref (s1.heap.objs.size + 4)) .none) _ _ _
      refine wpAny_bind ?_
      unfold Builtin.List.listItems
      refine wpAny_bind (wpAny_seqItems zS rfl (wpAny_pure ?_))
      show wpAny _ _ (updateSeq h'.objs.size (fun _ => #[]) >>= fun _ => letGo (#[] : Array Value).toList.reverse >>= fun _ => Builtin.List.listExtendWith (.ref h'.objs.size) (.ref (s1.heap.objs.size + 4)) .none) _ _ _
      refine wpAny_bind (wpAny_updateSeq zS rfl ?_)
      have hS₂ := Heap.get?_update_self (Obj.mapSeq (fun _ => (#[] : Array Value))) zS rfl
      obtain ⟨c3, hS4⟩ : ∃ c3, ((h'.push { cls := .type "list", data := .seq #[] }).update h'.objs.size (Obj.mapSeq fun _ => (#[] : Array Value))).get? h'.objs.size = some { cls := .type "list", dict := none, data := .seq (([] : List Addr).map Value.ref).toArray c3, slots := #[] } := ⟨_, by rw [hS₂]; simp [Obj.mapSeq]; rfl⟩
      have oth : ∀ b o, b ≠ h'.objs.size → h'.get? b = some o → ((h'.push { cls := .type "list", data := .seq #[] }).update h'.objs.size (Obj.mapSeq fun _ => (#[] : Array Value))).get? b = some o :=
        fun b o hb e => (Heap.get?_update_other _ _ (Ne.symm hb)).trans (Heap.get?_push_of_some _ e)
      have lt' : ∀ {b o}, h'.get? b = some o → b ≠ h'.objs.size := fun e => Nat.ne_of_lt (Heap.lt_size e)
      refine wpAny_bind (wpAny_letGo ?_)
      have I2 : Inv X pins σ (upd H1 h'.objs.size (.lst (([] : List Addr).map V.ref))) { s1 with heap := (h'.push { cls := .type "list", data := .seq #[] }).update h'.objs.size (Obj.mapSeq fun _ => (#[] : Array Value)) } :=
        I1.laid (t' := s1.toks) (fun c o e => oth c o (lt' (hk c o e)) (hk c o e)) nS ⟨Nat.zero_le _, [], c3, .nil, hS4⟩
      have kz : ∀ k, k < 5 → (s1.heap.objs.size + k : Nat) ≠ h'.objs.size := fun k hk => by rw [hsz]; exact Nat.ne_of_lt (Nat.add_lt_add_left hk _)
      have nH : H1 h'.objs.size = none := I1.hok.fresh nS
      obtain ⟨o1', ho1', hc1, m1, hd1⟩ := p1
      obtain ⟨o2', ho2', hc2, m2, hd2⟩ := p2'
      have L : LzSt X pins σ (s1.heap.objs.size + 4) (s1.heap.objs.size + 2) (s1.heap.objs.size + 3) s1.heap.objs.size (s1.heap.objs.size + 1) a b h'.objs.size its its2 xs ys H1 0 (upd H1 h'.objs.size (.lst (([] : List Addr).map V.ref)))
          { s1 with heap := (h'.push { cls := .type "list", data := .seq #[] }).update h'.objs.size (Obj.mapSeq fun _ => (#[] : Array Value)) } [] := by
        refine ⟨I2, ?_, ⟨o1', oth _ _ (lt' (hk _ _ ho1')) (hk _ _ ho1'), hc1, m1, hd1⟩, ⟨o2', oth _ _ (lt' (hk _ _ ho2')) (hk _ _ ho2'), hc2, m2, hd2⟩, ?_, upd_same, ⟨c3, hS4⟩, rfl, fun j T x y h => by simp at h, fun c u hc e => by rw [upd_ne hc]; exact e, fun T m => by cases m⟩
        · exact ZSt.frame (e := h'.objs.size) ⟨.inl hz, hTI, ⟨_, _, hTO⟩, h1, h2⟩ oth ⟨kz 4 (by decide), kz 2 (by decide), kz 3 (by decide), kz 0 (by decide), kz 1 (by decide)⟩
        · intro c hcm
          have e' : c = s1.heap.objs.size + 4 ∨ c = s1.heap.objs.size + 3 ∨ c = s1.heap.objs.size ∨ c = s1.heap.objs.size + 1 := by simpa using hcm
          obtain ⟨k, hk5, rfl⟩ : ∃ k, k < 5 ∧ c = (s1.heap.objs.size + k : Nat) := by
            rcases e' with rfl | rfl | rfl | rfl
            · exact ⟨4, by decide, rfl⟩
            · exact ⟨3, by decide, rfl⟩
            · exact ⟨0, by decide, rfl⟩
            · exact ⟨1, by decide, rfl⟩
          have hle : s1.heap.objs.size ≤ s1.heap.objs.size + k := Nat.le_add_right _ _
          exact I1.fpOk hle (by rw [upd_ne (kz k hk5)]; exact I1.hok.fresh hle)
      refine ext_zip (A := X.A.in1) (show X.A.in1.in1.handled = none from I.ok.hd hc) D rv rv2 .none ⟨by simp only [List.mem_cons, List.not_mem_nil, or_false, not_or]; exact ⟨(kz 4 (by decide)).symm, (kz 3 (by decide)).symm, (kz 0 (by decide)).symm, (kz 1 (by decide)).symm⟩, (kz 2 (by decide)).symm, Nat.ne_of_gt (Nat.lt_of_lt_of_le la nS), Nat.ne_of_gt (Nat.lt_of_lt_of_le lb nS)⟩ (n := min xs.length ys.length) rfl (Nat.le_trans (Nat.min_le_left _ _) hz1) L fun s' H' Ts' L' h'' I3 => ?_
      refine ⟨rfl, ?_⟩
      exact ⟨.ref h'.objs.size, H', I3, rfl, q1 _ Ts' H' nH L'.len L'.lst L'.each (fun c u e => L'.old c u (fun z => by rw [z, nH] at e; cases e) e) L'.new⟩
section
variable {K : PySem.W.Frag} {Γ : Cxt} {ss : List Sl} {ta : TA}
theorem pe_listZipK {X : Cx} {e e2 : Expr} {ta : TA} {p p2 q pos : Pos} (hg : Gl X "list") (hm : X.mg "list" = none) (hg2 : Gl X "zip") (hm2 : X.mg "zip" = none) (ha : PA X [e, e2] ta) (hK : X.K = K := by rfl) (hc : X.calm = true := by rfl)
    (hs : starEach [e, e2] X.env = (false, eval e X.env) :: starEach [e2] X.env := by rfl) (hpl : (backTo q (starEach [e2] X.env)).any (·.1) = false := by rfl)
    (na : starEach [.Call (.Name "zip" p2) [e, e2] [] q] X.env = (false, eval (.Call (.Name "zip" p2) [e, e2] [] q) X.env) :: starEach [] X.env := by rfl) :
    PE X (.Call (.Name "list" p) [.Call (.Name "zip" p2) [e, e2] [] q] [] pos) (tListZip K ta) := by
  subst hK
  exact pe_listZip hg hm hg2 hm2 ha hc hs hpl na
theorem reps_zip {S : Addr → Prop} {H : Hp} : ∀ {xs : List D} {us : List V} {ys : List D} {ws : List V} {Ts : List Addr}, Reps K S H xs us → Reps K S H ys ws → Ts.length = min us.length ws.length →
    (∀ (j : Nat) (T : Addr) (x y : V), Ts[j]? = some T → us[j]? = some x → ws[j]? = some y → H T = some (.tup [x, y])) → Reps K S H (zipD xs ys) (Ts.map V.ref)
  | [], us, ys, ws, Ts, r, r', hl, h => by
    have : us = [] := r
    subst this
    have : Ts = [] := List.length_eq_zero_iff.mp (by simpa using hl)
    subst this
    exact rfl
  | x :: xs, us, [], ws, Ts, r, r', hl, h => by
    have : ws = [] := r'
    subst this
    have : Ts = [] := List.length_eq_zero_iff.mp (by simpa using hl)
    subst this
    exact rfl
  | x :: xs, us, y :: ys, ws, Ts, r, r', hl, h => by
    obtain ⟨u, us', rfl, ru, r⟩ := r
    obtain ⟨w, ws', rfl, rw', r'⟩ := r'
    cases Ts with
    | nil => simp at hl
    | cons T Ts =>
      have h0 := h 0 T u w rfl rfl rfl
      exact ⟨.ref T, Ts.map V.ref, rfl, ⟨T, [u, w], rfl, SqT.of h0, ⟨u, _, rfl, ru, ⟨w, _, rfl, rw', rfl⟩⟩⟩, reps_zip r r' (by simpa using hl) fun j T x y a b c => h (j + 1) T x y a b c⟩
theorem wpO_listZip {C : List D → Prop} (h : wpA K Γ ta ss fun ds => ∃ xs ys, ds = [.tup xs, .tup ys] ∧ C (zipD xs ys)) : wpO K Γ (tListZip K ta) ss C := fun H0 σ H τ hl I Q q =>
  h H0 σ H τ hl I _ fun vs ds H1 hd J1 ⟨xs, ys, e, hC⟩ => by
    subst e
    have r := J1.piled hd
    have J := J1.dropL
    obtain ⟨v, vs1, rfl, rv, w, vs2, rfl, rw', e⟩ := r
    have e : vs2 = [] := e
    subst e
    obtain ⟨a, us, rfl, t, ra⟩ := rv
    obtain ⟨b, ws, rfl, t', rb⟩ := rw'
    refine ⟨a, b, us, ws, rfl, t, t', fun S Ts H2 nS len hS each old new => ?_⟩
    let H3 : Hp := fun c => if c = S then none else H2 c
    have e3 : H2 = upd H3 S (.lst (Ts.map V.ref)) := by
      funext c
      by_cases hc : c = S
      · subst hc; rw [upd_same, hS]
      · rw [upd_ne hc]; show _ = if c = S then none else H2 c
        rw [if_neg hc]
    have ex : Ext H1 H3 := fun c u hu => by
      have hc : c ≠ S := fun z => by rw [z, nS] at hu; cases hu
      show (if c = S then none else H2 c) = some u
      rw [if_neg hc]; exact old c u hu
    have n3 : H3 S = none := if_pos rfl
    rw [e3]
    refine q S (zipD xs ys) _ ((J.ext ex).pushO n3 (reps_zip (ra.ext ex) (rb.ext ex) len fun j T x y a1 a2 a3 => ?_)) hC
    have h2 := each j T x y a1 a2 a3
    have hc : T ≠ S := fun z => by rw [z, hS] at h2; cases h2
    show (if T = S then none else H2 T) = _
    rw [if_neg hc]; exact h2
end
end SQ
/-! sorted of ints, or of pairs of ints -/
namespace SQ
open PySem PySem.Spec PyProof.Rows L2
def leP (a b : Int × Int) : Bool := !SrtO.lexB b a
theorem leP_iff {a b : Int × Int} : leP a b = true ↔ a.1 < b.1 ∨ (a.1 = b.1 ∧ a.2 ≤ b.2) := by
  unfold leP
  rw [Bool.not_eq_true', SrtO.lexB_no]
  omega
def upP (ps : List (Int × Int)) : List (Int × Int) := ps.mergeSort leP
theorem upP_perm (ps : List (Int × Int)) : (upP ps).Perm ps := List.mergeSort_perm _ _
theorem upP_rises (ps : List (Int × Int)) : (upP ps).Pairwise fun a b => leP a b = true := by
  exact List.pairwise_mergeSort (le := leP) (fun a b c h1 h2 => by rw [leP_iff] at *; omega) (fun a b => by rw [Bool.or_eq_true, leP_iff, leP_iff]; omega) ps
theorem upP_of {ps qs : List (Int × Int)} (p : qs.Perm ps) (h : qs.Pairwise fun a b => leP a b = true) : qs = upP ps :=
  List.Perm.eq_of_pairwise (fun a b _ _ h1 h2 => by
    rw [leP_iff] at h1 h2
    exact Prod.ext (by omega) (by omega)) h (upP_rises ps) (p.trans (upP_perm ps).symm)
def bSrt2 (K : PySem.W.Frag) : List V → Hp → VK → Prop := fun vs H Q => bSrt K false vs H Q ∨ rSortPT K vs H Q
section
variable {K : PySem.W.Frag} {C : D → Prop}
theorem cr_srt2K {X : Cx} (h : X.K = K := by rfl) : CallR X (.builtin "sorted") (bSrt2 K) := by subst h; exact cr_srt.or cr_sortPT
theorem wpB_srt2 {ds : List D} (h : wpB K (bSrt K false) ds C) : wpB K (bSrt2 K) ds C := fun S H vs l r Q q => .inl (h S H vs l r Q q)
theorem wpB_srt2P {ps : List (Int × Int)} (c : C (.lst ((upP ps).map pairD))) : wpB K (bSrt2 K) [.lst (ps.map pairD)] C := fun S H vs l r Q q =>
  .inr (wpB_sortPT (C := C) (fun qs p h => by
    have : qs = upP ps := upP_of p (h.imp fun {a b} h => by unfold leP; rw [h]; rfl)
    rw [this]; exact c) S H vs l r Q q)
end
end SQ
/-! zip of a list and a tuple -/
namespace SQ
open PySem PySem.Spec PyProof.Rows L2 RZ
abbrev zmH1 (h : Heap) (l1 : Addr) : Heap := h.push { cls := .type "list_iterator", data := .fields #[.ref l1, .int 0 0] }
abbrev zmH2 (h : Heap) (l1 l2 : Addr) : Heap := (zmH1 h l1).push { cls := .type "tuple_iterator", data := .fields #[.ref l2, .int 0 0] }
abbrev zmH3 (h : Heap) (l1 l2 : Addr) : Heap := (zmH2 h l1 l2).push { cls := .type "tuple", data := .seq #[.ref h.objs.size, .ref (zmH1 h l1).objs.size] }
abbrev zmH4 (h : Heap) (l1 l2 : Addr) : Heap := (zmH3 h l1 l2).push { cls := .type "tuple", data := .seq #[.none, .none] }
abbrev zmH5 (h : Heap) (l1 l2 : Addr) : Heap := (zmH4 h l1 l2).push { cls := .type "zip", data := .fields #[.none, .bool false, .bool false, .ref (zmH2 h l1 l2).objs.size, .ref (zmH3 h l1 l2).objs.size] }
theorem meets_zipM_new (l1 l2 : Addr) (xs ys : Array Value) :
    Meets (Builtin.«zip.__new__» ⟨[.type "zip", .ref l1, .ref l2], []⟩) (fun _ R s => s.heap.IsList l1 xs ∧ s.heap.IsTuple l2 ys ∧
      R (.ok (.ret (.ref (zmH4 s.heap l1 l2).objs.size))) { s with heap := zmH5 s.heap l1 l2 }) :=
  .of_wp fun prog w A R s h => by
    obtain ⟨hp, g, d, tk, os⟩ := s; obtain ⟨hl1, hl2, h⟩ := h
    have hsub := sub_zip
    have hL1 : Heap.IsList (Shared.heap ⟨hp, g, d, tk, os⟩) l1 xs := hl1
    have hL2 : Heap.IsTuple (Shared.heap ⟨hp.push { cls := .type "list_iterator", data := .fields #[.ref l1, .int 0 0] }, g, d, tk, os⟩) l2 ys := Heap.IsTuple.push hl2 _
    wp_walk using wpAny_pyIter_list hL1, wpAny_pyIter_tuple hL2
    exact ⟨_, rfl, h⟩
section
variable {prog : Program} {w : World} {A : Around} {E : Value → Shared → Prop} {s : Shared}
theorem call_zipM {l1 l2 : Addr} {xs ys : Array Value} {Q : Value → Shared → Prop} (hl1 : s.heap.IsList l1 xs) (hl2 : s.heap.IsTuple l2 ys)
    (h : ∀ h', PySem.IsZip h' (s.heap.objs.size + 4) (s.heap.objs.size + 2) (s.heap.objs.size + 3) .none → PySem.IsPair h' (s.heap.objs.size + 2) (.ref s.heap.objs.size) (.ref (s.heap.objs.size + 1)) →
      PySem.IsPair h' (s.heap.objs.size + 3) .none .none → h'.IsListIter s.heap.objs.size l1 0 → h'.IsTupleIter (s.heap.objs.size + 1) l2 0 → h'.objs.size = s.heap.objs.size + 5 →
      (∀ c o, s.heap.get? c = some o → h'.get? c = some o) → Q (.ref (s.heap.objs.size + 4)) { s with heap := h' }) :
    wpAny (model prog w) A (call (.type "zip") [.ref l1, .ref l2]) Q E s := by
  refine callType_new F.called_zip (by decide) (F.typeCall_zip_2 _ _) (F.newCall_zip_2 _ _) (fun obj => F.args_object_init_3 obj _ _) F.entry_zip_new
    (meets_zipM_new l1 l2 xs ys) ⟨hl1, hl2, ?_⟩
  have z1 : (zmH1 s.heap l1).objs.size = s.heap.objs.size + 1 := Heap.size_push ..
  have z2 : (zmH2 s.heap l1 l2).objs.size = s.heap.objs.size + 2 := by rw [Heap.size_push, z1]
  have z3 : (zmH3 s.heap l1 l2).objs.size = s.heap.objs.size + 3 := by rw [Heap.size_push, z2]
  have z4 : (zmH4 s.heap l1 l2).objs.size = s.heap.objs.size + 4 := by rw [Heap.size_push, z3]
  have z5 : (zmH5 s.heap l1 l2).objs.size = s.heap.objs.size + 5 := by rw [Heap.size_push, z4]
  have g5 : (zmH5 s.heap l1 l2).get? (zmH4 s.heap l1 l2).objs.size = some _ := Heap.get?_push_size _ rfl
  have g4 : (zmH5 s.heap l1 l2).get? (zmH3 s.heap l1 l2).objs.size = some _ := Heap.get?_push_of_some _ (Heap.get?_push_size _ rfl)
  have g3 : (zmH5 s.heap l1 l2).get? (zmH2 s.heap l1 l2).objs.size = some _ := Heap.get?_push_of_some _ (Heap.get?_push_of_some _ (Heap.get?_push_size _ rfl))
  have g2 : (zmH5 s.heap l1 l2).get? (zmH1 s.heap l1).objs.size = some _ := Heap.get?_push_of_some _ (Heap.get?_push_of_some _ (Heap.get?_push_of_some _ (Heap.get?_push_size _ rfl)))
  have g1 : (zmH5 s.heap l1 l2).get? s.heap.objs.size = some _ := Heap.get?_push_of_some _ (Heap.get?_push_of_some _ (Heap.get?_push_of_some _ (Heap.get?_push_of_some _ (Heap.get?_push_size _ rfl))))
  show _ ∧ _
  rw [z2, z3, z4] at g5
  rw [z1, z2] at g3
  rw [z3] at g4
  rw [z1] at g2
  rw [z4]
  exact ⟨⟨_, g5, rfl⟩, h _ g5 g3 g4 ⟨_, g1, rfl, rfl⟩ ⟨_, g2, rfl, rfl⟩ z5 fun c o x =>
    Heap.get?_push_of_some _ (Heap.get?_push_of_some _ (Heap.get?_push_of_some _ (Heap.get?_push_of_some _ (Heap.get?_push_of_some _ x))))⟩
end
/-- the list at a, the tuple at b, the items in new pairs -/
def ItzM (K : PySem.W.Frag) (a b : Addr) : It :=
  ⟨fun i H => ∃ (xs ys : List V) (x y : V), SqL K H a xs ∧ SqT K H b ys ∧ xs[i]? = some x ∧ ys[i]? = some y,
    fun i H v H' => ∃ T x y, v = .ref T ∧ H T = none ∧ H' = upd H T (.tup [x, y]) ∧ (∀ xs, SqL K H a xs → xs[i]? = some x) ∧ ∀ ys, SqT K H b ys → ys[i]? = some y,
    fun i H => ∃ xs ys : List V, SqL K H a xs ∧ SqT K H b ys ∧ i = min xs.length ys.length⟩
theorem zip_sepM {z TI TO i1 i2 a b : Addr} (D : ZipApart z TI TO i1 i2 a b) : ZipSep2 z TI TO i1 i2 [i1, a] [i2, b] where
  TIz := D.TIz
  TOz := D.TOz
  TITO := D.TITO
  TIi1 := D.TIi1
  mem1 := by simp
  zf1 := by simp; exact ⟨D.i1z.symm, D.l1z.symm⟩
  Tf1 := by simp; exact ⟨D.TOi1, D.l1TO.symm⟩
  TIi2 := D.TIi2
  mem2 := by simp
  zf2 := by simp; exact ⟨D.i2z.symm, D.l2z.symm⟩
  Tf2 := by simp; exact ⟨D.TOi2, D.l2TO.symm⟩
  sep1_2 := by simp; exact ⟨D.i12, D.l2i1.symm⟩
  sep2_1 := by simp; exact ⟨D.i12.symm, D.l1i2.symm⟩
theorem turn_zipM {P : Program} {w : World} {K : PySem.W.Frag} {elts : List Expr} {kk : Nat} {tpos : Pos} {a b z TI TO i1 i2 : Addr} (D : ZipApart z TI TO i1 i2 a b) :
    Turn P w K (.Tuple elts kk tpos) (ItzM K a b) [z, TI, TO, i1, i2] z (fun i h => PySem.IsZip h z TI TO .none ∧ PySem.IsPair h TI (.ref i1) (.ref i2) ∧ (∃ x y, PySem.IsPair h TO x y) ∧ h.IsListIter i1 a i ∧ h.IsTupleIter i2 b i) where
  mem := by simp
  obj := fun i h st c hc => by
    obtain ⟨hz, hTI, ⟨x, y, hTO⟩, ⟨o1, e1, _, d1⟩, ⟨o2, e2, _, d2⟩⟩ := st
    have e' : c = z ∨ c = TI ∨ c = TO ∨ c = i1 ∨ c = i2 := by simpa using hc
    rcases e' with q | q | q | q | q
    · rw [q]; exact ⟨_, hz, fun v q => nomatch q⟩
    · rw [q]; exact ⟨_, hTI, fun v q => nomatch q⟩
    · rw [q]; exact ⟨_, hTO, fun v q => nomatch q⟩
    · rw [q]; exact ⟨o1, e1, fun v q => by rw [d1] at q; cases q⟩
    · rw [q]; exact ⟨o2, e2, fun v q => by rw [d2] at q; cases q⟩
  keep := fun i h h' st k => by
    obtain ⟨hz, hTI, ⟨x, y, hTO⟩, h1, h2⟩ := st
    exact ⟨k z (by simp) _ hz, k TI (by simp) _ hTI, ⟨x, y, k TO (by simp) _ hTO⟩, h1.at fun o q => k i1 (by simp) o q, h2.at fun o q => k i2 (by simp) o q⟩
  item := by
    intro X hP hw hK hc i pins s σ H E I hf st hg
    subst hP hw hK
    obtain ⟨hz, hTI, ⟨x0, y0, hTO⟩, h1, h2⟩ := st
    obtain ⟨xs, ys, x, y, hqx, hqy, hx, hy⟩ := hg
    obtain ⟨its, rv, p, _⟩ := I.list hqx
    obtain ⟨its2, rv2, p2, _⟩ := I.tuple hqy
    obtain ⟨u, hu, ru⟩ := rv.get hx
    obtain ⟨u2, hu2, ru2⟩ := rv2.get hy
    have hzl : z < s.heap.objs.size := Heap.lt_size hz
    have D1 := Draws.list (prog := X.prog) (w := X.w) (A := X.A.in1) (show X.A.in1.handled = none from I.ok.hd hc) i1 a D.l1i1 its.toArray
    have D2 := Draws.tuple (prog := X.prog) (w := X.w) (A := X.A.in1) (show X.A.in1.handled = none from I.ok.hd hc) i2 b D.l2i2 its2.toArray
    have n1 : i < its.toArray.size := by have := (List.getElem?_eq_some_iff.mp hu).1; simpa using this
    have n2 : i < its2.toArray.size := by have := (List.getElem?_eq_some_iff.mp hu2).1; simpa using this
    have p2' : s.heap.IsTuple b its2.toArray := p2
    refine wpAny_pyNext_zipD2_item (zip_sepM D) D1 D2 hz hTI hTO ⟨h1, p.isList⟩ ⟨h2, p2'⟩ n1 n2 fun w1 w2 h' tk g1 g2 z' TO' s1 s2 hT hsz hk => ?_
    have hw1 : w1 = u := by
      have hu' : its.toArray[i]? = some u := by simpa using hu
      rw [hu'] at g1; exact (Option.some.inj g1).symm
    have hw2 : w2 = u2 := by
      have hu' : its2.toArray[i]? = some u2 := by simpa using hu2
      rw [hu'] at g2; exact (Option.some.inj g2).symm
    subst hw1 hw2
    refine ⟨_, rfl, wpAny_letOwnedTupleGo_zip (s := { s with heap := h', toks := tk }) z' fun h'' z'' sb => ?_⟩
    have hT2 : h''.get? s.heap.objs.size = some { cls := .type "tuple", data := .seq #[w1, w2] } := (sb.2 _ (Nat.ne_of_gt hzl)).trans hT
    have new : ObjOk X.prog X.w (upd H s.heap.objs.size (.tup [x, y])) h'' s.heap.objs.size (.tup [x, y]) :=
      ⟨by show 2 ≤ sizeLine; decide, [w1, w2], .cons ru (.cons ru2 .nil), ⟨_, hT2, rfl, _, rfl⟩⟩
    have I1 : Inv X pins σ (upd H s.heap.objs.size (.tup [x, y])) { s with heap := h'', toks := tk } :=
      I.turnedNew (t' := tk) (ch := [z, TI, TO, i1, i2]) (fun c o hb q => (sb.2 c (fun q' => hb (by simp [q']))).trans (hk c o (fun q' => hb (by simp [q'])) (fun q' => hb (by simp [q'])) (fun q' => hb (by simp [q'])) (fun q' => hb (by simp [q'])) q)) hf (Nat.le_refl _) new
    refine ⟨.ref s.heap.objs.size, _, I1, rfl, ⟨_, x, y, rfl, I.hok.fresh (Nat.le_refl _), rfl, fun l hl => by rw [I.list_inj hl hqx]; exact hx, fun l hl => by rw [I.tuple_inj hl hqy]; exact hy⟩, ⟨z'', ?_, ⟨w1, w2, ?_⟩, ?_, ?_⟩, fun c hcm => ?_⟩
    · exact (sb.2 _ D.TIz).trans (hk _ _ D.TIz D.TITO D.TIi1 D.TIi2 hTI)
    · exact (sb.2 _ D.TOz).trans TO'
    · exact s1.1.at fun o q => (sb.2 _ D.i1z).trans q
    · exact s2.1.at fun o q => (sb.2 _ D.i2z).trans q
    · have hlt : c < s.heap.objs.size := by
        have e' : c = z ∨ c = TI ∨ c = TO ∨ c = i1 ∨ c = i2 := by simpa using hcm
        rcases e' with q | q | q | q | q
        · rw [q]; exact hzl
        · rw [q]; exact Heap.lt_size hTI
        · rw [q]; exact Heap.lt_size hTO
        · rw [q]; obtain ⟨_, e1, _⟩ := h1; exact Heap.lt_size e1
        · rw [q]; obtain ⟨_, e2, _⟩ := h2; exact Heap.lt_size e2
      rw [upd_ne (Nat.ne_of_lt hlt)]
      exact (hf c hcm).1
  done := by
    intro X hP hw hK hc i pins s σ H E I hf st hg
    subst hP hw hK
    obtain ⟨hz, hTI, ⟨x0, y0, hTO⟩, h1, h2⟩ := st
    obtain ⟨xs, ys, hqx, hqy, hend⟩ := hg
    obtain ⟨its, rv, p, _⟩ := I.list hqx
    obtain ⟨its2, rv2, p2, _⟩ := I.tuple hqy
    have D1 := Draws.list (prog := X.prog) (w := X.w) (A := X.A.in1) (show X.A.in1.handled = none from I.ok.hd hc) i1 a D.l1i1 its.toArray
    have D2 := Draws.tuple (prog := X.prog) (w := X.w) (A := X.A.in1) (show X.A.in1.handled = none from I.ok.hd hc) i2 b D.l2i2 its2.toArray
    have l1 := rv.length
    have l2 := rv2.length
    have s1 : its.toArray.size = xs.length := by simp [l1]
    have s2 : its2.toArray.size = ys.length := by simp [l2]
    have p2' : s.heap.IsTuple b its2.toArray := p2
    refine wpAny_pyNext_zipD2_end (zip_sepM D) D1 D2 hz hTI hTO ⟨h1, p.isList⟩ ⟨h2, p2'⟩ (by omega) (by omega) (by omega) fun h' tk hk => ⟨rfl, I.turnedL (t' := tk) (ch := [z, TI, TO, i1, i2]) (fun c o hb q =>
      hk c o (fun q' => hb (by simp [q'])) (fun q' => hb (by simp [q'])) (fun q' => hb (by simp [q'])) (fun q' => hb (by simp [q'])) q) hf⟩
  self := fun A i s Q E st h => wpAny_pyIter_zip st.1 h
def iZipM (K : PySem.W.Frag) (ta : TA) : TI := fun σ H R => ta σ H fun vs H1 => ∃ a b xs ys, vs = [.ref a, .ref b] ∧ ((SqL K H1 a xs ∧ SqL K H1 b ys ∧ R (Itz K a b) H1) ∨ (SqT K H1 a xs ∧ SqT K H1 b ys ∧ R (RZ.ItzT K a b) H1) ∨ (SqL K H1 a xs ∧ SqT K H1 b ys ∧ R (ItzM K a b) H1))
theorem pi_zipM {X : Cx} {e e2 : Expr} {ta : TA} {p pos tpos : Pos} {elts : List Expr} {kk : Nat} (hg : Gl X "zip") (hm : X.mg "zip" = none) (ha : PA X [e, e2] ta)
    (hs : starEach [e, e2] X.env = (false, eval e X.env) :: starEach [e2] X.env := by rfl) (hpl : (backTo pos (starEach [e2] X.env)).any (·.1) = false := by rfl) :
    PI X (.Tuple elts kk tpos) (.Call (.Name "zip" p) [e, e2] [] pos) (iZipM X.K ta) := by
  refine ⟨fun pins s σ H R I h => ?_⟩
  refine Call_ (ld_blt I hg hm PyProof.Rows.boot_zip (PyProof.Rows.callWith_type1 (thn (ha.run pos pins s σ H _ I h) fun us s1 ⟨vs, H1, I1, r1, q1⟩ => ?_) hs hpl))
  obtain ⟨a, b, xs, ys, ex, q1⟩ := q1
  subst ex
  cases r1 with
  | cons r rr =>
    cases rr with
    | cons r' rr =>
      cases rr
      cases r
      cases r'
      have fresh5 : ∀ c, c ∈ [s1.heap.objs.size + 4, s1.heap.objs.size + 2, s1.heap.objs.size + 3, s1.heap.objs.size, s1.heap.objs.size + 1] → FpOk X pins H1 c := fun c hcm => by
        have e' : c = s1.heap.objs.size + 4 ∨ c = s1.heap.objs.size + 2 ∨ c = s1.heap.objs.size + 3 ∨ c = s1.heap.objs.size ∨ c = s1.heap.objs.size + 1 := by simpa using hcm
        have hle : s1.heap.objs.size ≤ c := by
          rcases e' with z | z | z | z | z
          · rw [z]; exact Nat.le_add_right _ _
          · rw [z]; exact Nat.le_add_right _ _
          · rw [z]; exact Nat.le_add_right _ _
          · rw [z]; exact Nat.le_refl _
          · rw [z]; exact Nat.le_add_right _ _
        exact I1.fpOk hle (I1.hok.fresh hle)
      rcases q1 with ⟨hqx, hqy, q⟩ | ⟨hqx, hqy, q⟩ | ⟨hqx, hqy, q⟩
      · obtain ⟨its, rv, p1, _⟩ := I1.list hqx
        obtain ⟨its2, rv2, p2, _⟩ := I1.list hqy
        refine call_zip_2 p1.isList p2.isList fun h' hz hTI hTO h1 h2 hsz hk => wpAny_pyIter_zip hz ?_
        have I2 : Inv X pins σ H1 { s1 with heap := h' } := I1.kept (t' := s1.toks) hk
        exact ⟨s1.heap.objs.size + 4, [s1.heap.objs.size + 4, s1.heap.objs.size + 2, s1.heap.objs.size + 3, s1.heap.objs.size, s1.heap.objs.size + 1], _, _, H1, rfl, I2, turn_zip (PySem.W.ktu_apart s1.heap.objs.size a b p1.lt p2.lt), ⟨hz, hTI, ⟨_, _, hTO⟩, h1, h2⟩, fresh5, q⟩
      · obtain ⟨its, rv, p1, _⟩ := I1.tuple hqx
        obtain ⟨its2, rv2, p2, _⟩ := I1.tuple hqy
        obtain ⟨o1, ho1, _⟩ := id p1
        obtain ⟨o2, ho2, _⟩ := id p2
        refine call_zipT (show s1.heap.IsTuple a its.toArray from p1) (show s1.heap.IsTuple b its2.toArray from p2) fun h' hz hTI hTO h1 h2 hsz hk => wpAny_pyIter_zip hz ?_
        have I2 : Inv X pins σ H1 { s1 with heap := h' } := I1.kept (t' := s1.toks) hk
        exact ⟨s1.heap.objs.size + 4, [s1.heap.objs.size + 4, s1.heap.objs.size + 2, s1.heap.objs.size + 3, s1.heap.objs.size, s1.heap.objs.size + 1], _, _, H1, rfl, I2, turn_zipT (PySem.W.ktu_apart s1.heap.objs.size a b (Heap.lt_size ho1) (Heap.lt_size ho2)), ⟨hz, hTI, ⟨_, _, hTO⟩, h1, h2⟩, fresh5, q⟩
      · obtain ⟨its, rv, p1, _⟩ := I1.list hqx
        obtain ⟨its2, rv2, p2, _⟩ := I1.tuple hqy
        obtain ⟨o2, ho2, _⟩ := id p2
        refine call_zipM p1.isList (show s1.heap.IsTuple b its2.toArray from p2) fun h' hz hTI hTO h1 h2 hsz hk => wpAny_pyIter_zip hz ?_
        have I2 : Inv X pins σ H1 { s1 with heap := h' } := I1.kept (t' := s1.toks) hk
        exact ⟨s1.heap.objs.size + 4, [s1.heap.objs.size + 4, s1.heap.objs.size + 2, s1.heap.objs.size + 3, s1.heap.objs.size, s1.heap.objs.size + 1], _, _, H1, rfl, I2, turn_zipM (PySem.W.ktu_apart s1.heap.objs.size a b p1.lt (Heap.lt_size ho2)), ⟨hz, hTI, ⟨_, _, hTO⟩, h1, h2⟩, fresh5, q⟩
theorem pi_zipMK {K : PySem.W.Frag} {X : Cx} {e e2 : Expr} {ta : TA} {p pos tpos : Pos} {elts : List Expr} {kk : Nat} (hg : Gl X "zip") (hm : X.mg "zip" = none) (ha : PA X [e, e2] ta) (h : X.K = K := by rfl)
    (hs : starEach [e, e2] X.env = (false, eval e X.env) :: starEach [e2] X.env := by rfl) (hpl : (backTo pos (starEach [e2] X.env)).any (·.1) = false := by rfl) :
    PI X (.Tuple elts kk tpos) (.Call (.Name "zip" p) [e, e2] [] pos) (iZipM K ta) := by subst h; exact pi_zipM hg hm ha hs hpl
section
variable {K : PySem.W.Frag} {Γ : Cxt} {ss : List Sl}
theorem walks_zipM {a b : Addr} {xs ys : List D} : Walks K Γ (ItzM K a b) (zipD xs ys) [(.val (.lst xs), some (.ref a)), (.val (.tup ys), some (.ref b))] := fun H0 H ps I m => by
  obtain ⟨a', vs, e, n, h, r⟩ := I.val (m _ List.mem_cons_self)
  obtain ⟨b', ws, e', hq', r'⟩ := I.val (m _ (List.mem_cons_of_mem _ List.mem_cons_self))
  cases e; cases e'
  have hq : SqL K H a vs := .inl (.inl h)
  refine ⟨fun i d hd => ?_, ⟨vs, ws, hq, hq', by rw [zipD_length, ← r.length, ← r'.length]⟩⟩
  obtain ⟨x, y, hx, hy, rfl⟩ := zipD_get _ _ hd
  obtain ⟨v, hv, rv⟩ := r.get hx
  obtain ⟨w, hw, rw'⟩ := r'.get hy
  refine ⟨⟨vs, ws, v, w, hq, hq', hv, hw⟩, fun z H' y => ?_⟩
  obtain ⟨T, v1, w1, rfl, hT, rfl, y1, y2⟩ := y
  have e1 : v = v1 := Option.some.inj (hv.symm.trans (y1 vs hq))
  have e2 : w = w1 := Option.some.inj (hw.symm.trans (y2 ws hq'))
  subst e1 e2
  exact I.newTup hT (.cons rv (.cons rw' .nil))
theorem wpI_zip3 {ta : TA} {C : List D → Prop} (h : wpA K Γ ta ss fun ds => (∃ xs ys, ds = [.lst xs, .lst ys] ∧ C (zipD xs ys)) ∨ (∃ xs ys, ds = [.tup xs, .tup ys] ∧ C (zipD xs ys)) ∨ ∃ xs ys, ds = [.lst xs, .tup ys] ∧ C (zipD xs ys)) : wpI K Γ (iZipM K ta) ss C := fun H0 σ H τ hl I R k =>
  h H0 σ H τ hl I _ fun vs ds H1 hd J c => by
    rcases c with ⟨xs, ys, rfl, c⟩ | ⟨xs, ys, rfl, c⟩ | ⟨xs, ys, rfl, c⟩
    · match vs, hd with
      | [v, w], _ =>
        obtain ⟨a, us, rfl, n, t, r⟩ := J.val (d := .lst xs) List.mem_cons_self
        obtain ⟨b, ws, rfl, n', t', r'⟩ := J.val (d := .lst ys) (List.mem_cons_of_mem _ List.mem_cons_self)
        refine ⟨a, b, us, ws, rfl, .inl ⟨.inl (.inl t), .inl (.inl t'), k _ H1 _ [(.val (.lst xs), some (.ref a)), (.val (.lst ys), some (.ref b))] (J.perm ?_) walks_zip c⟩⟩
        rw [← List.append_assoc, ← List.append_assoc]
        exact List.perm_append_comm.append_right _
    · match vs, hd with
      | [v, w], _ =>
        obtain ⟨a, us, rfl, t, r⟩ := J.val (d := .tup xs) List.mem_cons_self
        obtain ⟨b, ws, rfl, t', r'⟩ := J.val (d := .tup ys) (List.mem_cons_of_mem _ List.mem_cons_self)
        refine ⟨a, b, us, ws, rfl, .inr (.inl ⟨t, t', k _ H1 _ [(.val (.tup xs), some (.ref a)), (.val (.tup ys), some (.ref b))] (J.perm ?_) walks_zipT c⟩)⟩
        rw [← List.append_assoc, ← List.append_assoc]
        exact List.perm_append_comm.append_right _
    · match vs, hd with
      | [v, w], _ =>
        obtain ⟨a, us, rfl, n, t, r⟩ := J.val (d := .lst xs) List.mem_cons_self
        obtain ⟨b, ws, rfl, t', r'⟩ := J.val (d := .tup ys) (List.mem_cons_of_mem _ List.mem_cons_self)
        refine ⟨a, b, us, ws, rfl, .inr (.inr ⟨.inl (.inl t), t', k _ H1 _ [(.val (.lst xs), some (.ref a)), (.val (.tup ys), some (.ref b))] (J.perm ?_) walks_zipM c⟩)⟩
        rw [← List.append_assoc, ← List.append_assoc]
        exact List.perm_append_comm.append_right _
end
end SQ
/-! a, b, .. = a tuple or a list of that length -/
namespace SQ
open PySem PySem.Spec PyProof.Rows L2
def gSeq (K : PySem.W.Frag) (n : Nat) (t : TGs) : TG := fun v σ H Q => gTup K n t v σ H Q ∨ gLst K n t v σ H Q
theorem pg_seqK {K : PySem.W.Frag} {X : Cx} {es : List Expr} {k : Nat} {t : TGs} {n : Nat} {pos : Pos} (hc : X.calm = true) (hp : PGs X es t)
    (hn : (assignEach es X.env).length = n := by rfl) (hst : (assignEach es X.env).findIdx? (·.1) = none := by rfl) (h : X.K = K := by rfl) : PG X (.Tuple es k pos) (gSeq K n t) := by
  subst h
  refine ⟨fun pins s σ H v u Q I r hw => ?_⟩
  rcases hw with hw | hw
  · exact (pg_tup hc hp hn hst).run pins s σ H v u Q I r hw
  · exact (pg_lst hc hp hn hst).run pins s σ H v u Q I r hw
section
variable {K : PySem.W.Frag} {Γ : Cxt} {ss : List Sl} {us : List Nat} {d : D} {C : List Sl → Prop} {n : Nat} {t : TGs}
theorem wpG_seqT (h : wpG K Γ us (gTup K n t) d ss C) : wpG K Γ us (gSeq K n t) d ss C := fun H0 σ H τ x hl I Q q => .inl (h H0 σ H τ x hl I Q q)
/-- a frozen list is read as a tuple would be -/
theorem wpG_pairL {i j : Nat} {x y : D} (hi : i < ss.length) (hj : j < ss.length) (hu : i ∈ us) (hv : j ∈ us) (hd : d = .lst [x, y]) (c : C ((ss.set i (.val x)).set j (.val y))) :
    wpG K Γ us (gSeq K 2 (gCons (gName i) (gCons (gName j) gNil))) d ss C := fun H0 σ H τ w hl I Q q => by
  subst hd
  obtain ⟨a, vs, e, nn, ht, r⟩ := I.val List.mem_cons_self
  obtain ⟨v1, ws, rfl, r1, r⟩ := r
  obtain ⟨v2, ws, rfl, r2, r⟩ := r
  have r : ws = [] := r
  subst r
  refine .inr ⟨a, [v1, v2], e, .inl (.inl ht), rfl, v1, [v2], rfl, v2, [], rfl, rfl, ?_⟩
  have I1 : Env K Γ H0 H (ss.zip σ ++ τ) := I.drop
  have I2 := Env.store hl hi (I1.push r1)
  refine q _ _ H (by simp [hl]) ?_ (by rw [wipeS_set_mem hv, wipeS_set_mem hu]) (Env.store (by simp [hl]) (by simpa using hj) (I2.push (r2.less fun b m => m.imp id fun m => ?_))) c
  · rw [wipe_set_mem hv, wipe_set_mem hu]
  · have p := ((zip_set (ss := ss) (σ := σ) (s := .val x) (o := some v1) hl hi).append_right τ)
    have m1 := (owned_perm p).mem_iff.mp m
    have m2 : b ∈ owned ((ss.eraseIdx i).zip (σ.eraseIdx i) ++ τ) := m1
    have hs : ∃ s, ss[i]? = some s := ⟨ss[i], List.getElem?_eq_getElem hi⟩
    obtain ⟨s, hs⟩ := hs
    obtain ⟨o, ho⟩ := get_of_len hl hs
    have p2 := (zip_out hs ho).append_right τ
    refine (owned_perm p2).mem_iff.mpr ?_
    rw [List.cons_append, ← List.singleton_append, owned_app]
    exact List.mem_append_right _ m2
end
end SQ
/-! range(i, j, -1) -/
namespace SQ
open PySem PySem.Spec PyProof.Rows L2
/-- lo, lo - 1, .. (n of them) -/
def rngDn (lo : Int) (n : Nat) : List D := (List.range n).map fun i : Nat => D.int (lo - i)
section
variable {K : PySem.W.Frag} {Γ : Cxt} {ss : List Sl}
theorem walks_rngC {lo : Int} {n : Nat} : Walks K Γ (Itc lo (-1) n) (rngDn lo n) [] := fun H0 H ps I m => by
  refine ⟨fun i d hd => ?_, by show n ≤ _; simp [rngDn]⟩
  have hi : i < n := by
    have := (List.getElem?_eq_some_iff.mp hd).1
    simpa [rngDn] using this
  have e : d = .int (lo + (i : Nat) * (-1)) := by
    have h : (rngDn lo n)[i]? = some (.int (lo - (i : Nat))) := by simp [rngDn, hi]
    rw [h] at hd
    rw [← Option.some.inj hd]
    congr 1
    omega
  subst e
  refine ⟨hi, fun x H' y => ?_⟩
  obtain ⟨rfl, rfl⟩ := y
  exact I.push (d := .int _) rfl
theorem wpI_rng3 {ta : TA} {C : List D → Prop} (h : wpA K Γ ta ss fun ds => ∃ i j : Int, ds = [.int i, .int j, .int (-1)] ∧ (-(2 ^ 62) ≤ i ∧ i < 2 ^ 62 ∧ -(2 ^ 62) ≤ j ∧ j < 2 ^ 62) ∧ C (rngDn i (i - j).toNat)) : wpI K Γ (iRng3 ta) ss C := fun H0 σ H τ hl I R k =>
  h H0 σ H τ hl I _ fun vs ds H1 hd J c => by
    obtain ⟨i, j, rfl, hj, c⟩ := c
    match vs, hd with
    | [v, w, z], _ =>
      have rv : v = .int i := J.val List.mem_cons_self
      have rw' : w = .int j := J.val (List.mem_cons_of_mem _ List.mem_cons_self)
      have rz : z = .int (-1) := J.val (List.mem_cons_of_mem _ (List.mem_cons_of_mem _ List.mem_cons_self))
      subst rv rw' rz
      exact ⟨i, j, -1, _, rfl, RgC.neg hj.1 hj.2.1 hj.2.2.1 hj.2.2.2, k _ H1 _ [] J.dropL walks_rngC c⟩
end
end SQ
/-! texts with their preconditions -/
namespace XQ
open PySem PySem.Spec PyProof.Rows L2 SQ
abbrev Fr := PySem.W.Frag
abbrev XP := Exc → Prop
theorem le_refl (B : Sc) : Sc.le B B := ⟨fun _ h => h, fun _ h => h⟩
structure EnLe (e e' : En) : Prop where
  nx : ∀ s, e.nx s → e'.nx s
  rt : ∀ s, e.rt s → e'.rt s
  bk : ∀ s, e.bk s → e'.bk s
  ct : ∀ s, e.ct s → e'.ct s
structure XE (G : Fr → Prop) where
  te : Fr → XK → TE
  pre : Sc → XP → List Sl → (D → Prop) → Prop
  ok : ∀ {K : Fr} {Γ : Cxt} {ss : List Sl} {C : D → Prop}, G K → pre (sc Γ) Γ.X ss C → wpE K Γ (te K Γ.E) ss C
  mono : ∀ {B B' : Sc} {X X' : XP} {ss : List Sl} {C C' : D → Prop}, Sc.le B B' → (∀ x, X x → X' x) → (∀ d, C d → C' d) → pre B X ss C → pre B' X' ss C'
structure XO (G : Fr → Prop) where
  te : Fr → XK → TE
  pre : Sc → XP → List Sl → (List D → Prop) → Prop
  ok : ∀ {K : Fr} {Γ : Cxt} {ss : List Sl} {C : List D → Prop}, G K → pre (sc Γ) Γ.X ss C → wpO K Γ (te K Γ.E) ss C
  mono : ∀ {B B' : Sc} {X X' : XP} {ss : List Sl} {C C' : List D → Prop}, Sc.le B B' → (∀ x, X x → X' x) → (∀ d, C d → C' d) → pre B X ss C → pre B' X' ss C'
structure XA (G : Fr → Prop) where
  te : Fr → XK → TA
  pre : Sc → XP → List Sl → (List D → Prop) → Prop
  ok : ∀ {K : Fr} {Γ : Cxt} {ss : List Sl} {C : List D → Prop}, G K → pre (sc Γ) Γ.X ss C → wpA K Γ (te K Γ.E) ss C
  mono : ∀ {B B' : Sc} {X X' : XP} {ss : List Sl} {C C' : List D → Prop}, Sc.le B B' → (∀ x, X x → X' x) → (∀ d, C d → C' d) → pre B X ss C → pre B' X' ss C'
structure XT (G : Fr → Prop) where
  te : Fr → XK → TT
  pre : Sc → XP → List Sl → (Bool → Prop) → Prop
  ok : ∀ {K : Fr} {Γ : Cxt} {ss : List Sl} {C : Bool → Prop}, G K → pre (sc Γ) Γ.X ss C → wpT K Γ (te K Γ.E) ss C
  mono : ∀ {B B' : Sc} {X X' : XP} {ss : List Sl} {C C' : Bool → Prop}, Sc.le B B' → (∀ x, X x → X' x) → (∀ d, C d → C' d) → pre B X ss C → pre B' X' ss C'
structure XI (G : Fr → Prop) where
  te : Fr → XK → TI
  pre : Sc → XP → List Sl → (List D → Prop) → Prop
  ok : ∀ {K : Fr} {Γ : Cxt} {ss : List Sl} {C : List D → Prop}, G K → pre (sc Γ) Γ.X ss C → wpI K Γ (te K Γ.E) ss C
  mono : ∀ {B B' : Sc} {X X' : XP} {ss : List Sl} {C C' : List D → Prop}, Sc.le B B' → (∀ x, X x → X' x) → (∀ d, C d → C' d) → pre B X ss C → pre B' X' ss C'
structure XS (G : Fr → Prop) where
  te : Fr → XK → TS
  pre : Sc → XP → List Sl → En → Prop
  ok : ∀ {K : Fr} {Γ : Cxt} {ss : List Sl} {e : En}, G K → pre (sc Γ) Γ.X ss e → wpS K Γ (te K Γ.E) ss e
  mono : ∀ {B B' : Sc} {X X' : XP} {ss : List Sl} {e e' : En}, Sc.le B B' → (∀ x, X x → X' x) → EnLe e e' → pre B X ss e → pre B' X' ss e'
/-- targets; us: the slots that are written -/
structure XG where
  us : List Nat
  te : Fr → TG
  pre : D → List Sl → (List Sl → Prop) → Prop
  ok : ∀ {K : Fr} {Γ : Cxt} {d : D} {ss : List Sl} {C : List Sl → Prop}, pre d ss C → wpG K Γ us (te K) d ss C
  mono : ∀ {d : D} {ss : List Sl} {C C' : List Sl → Prop}, (∀ s, C s → C' s) → pre d ss C → pre d ss C'
/-- operations of two values, of one, of a list of values -/
structure XR where
  r : Fr → R2
  pre : D → D → (D → Prop) → Prop
  ok : ∀ {K : Fr} {x y : D} {C : D → Prop}, pre x y C → wpR K (r K) x y C
  mono : ∀ {x y : D} {C C' : D → Prop}, (∀ d, C d → C' d) → pre x y C → pre x y C'
structure XB where
  r : Fr → List V → Hp → VK → Prop
  pre : List D → (D → Prop) → Prop
  ok : ∀ {K : Fr} {xs : List D} {C : D → Prop}, pre xs C → wpB K (r K) xs C
  mono : ∀ {xs : List D} {C C' : D → Prop}, (∀ d, C d → C' d) → pre xs C → pre xs C'
structure XBO where
  r : Fr → List V → Hp → VK → Prop
  pre : List D → (List D → Prop) → Prop
  ok : ∀ {K : Fr} {xs : List D} {C : List D → Prop}, pre xs C → wpBO K (r K) xs C
  mono : ∀ {xs : List D} {C C' : List D → Prop}, (∀ d, C d → C' d) → pre xs C → pre xs C'
/-- defs -/
structure XF where
  F : Fn
  mono : ∀ {B B' : Sc} {X X' : XP} {ds : List D} {C C' : D → Prop}, Sc.le B B' → (∀ x, X x → X' x) → (∀ d, C d → C' d) → F B ds C X → F B' ds C' X'

section
variable {K : Fr} {Γ : Cxt} {ss : List Sl}
theorem wpO_mono {te : TE} {C C' : List D → Prop} (h : wpO K Γ te ss C) (m : ∀ d, C d → C' d) : wpO K Γ te ss C' := fun H0 σ H τ hl I Q q => h H0 σ H τ hl I Q fun v d H2 J c => q v d H2 J (m d c)
theorem wpA_mono {te : TA} {C C' : List D → Prop} (h : wpA K Γ te ss C) (m : ∀ d, C d → C' d) : wpA K Γ te ss C' := fun H0 σ H τ hl I Q q => h H0 σ H τ hl I Q fun v d H2 hd J c => q v d H2 hd J (m d c)
theorem wpI_mono {te : TI} {C C' : List D → Prop} (h : wpI K Γ te ss C) (m : ∀ d, C d → C' d) : wpI K Γ te ss C' := fun H0 σ H τ hl I R q => h H0 σ H τ hl I R fun J H1 ds τ1 I1 w c => q J H1 ds τ1 I1 w (m ds c)
theorem wpG_mono {us : List Nat} {g : TG} {d : D} {C C' : List Sl → Prop} (h : wpG K Γ us g d ss C) (m : ∀ s, C s → C' s) : wpG K Γ us g d ss C' := fun H0 σ H τ x hl I Q q => h H0 σ H τ x hl I Q fun s σ' H' a b c e f => q s σ' H' a b c e (m s f)
end
variable {G : Fr → Prop}

/-! ### expressions -/
def getV (ss : List Sl) (i : Nat) (C : D → Prop) : Prop := match ss[i]? with
  | some (.val d) => C d
  | _ => False
def getO (ss : List Sl) (i : Nat) (C : List D → Prop) : Prop := match ss[i]? with
  | some (.own d) => C d
  | _ => False
theorem getV_at {ss : List Sl} {i : Nat} {C : D → Prop} (h : getV ss i C) : ∃ d, ss[i]? = some (.val d) ∧ C d := by
  unfold getV at h
  split at h
  · exact ⟨_, by assumption, h⟩
  · exact h.elim
theorem getO_at {ss : List Sl} {i : Nat} {C : List D → Prop} (h : getO ss i C) : ∃ d, ss[i]? = some (.own d) ∧ C d := by
  unfold getO at h
  split at h
  · exact ⟨_, by assumption, h⟩
  · exact h.elim
theorem getV_mono {ss : List Sl} {i : Nat} {C C' : D → Prop} (m : ∀ d, C d → C' d) (h : getV ss i C) : getV ss i C' := by
  obtain ⟨d, e, c⟩ := getV_at h
  unfold getV; rw [e]; exact m d c
theorem getO_mono {ss : List Sl} {i : Nat} {C C' : List D → Prop} (m : ∀ d, C d → C' d) (h : getO ss i C) : getO ss i C' := by
  obtain ⟨d, e, c⟩ := getO_at h
  unfold getO; rw [e]; exact m d c
@[simp] theorem getV_0 {d : D} {r : List Sl} {C : D → Prop} : getV (.val d :: r) 0 C = C d := rfl
@[simp] theorem getV_s {s : Sl} {r : List Sl} {i : Nat} {C : D → Prop} : getV (s :: r) (i + 1) C = getV r i C := rfl
@[simp] theorem getO_0 {d : List D} {r : List Sl} {C : List D → Prop} : getO (.own d :: r) 0 C = C d := rfl
@[simp] theorem getO_s {s : Sl} {r : List Sl} {i : Nat} {C : List D → Prop} : getO (s :: r) (i + 1) C = getO r i C := rfl
def var (i : Nat) : XE G where
  te _ _ := tVar i
  pre _ _ ss C := getV ss i C
  ok _ h := by obtain ⟨d, e, c⟩ := getV_at h; exact wpE_var e c
  mono _ _ c h := getV_mono c h
def int (i : Int) : XE G := ⟨fun _ _ => tC (.int i), fun _ _ _ C => C (.int i), fun _ h => wpE_int h, fun _ _ c h => c _ h⟩
def bl (b : Bool) : XE G := ⟨fun _ _ => tC (.bl b), fun _ _ _ C => C (.bl b), fun _ h => wpE_bl h, fun _ _ c h => c _ h⟩
def non : XE G := ⟨fun _ _ => tC .non, fun _ _ _ C => C .non, fun _ h => wpE_non h, fun _ _ c h => c _ h⟩
def ty (x : String) : XE G := ⟨fun _ _ => tC (.ty x), fun _ _ _ C => C (.ty x), fun _ h => wpE_ty h, fun _ _ c h => c _ h⟩
def str (x : Str) : XE G := ⟨fun _ _ => tC (.str x), fun _ _ _ C => C (.str x), fun _ h => wpE_str h, fun _ _ c h => c _ h⟩
def op (r : XR) (a b : XE G) : XE G where
  te K E := tOp (r.r K) (a.te K E) (b.te K E)
  pre B X ss C := a.pre B X ss fun x => b.pre B X ss fun y => r.pre x y C
  ok g h := wpE_op ((a.ok g h).mono fun x h => (b.ok g h).mono fun y h => r.ok h)
  mono l x c h := a.mono l x (fun d h => b.mono l x (fun d h => r.mono c h) h) h
def frz (a : XO G) : XE G where
  te := a.te
  pre B X ss C := a.pre B X ss fun xs => C (.lst xs)
  ok g h := wpE_frz (a.ok g h)
  mono l x c h := a.mono l x (fun d h => c _ h) h
def andV (a b : XE G) : XE G where
  te K E := tAndV (a.te K E) (b.te K E)
  pre B X ss C := a.pre B X ss fun d => ∃ k, d = .bl k ∧ if k = true then b.pre B X ss C else C (.bl false)
  ok g h := wpE_andV ((a.ok g h).mono fun d h => by
    obtain ⟨k, e, h⟩ := h
    refine ⟨k, e, ?_⟩
    split
    · rename_i z; rw [if_pos z] at h; exact b.ok g h
    · rename_i z; rw [if_neg z] at h; exact h)
  mono l x c h := a.mono l x (fun d h => by
    obtain ⟨k, e, h⟩ := h
    refine ⟨k, e, ?_⟩
    split
    · rename_i z; rw [if_pos z] at h; exact b.mono l x c h
    · rename_i z; rw [if_neg z] at h; exact c _ h) h
def orV (a b : XE G) : XE G where
  te K E := tOrV (a.te K E) (b.te K E)
  pre B X ss C := a.pre B X ss fun d => ∃ k, d = .bl k ∧ if k = true then C (.bl true) else b.pre B X ss C
  ok g h := wpE_orV ((a.ok g h).mono fun d h => by
    obtain ⟨k, e, h⟩ := h
    refine ⟨k, e, ?_⟩
    split
    · rename_i z; rw [if_pos z] at h; exact h
    · rename_i z; rw [if_neg z] at h; exact b.ok g h)
  mono l x c h := a.mono l x (fun d h => by
    obtain ⟨k, e, h⟩ := h
    refine ⟨k, e, ?_⟩
    split
    · rename_i z; rw [if_pos z] at h; exact c _ h
    · rename_i z; rw [if_neg z] at h; exact b.mono l x c h) h
def notV (a : XE G) : XE G where
  te K E := tNotV (a.te K E)
  pre B X ss C := a.pre B X ss fun d => ∃ k, d = .bl k ∧ C (.bl (!k))
  ok g h := wpE_notV (a.ok g h)
  mono l x c h := a.mono l x (fun d h => by obtain ⟨k, e, h⟩ := h; exact ⟨k, e, c _ h⟩) h
def ifE (t : XT G) (a b : XE G) : XE G where
  te K E := tIf (t.te K E) (a.te K E) (b.te K E)
  pre B X ss C := t.pre B X ss fun k => if k = true then a.pre B X ss C else b.pre B X ss C
  ok g h := wpE_if ((t.ok g h).mono fun k h => by
    split
    · rename_i z; rw [if_pos z] at h; exact a.ok g h
    · rename_i z; rw [if_neg z] at h; exact b.ok g h)
  mono l x c h := t.mono l x (fun k h => by
    split
    · rename_i z; rw [if_pos z] at h; exact a.mono l x c h
    · rename_i z; rw [if_neg z] at h; exact b.mono l x c h) h
def chain (r r' : XR) (a b c : XE G) : XE G where
  te K E := tChain (r.r K) (r'.r K) (a.te K E) (b.te K E) (c.te K E)
  pre B X ss C := a.pre B X ss fun x => b.pre B X ss fun y => r.pre x y fun z => ∃ k, z = .bl k ∧ if k = true then c.pre B X ss fun w => r'.pre y w C else C (.bl false)
  ok g h := wpE_chain ((a.ok g h).mono fun x h => (b.ok g h).mono fun y h => r.ok (r.mono (fun z h => by
    obtain ⟨k, e, h⟩ := h
    refine ⟨k, e, ?_⟩
    split
    · rename_i z; rw [if_pos z] at h; exact (c.ok g h).mono fun w h => r'.ok h
    · rename_i z; rw [if_neg z] at h; exact h) h))
  mono l x m h := a.mono l x (fun d h => b.mono l x (fun d h => r.mono (fun z h => by
    obtain ⟨k, e, h⟩ := h
    refine ⟨k, e, ?_⟩
    split
    · rename_i z; rw [if_pos z] at h; exact c.mono l x (fun w h => r'.mono m h) h
    · rename_i z; rw [if_neg z] at h; exact m _ h) h) h) h
def isNon : D → Bool
  | .non => true
  | _ => false
@[simp] theorem isNon_non : isNon .non = true := rfl
@[simp] theorem isNon_bl {b : Bool} : isNon (.bl b) = false := rfl
@[simp] theorem isNon_int {b : Int} : isNon (.int b) = false := rfl
@[simp] theorem isNon_str {b : Str} : isNon (.str b) = false := rfl
@[simp] theorem isNon_tup {b : List D} : isNon (.tup b) = false := rfl
@[simp] theorem isNon_lst {b : List D} : isNon (.lst b) = false := rfl
def isN (a : XE G) : XE G where
  te K E := tIsN (a.te K E)
  pre B X ss C := a.pre B X ss fun d => C (.bl (isNon d))
  ok g h := fun H0 σ H τ hl I Q q => a.ok g h H0 σ H τ hl I _ fun v d H2 J c => by
    have hv : decide (v = V.non) = isNon d := by
      have r := J.val List.mem_cons_self
      unfold isNon
      cases d with
      | non => have r : v = .non := r; simp [r]
      | bl b => have r : v = .bl b := r; simp [r]
      | int b => have r : v = .int b := r; simp [r]
      | str b => have r : v = .str b := r; simp [r]
      | ty b => have r : v = .ty b := r; simp [r]
      | cell b => have r : v = .ref b := r; simp [r]
      | tup xs => obtain ⟨p, vs, rfl, _⟩ := r; simp
      | lst xs => obtain ⟨p, vs, rfl, _⟩ := r; simp
      | dk ks ds => obtain ⟨p, vs, rfl, _⟩ := r; simp
      | scr ns => obtain ⟨p, rfl, _⟩ := r; simp
      | ins C ns ds => obtain ⟨p, dx, fs, rfl, _⟩ := r; simp
    rw [hv]
    exact q _ (.bl (isNon d)) H2 (J.drop.push (d := .bl (isNon d)) rfl) c
  mono l x c h := a.mono l x (fun d h => c _ h) h
def notN (a : XE G) : XE G where
  te K E := tNotN (a.te K E)
  pre B X ss C := a.pre B X ss fun d => C (.bl (!isNon d))
  ok g h := fun H0 σ H τ hl I Q q => a.ok g h H0 σ H τ hl I _ fun v d H2 J c => by
    have hv : (!decide (v = V.non)) = !isNon d := by
      have r := J.val List.mem_cons_self
      unfold isNon
      cases d with
      | non => have r : v = .non := r; simp [r]
      | bl b => have r : v = .bl b := r; simp [r]
      | int b => have r : v = .int b := r; simp [r]
      | str b => have r : v = .str b := r; simp [r]
      | ty b => have r : v = .ty b := r; simp [r]
      | cell b => have r : v = .ref b := r; simp [r]
      | tup xs => obtain ⟨p, vs, rfl, _⟩ := r; simp
      | lst xs => obtain ⟨p, vs, rfl, _⟩ := r; simp
      | dk ks ds => obtain ⟨p, vs, rfl, _⟩ := r; simp
      | scr ns => obtain ⟨p, rfl, _⟩ := r; simp
      | ins C ns ds => obtain ⟨p, dx, fs, rfl, _⟩ := r; simp
    rw [hv]
    exact q _ (.bl (!isNon d)) H2 (J.drop.push (d := .bl (!isNon d)) rfl) c
  mono l x c h := a.mono l x (fun d h => c _ h) h
/-! ### lists of arguments -/
def anil : XA G := ⟨fun _ _ => tNil, fun _ _ _ C => C [], fun _ h => wpA_nil h, fun _ _ c h => c _ h⟩
def acons (a : XE G) (r : XA G) : XA G where
  te K E := tCons (a.te K E) (r.te K E)
  pre B X ss C := a.pre B X ss fun x => r.pre B X ss fun xs => C (x :: xs)
  ok g h := wpA_cons ((a.ok g h).mono fun x h => r.ok g h)
  mono l x c h := a.mono l x (fun d h => r.mono l x (fun d h => c _ h) h) h
def cb (r : XB) (a : XA G) : XE G where
  te K E := tCB (r.r K) (a.te K E)
  pre B X ss C := a.pre B X ss fun xs => r.pre xs C
  ok g h := wpE_cb (wpA_mono (a.ok g h) fun xs h => r.ok h)
  mono l x c h := a.mono l x (fun d h => r.mono c h) h
def cbO (r : XBO) (a : XA G) : XO G where
  te K E := tCB (r.r K) (a.te K E)
  pre B X ss C := a.pre B X ss fun xs => r.pre xs C
  ok g h := wpO_cb (wpA_mono (a.ok g h) fun xs h => r.ok h)
  mono l x c h := a.mono l x (fun d h => r.mono c h) h
def tup (a : XA G) : XE G where
  te K E := tTup (a.te K E)
  pre B X ss C := a.pre B X ss fun xs => xs.length ≤ 100000 ∧ C (.tup xs)
  ok g h := wpE_tup (a.ok g h)
  mono l x c h := a.mono l x (fun d h => ⟨h.1, c _ h.2⟩) h
def lst (a : XA G) : XO G where
  te K E := tLst (a.te K E)
  pre B X ss C := a.pre B X ss fun xs => xs.length ≤ 100000 ∧ C xs
  ok g h := wpO_lst (a.ok g h)
  mono l x c h := a.mono l x (fun d h => ⟨h.1, c _ h.2⟩) h
/-- a call that lets nothing out -/
def call0 (f : XF) (a : XA G) : XE G where
  te K E := tCall (spF K f.F) [] E0 (a.te K E)
  pre B X ss C := a.pre B X ss fun ds => f.F B ds C fun _ => False
  ok g h := wpE_call0 (fun B B' ds C X m h => f.mono m (fun _ h => h) (fun _ h => h) h) (a.ok g h)
  mono l x c h := a.mono l x (fun d h => f.mono l (fun _ h => h) c h) h
def callE (f : XF) (a : XA G) : XE G where
  te K E := tCall (spF K f.F) [] E (a.te K E)
  pre B X ss C := a.pre B X ss fun ds => f.F B ds C X
  ok g h := wpE_call (fun B B' ds C X m h => f.mono m (fun _ h => h) (fun _ h => h) h) (a.ok g h)
  mono l x c h := a.mono l x (fun d h => f.mono l x c h) h
/-! ### tests -/
def test (a : XE G) : XT G where
  te K E := tTest (a.te K E)
  pre B X ss C := a.pre B X ss fun d => ∃ b, d = .bl b ∧ C b
  ok g h := wpT_test (a.ok g h)
  mono l x c h := a.mono l x (fun d h => by obtain ⟨b, e, h⟩ := h; exact ⟨b, e, c _ h⟩) h
def tB' (a : XE G) : XT G where
  te K E := tB (a.te K E)
  pre B X ss C := a.pre B X ss fun d => ∃ b, d = .bl b ∧ C b
  ok g h := wpT_B (a.ok g h)
  mono l x c h := a.mono l x (fun d h => by obtain ⟨b, e, h⟩ := h; exact ⟨b, e, c _ h⟩) h
def yes : XT G := ⟨fun _ _ => tYes, fun _ _ _ C => C true, fun _ h => wpT_yes h, fun _ _ c h => c _ h⟩
def notT (a : XT G) : XT G where
  te K E := tNot (a.te K E)
  pre B X ss C := a.pre B X ss fun b => C (!b)
  ok g h := wpT_not (a.ok g h)
  mono l x c h := a.mono l x (fun d h => c _ h) h
def andT (a b : XT G) : XT G where
  te K E := tAnd (a.te K E) (b.te K E)
  pre B X ss C := a.pre B X ss fun k => if k = true then b.pre B X ss C else C false
  ok g h := wpT_and ((a.ok g h).mono fun k h => by
    split
    · rename_i z; rw [if_pos z] at h; exact b.ok g h
    · rename_i z; rw [if_neg z] at h; exact h)
  mono l x c h := a.mono l x (fun k h => by
    split
    · rename_i z; rw [if_pos z] at h; exact b.mono l x c h
    · rename_i z; rw [if_neg z] at h; exact c _ h) h
def orT (a b : XT G) : XT G where
  te K E := tOr (a.te K E) (b.te K E)
  pre B X ss C := a.pre B X ss fun k => if k = true then C true else b.pre B X ss C
  ok g h := wpT_or ((a.ok g h).mono fun k h => by
    split
    · rename_i z; rw [if_pos z] at h; exact h
    · rename_i z; rw [if_neg z] at h; exact b.ok g h)
  mono l x c h := a.mono l x (fun k h => by
    split
    · rename_i z; rw [if_pos z] at h; exact c _ h
    · rename_i z; rw [if_neg z] at h; exact b.mono l x c h) h
/-! ### targets -/
def gname (i : Nat) : XG where
  us := [i]
  te _ := gName i
  pre d ss C := i < ss.length ∧ C (ss.set i (.val d))
  ok h := wpG_name h.1 List.mem_cons_self h.2
  mono m h := ⟨h.1, m _ h.2⟩
def gpair (i j : Nat) : XG where
  us := [i, j]
  te K := gSeq K 2 (gCons (gName i) (gCons (gName j) gNil))
  pre d ss C := i < ss.length ∧ j < ss.length ∧ match d with
    | .tup [x, y] => C ((ss.set i (.val x)).set j (.val y))
    | .lst [x, y] => C ((ss.set i (.val x)).set j (.val y))
    | _ => False
  ok h := by
    obtain ⟨h1, h2, h3⟩ := h
    split at h3
    · exact wpG_seqT (wpG_pair h1 h2 (by simp) (by simp) rfl h3)
    · exact wpG_pairL h1 h2 (by simp) (by simp) rfl h3
    · exact h3.elim
  mono m h := ⟨h.1, h.2.1, by
    have h := h.2.2
    split at h
    · exact m _ h
    · exact m _ h
    · exact h.elim⟩
/-! ### statements -/
def skip : XS G := ⟨fun _ _ => tNext, fun _ _ ss e => e.nx ss, fun _ h => wpS_next h, fun _ _ m h => m.nx _ h⟩
def seq (s t : XS G) : XS G where
  te K E := tSeq (s.te K E) (t.te K E)
  pre B X ss e := s.pre B X ss { e with nx := fun ss => t.pre B X ss e }
  ok g h := wpS_seq (s.ok g (by
    refine s.mono (le_refl _) (fun _ h => h) ?_ h
    exact ⟨fun _ h => t.ok g h, fun _ h => h, fun _ h => h, fun _ h => h⟩))
  mono l x m h := by
    refine s.mono l x ?_ h
    exact ⟨fun _ h => t.mono l x m h, m.rt, m.bk, m.ct⟩
def ret (a : XE G) : XS G where
  te K E := tRet (a.te K E)
  pre B X ss e := a.pre B X ss fun d => e.rt (.val d)
  ok g h := wpS_ret (a.ok g h)
  mono l x m h := a.mono l x (fun d h => m.rt _ h) h
def retN : XS G := ⟨fun _ _ => tRetN, fun _ _ _ e => e.rt (.val .non), fun _ h => wpS_retN h, fun _ _ m h => m.rt _ h⟩
def ifS (t : XT G) (a b : XS G) : XS G where
  te K E := tIfS (t.te K E) (a.te K E) (b.te K E)
  pre B X ss e := t.pre B X ss fun k => if k = true then a.pre B X ss e else b.pre B X ss e
  ok g h := wpS_if ((t.ok g h).mono fun k h => by
    split
    · rename_i z; rw [if_pos z] at h; exact a.ok g h
    · rename_i z; rw [if_neg z] at h; exact b.ok g h)
  mono l x c h := t.mono l x (fun k h => by
    split
    · rename_i z; rw [if_pos z] at h; exact a.mono l x c h
    · rename_i z; rw [if_neg z] at h; exact b.mono l x c h) h
def asg (a : XE G) (g : XG) : XS G where
  te K E := tAsg (a.te K E) (g.te K)
  pre B X ss e := a.pre B X ss fun d => g.pre d ss e.nx
  ok gg h := wpS_asg (us := g.us) ((a.ok gg h).mono fun d h => g.ok h)
  mono l x m h := a.mono l x (fun d h => g.mono m.nx h) h
def set (i : Nat) (a : XE G) : XS G where
  te K E := tAsg (a.te K E) (gName i)
  pre B X ss e := i < ss.length ∧ a.pre B X ss fun d => e.nx (ss.set i (.val d))
  ok g h := wpS_set h.1 (a.ok g h.2)
  mono l x m h := ⟨h.1, a.mono l x (fun d h => m.nx _ h) h.2⟩
def setO (i : Nat) (a : XO G) : XS G where
  te K E := tAsg (a.te K E) (gName i)
  pre B X ss e := i < ss.length ∧ a.pre B X ss fun d => e.nx (ss.set i (.own d))
  ok g h := wpS_setO h.1 (a.ok g h.2)
  mono l x m h := ⟨h.1, a.mono l x (fun d h => m.nx _ h) h.2⟩
def par (i j : Nat) (a : XA G) : XS G where
  te K E := tPar i j (a.te K E)
  pre B X ss e := i < ss.length ∧ j < ss.length ∧ a.pre B X ss fun ds => match ds with
    | [x, y] => e.nx ((ss.set i (.val x)).set j (.val y))
    | _ => False
  ok g h := wpS_par h.1 h.2.1 (wpA_mono (a.ok g h.2.2) fun ds h => by
    split at h
    · exact ⟨_, _, rfl, h⟩
    · exact h.elim)
  mono l x m h := ⟨h.1, h.2.1, a.mono l x (fun ds h => by
    split at h
    · exact m.nx _ h
    · exact h.elim) h.2.2⟩
def drop (a : XE G) : XS G where
  te K E := tDrop (a.te K E)
  pre B X ss e := a.pre B X ss fun _ => e.nx ss
  ok g h := wpS_drop (a.ok g h)
  mono l x m h := a.mono l x (fun d h => m.nx _ h) h
/-- the list in a slot is no longer changed -/
def freeze (i : Nat) (s : XS G) : XS G where
  te := s.te
  pre B X ss e := getO ss i fun xs => s.pre B X (ss.set i (.val (.lst xs))) e
  ok g h := by obtain ⟨xs, e, h⟩ := getO_at h; exact wpS_freeze e (s.ok g h)
  mono l x m h := getO_mono (fun _ h => s.mono l x m h) h
def app (i : Nat) (a : XE G) : XS G where
  te K E := tDrop (tBM K "list" rAppend (tVar i) (tCons (a.te K E) tNil))
  pre B X ss e := getO ss i fun xs => xs.length < 100000 ∧ a.pre B X ss fun d => e.nx (ss.set i (.own (xs ++ [d])))
  ok g h := by obtain ⟨xs, e, h⟩ := getO_at h; exact wpS_app e h.1 (a.ok g h.2)
  mono l x m h := getO_mono (fun _ h => ⟨h.1, a.mono l x (fun d h => m.nx _ h) h.2⟩) h
def aug (i : Nat) (f : Int → Int → Int) (a : XE G) : XS G where
  te K E := tAug i (a.te K E) (ipI f)
  pre B X ss e := getV ss i fun d => match d with
    | .int n => a.pre B X ss fun d => ∃ m, d = .int m ∧ e.nx (ss.set i (.val (.int (f n m))))
    | _ => False
  ok g h := by
    obtain ⟨d, e, h⟩ := getV_at h
    split at h
    · exact wpS_aug e (a.ok g h)
    · exact h.elim
  mono l x m h := getV_mono (fun d h => by
    split at h
    · exact a.mono l x (fun d h => by obtain ⟨k, e, h⟩ := h; exact ⟨k, e, m.nx _ h⟩) h
    · exact h.elim) h
def put (i : Nat) (a ix : XE G) : XS G where
  te K E := tAsg (a.te K E) (gSub (tVar i) (ix.te K E) rSetL)
  pre B X ss e := getO ss i fun xs => a.pre B X ss fun d => ix.pre B X ss fun y => ∃ j m, y = .int j ∧ ixN xs.length j = some m ∧ e.nx (ss.set i (.own (xs.set m d)))
  ok g h := by obtain ⟨xs, e, h⟩ := getO_at h; exact wpS_putOwn e ((a.ok g h).mono fun d h => ix.ok g h)
  mono l x m h := getO_mono (fun _ h => a.mono l x (fun d h => ix.mono l x (fun d h => by
    obtain ⟨j, k, e1, e2, h⟩ := h
    exact ⟨j, k, e1, e2, m.nx _ h⟩) h) h) h
def augO (i : Nat) (f : Int → Int → Int) (a ix : XE G) : XS G where
  te K E := tAugS (tVar i) (ix.te K E) (a.te K E) (rIxL K) (ipI f) rSetL
  pre B X ss e := getO ss i fun xs => ix.pre B X ss fun y => ∃ j m n, y = .int j ∧ ixN xs.length j = some m ∧ xs[m]? = some (.int n) ∧ a.pre B X ss fun d => ∃ z, d = .int z ∧ e.nx (ss.set i (.own (xs.set m (.int (f n z)))))
  ok g h := by
    obtain ⟨xs, e, h⟩ := getO_at h
    refine wpS_augOwn e ((ix.ok g h).mono fun d h => ?_)
    obtain ⟨j, k, n, e1, e2, e3, h⟩ := h
    exact ⟨j, k, n, e1, e2, e3, a.ok g h⟩
  mono l x m h := getO_mono (fun _ h => ix.mono l x (fun d h => by
    obtain ⟨j, k, n, e1, e2, e3, h⟩ := h
    exact ⟨j, k, n, e1, e2, e3, a.mono l x (fun d h => by obtain ⟨z, e, h⟩ := h; exact ⟨z, e, m.nx _ h⟩) h⟩) h) h
def popD (i : Nat) : XS G where
  te K _ := tDrop (tBM0 K "list" rPop (tVar i))
  pre _ _ ss e := getO ss i fun xs => xs ≠ [] ∧ e.nx (ss.set i (.own xs.dropLast))
  ok g h := by obtain ⟨xs, e, h⟩ := getO_at h; exact wpS_popOwn e h.1 h.2
  mono l x m h := getO_mono (fun _ h => ⟨h.1, m.nx _ h.2⟩) h
def ixOwn (i : Nat) (a : XE G) : XE G where
  te K E := tOp (rIx K) (tVar i) (a.te K E)
  pre B X ss C := getO ss i fun xs => a.pre B X ss fun y => ∃ j d, y = .int j ∧ atI xs j = some d ∧ C d
  ok g h := by obtain ⟨xs, e, h⟩ := getO_at h; exact wpE_ixOwn e (a.ok g h)
  mono l x c h := getO_mono (fun _ h => a.mono l x (fun d h => by
    obtain ⟨j, k, e1, e2, h⟩ := h
    exact ⟨j, k, e1, e2, c _ h⟩) h) h
def lenOwn (i : Nat) : XE G where
  te K _ := tCB (bLen K) (tCons (tVar i) tNil)
  pre _ _ ss C := getO ss i fun xs => C (.int xs.length)
  ok g h := by obtain ⟨xs, e, h⟩ := getO_at h; exact wpE_lenOwn e h
  mono l x c h := getO_mono (fun _ h => c _ h) h
/-- what is never come to -/
def nope : XS G := ⟨fun _ _ => tNever, fun _ _ _ _ => False, fun _ h => h.elim, fun _ _ _ h => h⟩
def brk : XS G := ⟨fun _ _ => tBreak, fun _ _ ss e => e.bk ss, fun _ h => wpS_brk h, fun _ _ m h => m.bk _ h⟩
def cont : XS G := ⟨fun _ _ => tCont, fun _ _ ss e => e.ct ss, fun _ h => wpS_cont h, fun _ _ m h => m.ct _ h⟩
def raise0 (c : Addr) : XS G := ⟨fun _ E => tRaise0 c E, fun _ X _ _ => X ⟨c, [], []⟩, fun _ h => wpS_raise0 h, fun _ x _ h => x _ h⟩
def raise1 (c : Addr) (fl : Str) (a : XA G) : XS G where
  te K E := tRaise1 c fl E (a.te K E)
  pre B X ss e := a.pre B X ss fun ds => ∃ d, ds = [d] ∧ X ⟨c, [fl], [d]⟩
  ok g h := wpS_raise1 (a.ok g h)
  mono l x m h := a.mono l x (fun ds h => by obtain ⟨d, e, h⟩ := h; exact ⟨d, e, x _ h⟩) h
/-! ### loops -/
def forW (b : D → List Sl → En → Prop) : List D → List Sl → En → Prop
  | [], ss, e => e.nx ss
  | d :: r, ss, e => b d ss { nx := fun s => forW b r s e, ct := fun s => forW b r s e, bk := e.nx, rt := e.rt }
theorem forW_mono {b b' : D → List Sl → En → Prop} (hb : ∀ d ss e e', EnLe e e' → b d ss e → b' d ss e') : ∀ (ds : List D) (ss : List Sl) (e e' : En), EnLe e e' → forW b ds ss e → forW b' ds ss e'
  | [], ss, e, e', m, h => m.nx _ h
  | d :: r, ss, e, e', m, h => by
    refine hb _ _ _ _ ?_ h
    exact ⟨fun s h => forW_mono hb r s e e' m h, m.rt, m.nx, fun s h => forW_mono hb r s e e' m h⟩
theorem forW_drop {b : D → List Sl → En → Prop} {ds : List D} {i : Nat} {d : D} {ss : List Sl} {e : En} (hd : ds[i]? = some d) : forW b (ds.drop i) ss e = b d ss { nx := fun s => forW b (ds.drop (i + 1)) s e, ct := fun s => forW b (ds.drop (i + 1)) s e, bk := e.nx, rt := e.rt } := by
  obtain ⟨h, e1⟩ := List.getElem?_eq_some_iff.mp hd
  rw [List.drop_eq_getElem_cons h, e1]; rfl
def xfor (w : XI G) (g : XG) (s : XS G) : XS G where
  te K E := tFor (w.te K E) (g.te K) (s.te K E)
  pre B X ss e := w.pre B X ss fun ds => forW (fun d ss e => g.pre d ss fun ss2 => s.pre B X ss2 e) ds ss e
  ok gg h := wpS_for (us := g.us) (wpI_mono (w.ok gg h) fun ds h => by
    refine ⟨fun i ss' => forW (fun d ss e => g.pre d ss fun ss2 => s.pre _ _ ss2 e) (ds.drop i) ss' _, h, ?_, ?_⟩
    · intro i d ss' hd hI
      rw [forW_drop hd] at hI
      exact wpG_mono (g.ok hI) fun s2 h => s.ok gg h
    · intro ss' hI
      rw [List.drop_length] at hI
      exact hI)
  mono l x m h := w.mono l x (fun ds h => forW_mono (fun d ss e e' m h => g.mono (fun s2 h => s.mono l x m h) h) ds _ _ _ m h) h
def whW (t : List Sl → (Bool → Prop) → Prop) (b : List Sl → En → Prop) : Nat → List Sl → En → Prop
  | 0, _, _ => False
  | n + 1, ss, e => t ss fun k => if k = true then b ss { nx := fun s => whW t b n s e, ct := fun s => whW t b n s e, bk := e.nx, rt := e.rt } else e.nx ss
theorem whW_mono {t t' : List Sl → (Bool → Prop) → Prop} {b b' : List Sl → En → Prop} (ht : ∀ ss C C', (∀ k, C k → C' k) → t ss C → t' ss C') (hb : ∀ ss e e', EnLe e e' → b ss e → b' ss e') : ∀ (n : Nat) (ss : List Sl) (e e' : En), EnLe e e' → whW t b n ss e → whW t' b' n ss e'
  | 0, _, _, _, _, h => h
  | n + 1, ss, e, e', m, h => ht _ _ _ (fun k h => by
    split
    · rename_i z; rw [if_pos z] at h
      refine hb _ _ _ ?_ h
      exact ⟨fun s h => whW_mono ht hb n s e e' m h, m.rt, m.nx, fun s h => whW_mono ht hb n s e e' m h⟩
    · rename_i z; rw [if_neg z] at h; exact m.nx _ h) h
def xwhile (t : XT G) (s : XS G) : XS G where
  te K E := tWhile (t.te K E) (s.te K E)
  pre B X ss e := ∃ n, whW (fun ss C => t.pre B X ss C) (fun ss e => s.pre B X ss e) n ss e
  ok g h := by
    obtain ⟨n, h⟩ := h
    refine wpS_while (fun m s1 => whW (fun ss C => t.pre _ _ ss C) (fun ss e => s.pre _ _ ss e) m s1 _) n h ?_
    intro m s1 h
    cases m with
    | zero => exact h.elim
    | succ m =>
      refine (t.ok g h).mono fun k h => ?_
      split
      · rename_i z; rw [if_pos z] at h
        refine s.ok g ?_
        refine s.mono (le_refl _) (fun _ h => h) ?_ h
        exact ⟨fun s2 h => ⟨m, Nat.lt_succ_self m, h⟩, fun _ h => h, fun _ h => h, fun s2 h => ⟨m, Nat.lt_succ_self m, h⟩⟩
      · rename_i z; rw [if_neg z] at h; exact h
  mono l x m h := by
    obtain ⟨n, h⟩ := h
    refine ⟨n, ?_⟩
    refine whW_mono ?_ ?_ n _ _ _ m h
    · exact fun ss C C' c h => t.mono l x c h
    · exact fun ss e e' m h => s.mono l x m h
/-! ### comprehensions -/
def lcW (b : D → (Option D → Prop) → Prop) : List D → List D → (List D → Prop) → Prop
  | [], acc, C => C acc
  | d :: r, acc, C => b d fun o => lcW b r (acc ++ o.toList) C
theorem lcW_mono {b b' : D → (Option D → Prop) → Prop} (hb : ∀ d C C', (∀ o, C o → C' o) → b d C → b' d C') : ∀ (ds acc : List D) (C C' : List D → Prop), (∀ x, C x → C' x) → lcW b ds acc C → lcW b' ds acc C'
  | [], acc, C, C', m, h => m _ h
  | d :: r, acc, C, C', m, h => hb _ _ _ (fun o h => lcW_mono hb r _ C C' m h) h
theorem lcW_drop {b : D → (Option D → Prop) → Prop} {ds acc : List D} {i : Nat} {d : D} {C : List D → Prop} (hd : ds[i]? = some d) : lcW b (ds.drop i) acc C = b d fun o => lcW b (ds.drop (i + 1)) (acc ++ o.toList) C := by
  obtain ⟨h, e1⟩ := List.getElem?_eq_some_iff.mp hd
  rw [List.drop_eq_getElem_cons h, e1]; rfl
/-- one turn -/
def lcT (g : XG) (t : XT G) (a : XE G) (B : Sc) (X : XP) (ss : List Sl) (d : D) (C : Option D → Prop) : Prop :=
  g.pre d (wipeS ss g.us) fun s2 => t.pre B X s2 fun k => if k = true then a.pre B X s2 fun y => C (some y) else C none
def lc (w : XI G) (g : XG) (t : XT G) (a : XE G) : XO G where
  te K E := tLc (w.te K E) (g.te K) (t.te K E) (a.te K E) g.us
  pre B X ss C := w.pre B X ss fun ds => ds.length ≤ 100000 ∧ lcW (lcT g t a B X ss) ds [] C
  ok gg h := wpO_lc (us := g.us) (wpI_mono (w.ok gg h) fun ds h => by
    refine ⟨h.1, fun i acc => lcW (lcT g t a _ _ _) (ds.drop i) acc _, h.2, ?_, ?_⟩
    · intro i d acc hd hI
      rw [lcW_drop hd] at hI
      exact wpG_mono (g.ok hI) fun s2 h => (t.ok gg h).mono fun k h => by
        split
        · rename_i z; rw [if_pos z] at h; exact a.ok gg h
        · rename_i z; rw [if_neg z] at h; simpa using h
    · intro acc hI
      rw [List.drop_length] at hI
      exact hI)
  mono l x c h := w.mono l x (fun ds h => ⟨h.1, lcW_mono (fun d C C' m h => g.mono (fun s2 h => t.mono l x (fun k h => by
    split
    · rename_i z; rw [if_pos z] at h; exact a.mono l x (fun y h => m _ h) h
    · rename_i z; rw [if_neg z] at h; exact m _ h) h) h) ds [] _ _ c h.2⟩) h
/-! ### what is gone over -/
def iseq (a : XE G) : XI G where
  te K E := iSeq K (a.te K E)
  pre B X ss C := a.pre B X ss fun d => match d with
    | .lst xs => C xs
    | .tup xs => C xs
    | _ => False
  ok g h := wpI_seq ((a.ok g h).mono fun d h => by
    cases d <;> first | exact h.elim | exact .inl ⟨_, rfl, h⟩ | exact .inr ⟨_, rfl, h⟩)
  mono l x c h := a.mono l x (fun d h => by cases d <;> first | exact h.elim | exact c _ h) h
def irng1 (a : XA G) : XI G where
  te K E := iRng1 (a.te K E)
  pre B X ss C := a.pre B X ss fun ds => match ds with
    | [.int j] => (-(2 ^ 62) ≤ j ∧ j < 2 ^ 62) ∧ C (rngD 0 j.toNat)
    | _ => False
  ok g h := wpI_rng1 (wpA_mono (a.ok g h) fun ds h => by
    split at h
    · exact ⟨_, rfl, h⟩
    · exact h.elim)
  mono l x c h := a.mono l x (fun ds h => by
    split at h
    · exact ⟨h.1, c _ h.2⟩
    · exact h.elim) h
def irng3 (a : XA G) : XI G where
  te K E := iRng3 (a.te K E)
  pre B X ss C := a.pre B X ss fun ds => match ds with
    | [.int i, .int j, .int k] => k = -1 ∧ (-(2 ^ 62) ≤ i ∧ i < 2 ^ 62 ∧ -(2 ^ 62) ≤ j ∧ j < 2 ^ 62) ∧ C (rngDn i (i - j).toNat)
    | _ => False
  ok g h := wpI_rng3 (wpA_mono (a.ok g h) fun ds h => by
    split at h
    · obtain ⟨rfl, h1, h2⟩ := h
      exact ⟨_, _, rfl, h1, h2⟩
    · exact h.elim)
  mono l x c h := a.mono l x (fun ds h => by
    split at h
    · exact ⟨h.1, h.2.1, c _ h.2.2⟩
    · exact h.elim) h
def irng2 (a : XA G) : XI G where
  te K E := iRng2 (a.te K E)
  pre B X ss C := a.pre B X ss fun ds => match ds with
    | [.int i, .int j] => (-(2 ^ 62) ≤ i ∧ i < 2 ^ 62 ∧ -(2 ^ 62) ≤ j ∧ j < 2 ^ 62) ∧ C (rngD i (j - i).toNat)
    | _ => False
  ok g h := wpI_rng2 (wpA_mono (a.ok g h) fun ds h => by
    split at h
    · exact ⟨_, _, rfl, h⟩
    · exact h.elim)
  mono l x c h := a.mono l x (fun ds h => by
    split at h
    · exact ⟨h.1, c _ h.2⟩
    · exact h.elim) h
def izip (a : XA G) : XI G where
  te K E := iZipM K (a.te K E)
  pre B X ss C := a.pre B X ss fun ds => match ds with
    | [.lst x, .lst y] => C (zipD x y)
    | [.tup x, .tup y] => C (zipD x y)
    | [.lst x, .tup y] => C (zipD x y)
    | _ => False
  ok g h := wpI_zip3 (wpA_mono (a.ok g h) fun ds h => by
    split at h
    · exact .inl ⟨_, _, rfl, h⟩
    · exact .inr (.inl ⟨_, _, rfl, h⟩)
    · exact .inr (.inr ⟨_, _, rfl, h⟩)
    · exact h.elim)
  mono l x c h := a.mono l x (fun ds h => by
    split at h
    · exact c _ h
    · exact c _ h
    · exact c _ h
    · exact h.elim) h
def ienumT (a : XA G) : XI G where
  te K E := iEnumT K (a.te K E)
  pre B X ss C := a.pre B X ss fun ds => match ds with
    | [.tup x] => C (enumD 0 x)
    | _ => False
  ok g h := wpI_enumT (wpA_mono (a.ok g h) fun ds h => by
    split at h
    · exact ⟨_, rfl, h⟩
    · exact h.elim)
  mono l x c h := a.mono l x (fun ds h => by
    split at h
    · exact c _ h
    · exact h.elim) h
def ienumL (a : XA G) : XI G where
  te K E := iEnum K (a.te K E)
  pre B X ss C := a.pre B X ss fun ds => match ds with
    | [.lst x] => C (enumD 0 x)
    | _ => False
  ok g h := wpI_enum (wpA_mono (a.ok g h) fun ds h => by
    split at h
    · exact ⟨_, rfl, h⟩
    · exact h.elim)
  mono l x c h := a.mono l x (fun ds h => by
    split at h
    · exact c _ h
    · exact h.elim) h
/-! ### defs -/
theorem en0_le {C C' : D → Prop} (c : ∀ d, C d → C' d) : EnLe (en0 C) (en0 C') := ⟨fun _ h => c _ h, fun s h => by cases s <;> first | exact c _ h | exact h.elim, fun _ h => h, fun _ h => h⟩
def xf (n m : Nat) (s : XS G) : XF where
  F B ds C X := ds.length = n ∧ s.pre B X (ss0 ds m) (en0 C)
  mono l x c h := ⟨h.1, s.mono l x (en0_le c) h.2⟩
theorem body0 {n m : Nat} {s : XS G} {K : Fr} (g : G K) {N : List Str} (hN : N.length = m) : ∀ (Γ : Cxt) (ds : List D) (C : D → Prop), (xf n m s).F (sc Γ) ds C Γ.X → wpS K Γ (s.te K Γ.E) (ss0 ds N.length) (en0 C) := fun Γ ds C h => by
  rw [hN]; exact s.ok g h.2
end XQ
/-! operations of values -/
namespace XQ
open PySem PySem.Spec PyProof.Rows L2 SQ
def I2 (C : Int → Int → Prop) : D → D → Prop
  | .int i, .int j => C i j
  | _, _ => False
@[simp] theorem I2_int {i j : Int} {C : Int → Int → Prop} : I2 C (.int i) (.int j) = C i j := rfl
theorem I2_at {x y : D} {C : Int → Int → Prop} (h : I2 C x y) : ∃ i j, x = .int i ∧ y = .int j ∧ C i j := by
  unfold I2 at h
  split at h
  · exact ⟨_, _, rfl, rfl, h⟩
  · exact h.elim
def rsub : XR where
  r _ := rI0 fun i j => .int (i - j)
  pre x y C := I2 (fun i j => C (.int (i - j))) x y
  ok h := by obtain ⟨i, j, rfl, rfl, h⟩ := I2_at h; exact wpR_subI (f := fun i j => i - j) h
  mono c h := by obtain ⟨i, j, rfl, rfl, h⟩ := I2_at h; exact c _ h
def rlt : XR where
  r _ := rI0 fun i j => .bl (decide (i < j))
  pre x y C := I2 (fun i j => C (.bl (decide (i < j)))) x y
  ok h := by obtain ⟨i, j, rfl, rfl, h⟩ := I2_at h; exact wpR_cmpI (f := fun i j => decide (i < j)) h
  mono c h := by obtain ⟨i, j, rfl, rfl, h⟩ := I2_at h; exact c _ h
def rle : XR where
  r _ := rI0 fun i j => .bl (decide (i ≤ j))
  pre x y C := I2 (fun i j => C (.bl (decide (i ≤ j)))) x y
  ok h := by obtain ⟨i, j, rfl, rfl, h⟩ := I2_at h; exact wpR_cmpI (f := fun i j => decide (i ≤ j)) h
  mono c h := by obtain ⟨i, j, rfl, rfl, h⟩ := I2_at h; exact c _ h
def rgt : XR where
  r _ := rI0 fun i j => .bl (decide (j < i))
  pre x y C := I2 (fun i j => C (.bl (decide (j < i)))) x y
  ok h := by obtain ⟨i, j, rfl, rfl, h⟩ := I2_at h; exact wpR_cmpI (f := fun i j => decide (j < i)) h
  mono c h := by obtain ⟨i, j, rfl, rfl, h⟩ := I2_at h; exact c _ h
def rge : XR where
  r _ := rI0 fun i j => .bl (decide (j ≤ i))
  pre x y C := I2 (fun i j => C (.bl (decide (j ≤ i)))) x y
  ok h := by obtain ⟨i, j, rfl, rfl, h⟩ := I2_at h; exact wpR_cmpI (f := fun i j => decide (j ≤ i)) h
  mono c h := by obtain ⟨i, j, rfl, rfl, h⟩ := I2_at h; exact c _ h
def rmod : XR where
  r _ := rI (fun _ j => 0 < j) fun i j => .int (i % j)
  pre x y C := I2 (fun i j => 0 < j ∧ C (.int (i % j))) x y
  ok h := by obtain ⟨i, j, rfl, rfl, h⟩ := I2_at h; exact wpR_mod h.1 h.2
  mono c h := by obtain ⟨i, j, rfl, rfl, h⟩ := I2_at h; exact ⟨h.1, c _ h.2⟩
def rfdiv : XR where
  r _ := rI CDivW fun i j => .int (i / j)
  pre x y C := I2 (fun i j => CDivW i j ∧ C (.int (i / j))) x y
  ok h := by obtain ⟨i, j, rfl, rfl, h⟩ := I2_at h; exact wpR_fdiv h.1 h.2
  mono c h := by obtain ⟨i, j, rfl, rfl, h⟩ := I2_at h; exact ⟨h.1, c _ h.2⟩
def rpow : XR where
  r _ := rI CPowW fun i j => .int (i ^ j.toNat)
  pre x y C := I2 (fun i j => CPowW i j ∧ C (.int (i ^ j.toNat))) x y
  ok h := by obtain ⟨i, j, rfl, rfl, h⟩ := I2_at h; exact wpR_pow h.1 h.2
  mono c h := by obtain ⟨i, j, rfl, rfl, h⟩ := I2_at h; exact ⟨h.1, c _ h.2⟩
def addP (x y : D) (C : D → Prop) : Prop := match x, y with
  | .int i, .int j => C (.int (i + j))
  | .tup xs, .tup ys => xs.length + ys.length ≤ 100000 ∧ C (.tup (xs ++ ys))
  | .lst xs, .lst ys => xs.length + ys.length ≤ 100000 ∧ C (.lst (xs ++ ys))
  | .str xs, .str ys => xs.length + ys.length ≤ 2000000 ∧ C (.str (xs ++ ys))
  | _, _ => False
@[simp] theorem addP_str {xs ys : Str} {C : D → Prop} : addP (.str xs) (.str ys) C = (xs.length + ys.length ≤ 2000000 ∧ C (.str (xs ++ ys))) := rfl
@[simp] theorem addP_int {i j : Int} {C : D → Prop} : addP (.int i) (.int j) C = C (.int (i + j)) := rfl
@[simp] theorem addP_tup {xs ys : List D} {C : D → Prop} : addP (.tup xs) (.tup ys) C = (xs.length + ys.length ≤ 100000 ∧ C (.tup (xs ++ ys))) := rfl
@[simp] theorem addP_lst {xs ys : List D} {C : D → Prop} : addP (.lst xs) (.lst ys) C = (xs.length + ys.length ≤ 100000 ∧ C (.lst (xs ++ ys))) := rfl
def radd : XR where
  r K := rAddA K
  pre := addP
  ok h := by
    unfold addP at h
    split at h
    · exact wpR_addI h
    · exact wpR_addT h.1 h.2
    · exact wpR_addL h.1 h.2
    · exact wpR_addS h.1 h.2
    · exact h.elim
  mono c h := by
    unfold addP at h ⊢
    split at h
    · exact c _ h
    · exact ⟨h.1, c _ h.2⟩
    · exact ⟨h.1, c _ h.2⟩
    · exact ⟨h.1, c _ h.2⟩
    · exact h.elim
def mulP (x y : D) (C : D → Prop) : Prop := match x, y with
  | .int i, .int j => (CMul i j ∨ CMulW i j) ∧ C (.int (i * j))
  | .tup xs, .int j => (xs ≠ [] ∧ (2 ≤ j ∧ j ≤ 1000) ∧ xs.length ≤ 1000) ∧ C (.tup (List.replicate j.toNat xs).flatten)
  | .lst xs, .int j => ((0 ≤ j ∧ j ≤ 100000) ∧ xs.length * j.toNat ≤ 100000) ∧ C (.lst (List.replicate j.toNat xs).flatten)
  | _, _ => False
@[simp] theorem mulP_int {i j : Int} {C : D → Prop} : mulP (.int i) (.int j) C = ((CMul i j ∨ CMulW i j) ∧ C (.int (i * j))) := rfl
@[simp] theorem mulP_tup {xs : List D} {j : Int} {C : D → Prop} : mulP (.tup xs) (.int j) C = ((xs ≠ [] ∧ (2 ≤ j ∧ j ≤ 1000) ∧ xs.length ≤ 1000) ∧ C (.tup (List.replicate j.toNat xs).flatten)) := rfl
@[simp] theorem mulP_lst {xs : List D} {j : Int} {C : D → Prop} : mulP (.lst xs) (.int j) C = (((0 ≤ j ∧ j ≤ 100000) ∧ xs.length * j.toNat ≤ 100000) ∧ C (.lst (List.replicate j.toNat xs).flatten)) := rfl
def rmul : XR where
  r K := rMulA K
  pre := mulP
  ok h := by
    unfold mulP at h
    split at h
    · exact wpR_mulI h.1 h.2
    · exact wpR_mulT h.1.1 h.1.2.1 h.1.2.2 h.2
    · exact wpR_frz (wpRO_mulL h.1.1 h.1.2 h.2)
    · exact h.elim
  mono c h := by
    unfold mulP at h ⊢
    split at h <;> first | exact h.elim | exact ⟨h.1, c _ h.2⟩
def tmulP (x y : D) (C : D → Prop) : Prop := match x, y with
  | .tup xs, .int j => (xs ≠ [] ∧ (0 ≤ j ∧ j ≤ 1000) ∧ xs.length ≤ 1000) ∧ C (.tup (List.replicate j.toNat xs).flatten)
  | _, _ => False
@[simp] theorem tmulP_tup {xs : List D} {j : Int} {C : D → Prop} : tmulP (.tup xs) (.int j) C = ((xs ≠ [] ∧ (0 ≤ j ∧ j ≤ 1000) ∧ xs.length ≤ 1000) ∧ C (.tup (List.replicate j.toNat xs).flatten)) := rfl
def rtmul : XR where
  r K := rTMul K
  pre := tmulP
  ok h := by
    unfold tmulP at h
    split at h
    · exact wpR_tmul h.1.1 h.1.2.1 h.1.2.2 h.2
    · exact h.elim
  mono c h := by
    unfold tmulP at h ⊢
    split at h <;> first | exact h.elim | exact ⟨h.1, c _ h.2⟩
def req : XR where
  r K := rEqD K
  pre x y C := (pyk 64 x = true ∧ pyk 64 y = true) ∧ C (.bl (eqD x y))
  ok h := wpR_eqD h.1.1 h.1.2 h.2
  mono c h := ⟨h.1, c _ h.2⟩
def rne : XR where
  r K := rNeD K
  pre x y C := (pyk 64 x = true ∧ pyk 64 y = true) ∧ C (.bl (!eqD x y))
  ok h := wpR_neD h.1.1 h.1.2 h.2
  mono c h := ⟨h.1, c _ h.2⟩
/-- of texts -/
def S2 (C : Str → Str → Prop) : D → D → Prop
  | .str i, .str j => C i j
  | _, _ => False
@[simp] theorem S2_str {i j : Str} {C : Str → Str → Prop} : S2 C (.str i) (.str j) = C i j := rfl
theorem S2_at {x y : D} {C : Str → Str → Prop} (h : S2 C x y) : ∃ i j, x = .str i ∧ y = .str j ∧ C i j := by
  unfold S2 at h
  split at h
  · exact ⟨_, _, rfl, rfl, h⟩
  · exact h.elim
def reqS : XR where
  r _ := rEq
  pre x y C := S2 (fun i j => C (.bl (i == j))) x y
  ok h := by obtain ⟨i, j, rfl, rfl, h⟩ := S2_at h; exact wpR_eqS h
  mono c h := by obtain ⟨i, j, rfl, rfl, h⟩ := S2_at h; exact c _ h
def rneS : XR where
  r _ := rNe
  pre x y C := S2 (fun i j => C (.bl (!(i == j)))) x y
  ok h := by obtain ⟨i, j, rfl, rfl, h⟩ := S2_at h; exact wpR_neS h
  mono c h := by obtain ⟨i, j, rfl, rfl, h⟩ := S2_at h; exact c _ h
def L2b (C : Bool → Bool → Prop) : D → D → Prop
  | .bl i, .bl j => C i j
  | _, _ => False
@[simp] theorem L2b_bl {i j : Bool} {C : Bool → Bool → Prop} : L2b C (.bl i) (.bl j) = C i j := rfl
theorem L2b_at {x y : D} {C : Bool → Bool → Prop} (h : L2b C x y) : ∃ i j, x = .bl i ∧ y = .bl j ∧ C i j := by
  unfold L2b at h
  split at h
  · exact ⟨_, _, rfl, rfl, h⟩
  · exact h.elim
def risB : XR where
  r _ := rIsB'
  pre x y C := L2b (fun i j => C (.bl (i == j))) x y
  ok h := by obtain ⟨i, j, rfl, rfl, h⟩ := L2b_at h; exact wpR_isB h
  mono c h := by obtain ⟨i, j, rfl, rfl, h⟩ := L2b_at h; exact c _ h
def rnotB : XR where
  r _ := rIsNotB
  pre x y C := L2b (fun i j => C (.bl (!(i == j)))) x y
  ok h := by obtain ⟨i, j, rfl, rfl, h⟩ := L2b_at h; exact wpR_notB h
  mono c h := by obtain ⟨i, j, rfl, rfl, h⟩ := L2b_at h; exact c _ h
/-- an item -/
def ixP (x y : D) (C : D → Prop) : Prop := match x, y with
  | .tup xs, .int j => ∃ d, atI xs j = some d ∧ C d
  | .lst xs, .int j => ∃ d, atI xs j = some d ∧ C d
  | .scr ns, .int j => ∃ d, atI ns j = some d ∧ C (.int d)
  | _, _ => False
@[simp] theorem ixP_tup {xs : List D} {j : Int} {C : D → Prop} : ixP (.tup xs) (.int j) C = ∃ d, atI xs j = some d ∧ C d := rfl
@[simp] theorem ixP_lst {xs : List D} {j : Int} {C : D → Prop} : ixP (.lst xs) (.int j) C = ∃ d, atI xs j = some d ∧ C d := rfl
@[simp] theorem ixP_scr {xs : List Int} {j : Int} {C : D → Prop} : ixP (.scr xs) (.int j) C = ∃ d, atI xs j = some d ∧ C (.int d) := rfl
def rix : XR where
  r K := rIx K
  pre := ixP
  ok h := by
    unfold ixP at h
    split at h
    · obtain ⟨d, e, h⟩ := h; exact wpR_ixT e h
    · obtain ⟨d, e, h⟩ := h; exact wpR_ixL e h
    · obtain ⟨d, e, h⟩ := h; exact wpR_ixS e h
    · exact h.elim
  mono c h := by
    unfold ixP at h ⊢
    split at h <;> first | exact h.elim | (obtain ⟨d, e, h⟩ := h; exact ⟨d, e, c _ h⟩)
/-! ### in a list or a tuple -/
def inP (neg : Bool) (x y : D) (C : D → Prop) : Prop := match y with
  | .lst ys => (pyk 64 x = true ∧ pyks 63 ys = true) ∧ C (.bl (if neg = true then !ys.any fun z => eqD z x else ys.any fun z => eqD z x))
  | _ => False
@[simp] theorem inP_lst {neg : Bool} {x : D} {ys : List D} {C : D → Prop} : inP neg x (.lst ys) C = ((pyk 64 x = true ∧ pyks 63 ys = true) ∧ C (.bl (if neg = true then !ys.any fun z => eqD z x else ys.any fun z => eqD z x))) := rfl
theorem any_pys {x : D} : ∀ (ys : List D), (pys ys).any (fun z => PyData.eqv z (py x)) = ys.any fun z => eqD z x
  | [] => rfl
  | y :: ys => by
    show (PyData.eqv (py y) (py x) || (pys ys).any _) = (eqD y x || ys.any _)
    rw [any_pys ys]; rfl
def rin : XR where
  r K := rInD K
  pre x y C := inP false x y C
  ok h := by
    unfold inP at h
    split at h
    · rename_i ys
      obtain ⟨⟨h1, h2⟩, c⟩ := h
      intro S H v w lv rx ry Q q
      have hy : pyk 64 (.lst ys) = true := h2
      refine ⟨_, _, Rep.dp 64 _ _ h1 rx, Rep.dp 64 _ _ hy ry, py_shaped h1, py_shaped hy, ?_⟩
      rw [any_pys]
      exact q _ (.bl _) H (Ext.refl H) rfl c
    · exact h.elim
  mono c h := by
    unfold inP at h ⊢
    split at h <;> first | exact h.elim | exact ⟨h.1, c _ h.2⟩
def rnotin : XR where
  r K := rNotInD K
  pre x y C := inP true x y C
  ok h := by
    unfold inP at h
    split at h
    · rename_i ys
      obtain ⟨⟨h1, h2⟩, c⟩ := h
      intro S H v w lv rx ry Q q
      have hy : pyk 64 (.lst ys) = true := h2
      refine ⟨_, _, Rep.dp 64 _ _ h1 rx, Rep.dp 64 _ _ hy ry, py_shaped h1, py_shaped hy, ?_⟩
      rw [any_pys]
      exact q _ (.bl _) H (Ext.refl H) rfl c
    · exact h.elim
  mono c h := by
    unfold inP at h ⊢
    split at h <;> first | exact h.elim | exact ⟨h.1, c _ h.2⟩
/-! ### built-ins -/
def lenP (ds : List D) (C : D → Prop) : Prop := match ds with
  | [.tup xs] => C (.int xs.length)
  | [.lst xs] => C (.int xs.length)
  | [.scr ns] => C (.int ns.length)
  | _ => False
@[simp] theorem lenP_tup {xs : List D} {C : D → Prop} : lenP [.tup xs] C = C (.int xs.length) := rfl
@[simp] theorem lenP_lst {xs : List D} {C : D → Prop} : lenP [.lst xs] C = C (.int xs.length) := rfl
@[simp] theorem lenP_scr {xs : List Int} {C : D → Prop} : lenP [.scr xs] C = C (.int xs.length) := rfl
def blen : XB where
  r K := bLen K
  pre := lenP
  ok h := by
    unfold lenP at h
    split at h
    · exact wpB_lenT h
    · exact wpB_lenL h
    · exact wpB_lenS h
    · exact h.elim
  mono c h := by
    unfold lenP at h ⊢
    split at h <;> first | exact h.elim | exact c _ h
def intP (ds : List D) (C : D → Prop) : Prop := match ds with
  | [.int i] => C (.int i)
  | [.bl b] => C (.int (if b = true then 1 else 0))
  | _ => False
@[simp] theorem intP_int {i : Int} {C : D → Prop} : intP [.int i] C = C (.int i) := rfl
@[simp] theorem intP_bl {b : Bool} {C : D → Prop} : intP [.bl b] C = C (.int (if b = true then 1 else 0)) := rfl
def bint : XB where
  r _ := bInt
  pre := intP
  ok h := by
    unfold intP at h
    split at h
    · exact wpB_intI h
    · exact wpB_intB h
    · exact h.elim
  mono c h := by
    unfold intP at h ⊢
    split at h <;> first | exact h.elim | exact c _ h
def absP (ds : List D) (C : D → Prop) : Prop := match ds with
  | [.int i] => C (.int (if i < 0 then -i else i))
  | _ => False
@[simp] theorem absP_int {i : Int} {C : D → Prop} : absP [.int i] C = C (.int (if i < 0 then -i else i)) := rfl
def babs : XB where
  r _ := bAbs
  pre := absP
  ok h := by
    unfold absP at h
    split at h
    · exact wpB_abs h
    · exact h.elim
  mono c h := by
    unfold absP at h ⊢
    split at h <;> first | exact h.elim | exact c _ h
/-- ints of a list of trees, if they are ints -/
def intsOf : List D → Option (List Int)
  | [] => some []
  | .int i :: r => (intsOf r).map (i :: ·)
  | _ :: _ => none
@[simp] theorem intsOf_map : ∀ ns : List Int, intsOf (ns.map D.int) = some ns
  | [] => rfl
  | n :: r => by show (intsOf (r.map D.int)).map (n :: ·) = _; rw [intsOf_map r]; rfl
theorem of_intsOf : ∀ {ds : List D} {ns : List Int}, intsOf ds = some ns → ds = ns.map D.int
  | [], ns, h => by cases h; rfl
  | .int i :: r, ns, h => by
    unfold intsOf at h
    cases e : intsOf r with
    | none => rw [e] at h; cases h
    | some ms => rw [e] at h; cases h; rw [of_intsOf e]; rfl
def seqOf : D → Option (List D)
  | .tup xs => some xs
  | .lst xs => some xs
  | _ => none
def isMax (m : Int) (ns : List Int) : Prop := m ∈ ns ∧ ∀ y ∈ ns, y ≤ m
def isMin (m : Int) (ns : List Int) : Prop := m ∈ ns ∧ ∀ y ∈ ns, m ≤ y
def sumP (ds : List D) (C : D → Prop) : Prop := match ds with
  | [d] => ∃ xs, seqOf d = some xs ∧ ∃ ns, intsOf xs = some ns ∧ C (.int ns.sum)
  | _ => False
@[simp] theorem sumP_tup {ns : List Int} {C : D → Prop} : sumP [.tup (ns.map D.int)] C = C (.int ns.sum) := by simp [sumP, seqOf]
@[simp] theorem sumP_lst {ns : List Int} {C : D → Prop} : sumP [.lst (ns.map D.int)] C = C (.int ns.sum) := by simp [sumP, seqOf]
def bsum : XB where
  r K := bSum K
  pre := sumP
  ok h := by
    unfold sumP at h
    split at h
    · rename_i d
      obtain ⟨xs, e, ns, e2, h⟩ := h
      have e2 := of_intsOf e2
      subst e2
      cases d <;> first | (cases e; exact wpB_sumT h) | (cases e; exact wpB_sumL h) | cases e
    · exact h.elim
  mono c h := by
    unfold sumP at h ⊢
    split at h
    · obtain ⟨xs, e, ns, e2, h⟩ := h
      exact ⟨xs, e, ns, e2, c _ h⟩
    · exact h.elim
def tupP (ds : List D) (C : D → Prop) : Prop := match ds with
  | [.lst xs] => C (.tup xs)
  | [.tup xs] => C (.tup xs)
  | _ => False
@[simp] theorem tupP_lst {xs : List D} {C : D → Prop} : tupP [.lst xs] C = C (.tup xs) := rfl
@[simp] theorem tupP_tup {xs : List D} {C : D → Prop} : tupP [.tup xs] C = C (.tup xs) := rfl
def btup : XB where
  r K := bTup K
  pre := tupP
  ok h := by
    unfold tupP at h
    split at h
    · exact wpB_tupL h
    · exact wpB_tupT h
    · exact h.elim
  mono c h := by
    unfold tupP at h ⊢
    split at h <;> first | exact h.elim | exact c _ h
def lstP (ds : List D) (C : List D → Prop) : Prop := match ds with
  | [.lst xs] => C xs
  | [.tup xs] => C xs
  | _ => False
@[simp] theorem lstP_lst {xs : List D} {C : List D → Prop} : lstP [.lst xs] C = C xs := rfl
@[simp] theorem lstP_tup {xs : List D} {C : List D → Prop} : lstP [.tup xs] C = C xs := rfl
def blst : XBO where
  r K := bLst K
  pre := lstP
  ok h := by
    unfold lstP at h
    split at h
    · exact wpBO_lstL h
    · exact wpBO_lstT h
    · exact h.elim
  mono c h := by
    unfold lstP at h ⊢
    split at h <;> first | exact h.elim | exact c _ h
def bolOf : List D → Option (List Bool)
  | [] => some []
  | .bl i :: r => (bolOf r).map (i :: ·)
  | _ :: _ => none
@[simp] theorem bolOf_map : ∀ ns : List Bool, bolOf (ns.map D.bl) = some ns
  | [] => rfl
  | n :: r => by show (bolOf (r.map D.bl)).map (n :: ·) = _; rw [bolOf_map r]; rfl
theorem of_bolOf : ∀ {ds : List D} {ns : List Bool}, bolOf ds = some ns → ds = ns.map D.bl
  | [], ns, h => by cases h; rfl
  | .bl i :: r, ns, h => by
    unfold bolOf at h
    cases e : bolOf r with
    | none => rw [e] at h; cases h
    | some ms => rw [e] at h; cases h; rw [of_bolOf e]; rfl
def allP (ds : List D) (C : D → Prop) : Prop := match ds with
  | [.lst xs] => ∃ bs, bolOf xs = some bs ∧ C (.bl (bs.all id))
  | _ => False
@[simp] theorem allP_lst {bs : List Bool} {C : D → Prop} : allP [.lst (bs.map D.bl)] C = C (.bl (bs.all id)) := by simp [allP]
def ball : XB where
  r K := bAll K
  pre := allP
  ok h := by
    unfold allP at h
    split at h
    · obtain ⟨bs, e, h⟩ := h
      have e := of_bolOf e
      subst e
      exact wpB_all h
    · exact h.elim
  mono c h := by
    unfold allP at h ⊢
    split at h
    · obtain ⟨bs, e, h⟩ := h; exact ⟨bs, e, c _ h⟩
    · exact h.elim
def anyP (ds : List D) (C : D → Prop) : Prop := match ds with
  | [.lst xs] => ∃ bs, bolOf xs = some bs ∧ C (.bl (bs.any id))
  | _ => False
@[simp] theorem anyP_lst {bs : List Bool} {C : D → Prop} : anyP [.lst (bs.map D.bl)] C = C (.bl (bs.any id)) := by simp [anyP]
def bany : XB where
  r K := bAny K
  pre := anyP
  ok h := by
    unfold anyP at h
    split at h
    · obtain ⟨bs, e, h⟩ := h
      have e := of_bolOf e
      subst e
      exact wpB_any h
    · exact h.elim
  mono c h := by
    unfold anyP at h ⊢
    split at h
    · obtain ⟨bs, e, h⟩ := h; exact ⟨bs, e, c _ h⟩
    · exact h.elim
def divmodP (ds : List D) (C : D → Prop) : Prop := match ds with
  | [.int i, .int j] => CDivP i j ∧ C (.tup [.int (i / j), .int (i % j)])
  | _ => False
@[simp] theorem divmodP_int {i j : Int} {C : D → Prop} : divmodP [.int i, .int j] C = (CDivP i j ∧ C (.tup [.int (i / j), .int (i % j)])) := rfl
def bdivmod : XB where
  r _ := bDivmod
  pre := divmodP
  ok h := by
    unfold divmodP at h
    split at h
    · exact wpB_divmod h.1 h.2
    · exact h.elim
  mono c h := by
    unfold divmodP at h ⊢
    split at h <;> first | exact h.elim | exact ⟨h.1, c _ h.2⟩
def srtP (ds : List D) (C : D → Prop) : Prop := match ds with
  | [d] => (∃ xs, seqOf d = some xs ∧ ∃ ns, intsOf xs = some ns ∧ C (.lst ((up ns).map .int))) ∨ ∃ p ps, d = .lst ((p :: ps).map SQ.pairD) ∧ C (.lst ((upP (p :: ps)).map SQ.pairD))
  | _ => False
@[simp] theorem srtP_tup {ns : List Int} {C : D → Prop} : srtP [.tup (ns.map D.int)] C = C (.lst ((up ns).map .int)) := by simp [srtP, seqOf]
@[simp] theorem srtP_lst {ns : List Int} {C : D → Prop} : srtP [.lst (ns.map D.int)] C = C (.lst ((up ns).map .int)) := by
  refine propext ⟨fun h => ?_, fun h => .inl (by simp [seqOf, h])⟩
  rcases h with h | ⟨p, ps, e, _⟩
  · simpa [seqOf] using h
  · cases ns <;> simp [SQ.pairD] at e
def bsrt : XB where
  r K := bSrt2 K
  pre := srtP
  ok h := by
    unfold srtP at h
    split at h
    · rename_i d
      rcases h with ⟨xs, e, ns, e2, h⟩ | ⟨p, ps, e, h⟩
      · have e2 := of_intsOf e2
        subst e2
        refine wpB_srt2 ?_
        cases d <;> first | (cases e; exact wpB_srtT h) | (cases e; exact wpB_srtL h) | cases e
      · subst e; exact wpB_srt2P h
    · exact h.elim
  mono c h := by
    unfold srtP at h ⊢
    split at h
    · rcases h with ⟨xs, e, ns, e2, h⟩ | ⟨p, ps, e, h⟩
      · exact .inl ⟨xs, e, ns, e2, c _ h⟩
      · exact .inr ⟨p, ps, e, c _ h⟩
    · exact h.elim
variable {G : Fr → Prop}
/-- sorted(.., reverse=True) -/
def srtR (a : XA G) : XO G where
  te K E := tCKw (bSrtR K) (a.te K E) (tCons (tC (.bl true)) tNil)
  pre B X ss C := a.pre B X ss fun ds => match ds with
    | [d] => ∃ xs, seqOf d = some xs ∧ ∃ ns, intsOf xs = some ns ∧ C ((down ns).map .int)
    | _ => False
  ok g h := wpO_srtR (wpA_mono (a.ok g h) fun ds h => by
    split at h
    · rename_i d
      obtain ⟨xs, e, ns, e2, h⟩ := h
      have e2 := of_intsOf e2
      subst e2
      refine ⟨ns, ?_, fun ns' p q => ?_⟩
      · cases d <;> first | (cases e; exact .inl rfl) | (cases e; exact .inr rfl) | cases e
      · rw [down_of p q]; exact h
    · exact h.elim)
  mono l x c h := a.mono l x (fun ds h => by
    split at h
    · obtain ⟨xs, e, ns, e2, h⟩ := h
      exact ⟨xs, e, ns, e2, c _ h⟩
    · exact h.elim) h
/-! ### types -/
def isiP (ds : List D) (C : D → Prop) : Prop := match ds with
  | [d, .ty m] => ∃ n, tyName d = some n ∧ ∃ b, kitB n m = some b ∧ C (.bl b)
  | _ => False
theorem isiP_ty {d : D} {m : String} {C : D → Prop} : isiP [d, .ty m] C = ∃ n, tyName d = some n ∧ ∃ b, kitB n m = some b ∧ C (.bl b) := rfl
def bisi : XB where
  r K := bIsi K
  pre := isiP
  ok h := by
    unfold isiP at h
    split at h
    · obtain ⟨n, e, b, e2, h⟩ := h; exact wpB_isi e e2 h
    · exact h.elim
  mono c h := by
    unfold isiP at h ⊢
    split at h
    · obtain ⟨n, e, b, e2, h⟩ := h; exact ⟨n, e, b, e2, c _ h⟩
    · exact h.elim
/-! ### shown -/
def reprP (ds : List D) (C : D → Prop) : Prop := match ds with
  | [d] => shw d = true ∧ C (.str (rp d).shown)
  | _ => False
@[simp] theorem reprP_one {d : D} {C : D → Prop} : reprP [d] C = (shw d = true ∧ C (.str (rp d).shown)) := rfl
def brepr : XB where
  r K := rReprA K
  pre := reprP
  ok h := by
    unfold reprP at h
    split at h
    · exact wpB_reprA h.1 h.2
    · exact h.elim
  mono c h := by
    unfold reprP at h ⊢
    split at h <;> first | exact h.elim | exact ⟨h.1, c _ h.2⟩
/-! ### slices -/
structure XPt (G : Fr → Prop) where
  te : Fr → XK → TO
  pre : Sc → XP → List Sl → (Option Int → Prop) → Prop
  ok : ∀ {K : Fr} {Γ : Cxt} {ss : List Sl} {C : Option Int → Prop}, G K → pre (sc Γ) Γ.X ss C → wpP K Γ (te K Γ.E) ss C
  mono : ∀ {B B' : Sc} {X X' : XP} {ss : List Sl} {C C' : Option Int → Prop}, Sc.le B B' → (∀ x, X x → X' x) → (∀ d, C d → C' d) → pre B X ss C → pre B' X' ss C'
def pno : XPt G := ⟨fun _ _ => tNoPart, fun _ _ _ C => C none, fun _ h => wpP_no h, fun _ _ c h => c _ h⟩
def psome (a : XE G) : XPt G where
  te K E := tPart (a.te K E)
  pre B X ss C := a.pre B X ss fun d => ∃ i, d = .int i ∧ C (some i)
  ok g h := wpP_some (a.ok g h)
  mono l x c h := a.mono l x (fun d h => by obtain ⟨i, e, h⟩ := h; exact ⟨i, e, c _ h⟩) h
theorem wpP_mono {K : Fr} {Γ : Cxt} {ss : List Sl} {te : TO} {C C' : Option Int → Prop} (h : wpP K Γ te ss C) (m : ∀ d, C d → C' d) : wpP K Γ te ss C' := fun H0 σ H τ hl I Q q => h H0 σ H τ hl I Q fun v H2 J c => q v H2 J (m v c)
def cutP (d : D) (lo hi : Option Int) (C : D → Prop) : Prop := match d with
  | .tup xs => C (.tup (cutD xs lo hi))
  | .lst xs => C (.lst (cutD xs lo hi))
  | _ => False
@[simp] theorem cutP_tup {xs : List D} {lo hi : Option Int} {C : D → Prop} : cutP (.tup xs) lo hi C = C (.tup (cutD xs lo hi)) := rfl
@[simp] theorem cutP_lst {xs : List D} {lo hi : Option Int} {C : D → Prop} : cutP (.lst xs) lo hi C = C (.lst (cutD xs lo hi)) := rfl
def slc (a : XE G) (lo hi : XPt G) : XE G where
  te K E := L2.tSl (rSlc K) (a.te K E) (lo.te K E) (hi.te K E)
  pre B X ss C := a.pre B X ss fun d => lo.pre B X ss fun i => hi.pre B X ss fun j => cutP d i j C
  ok g h := wpE_sl ((a.ok g h).mono fun d h => wpP_mono (lo.ok g h) fun i h => wpP_mono (hi.ok g h) fun j h => by
    unfold cutP at h
    split at h
    · exact wpC_T h
    · exact wpC_L h
    · exact h.elim)
  mono l x c h := a.mono l x (fun d h => lo.mono l x (fun i h => hi.mono l x (fun j h => by
    unfold cutP at h ⊢
    split at h <;> first | exact h.elim | exact c _ h) h) h) h
/-- xs[::-1] -/
def revL (a : XE G) : XO G where
  te K E := tRevL K (a.te K E)
  pre B X ss C := a.pre B X ss fun d => match d with
    | .lst xs => C xs.reverse
    | _ => False
  ok g h := wpO_revL ((a.ok g h).mono fun d h => by
    cases d <;> first | exact h.elim | exact ⟨_, rfl, h⟩)
  mono l x c h := a.mono l x (fun d h => by cases d <;> first | exact h.elim | exact c _ h) h
def revT (a : XE G) : XE G where
  te K E := tRevT K (a.te K E)
  pre B X ss C := a.pre B X ss fun d => match d with
    | .tup xs => C (.tup xs.reverse)
    | _ => False
  ok g h := wpE_revT ((a.ok g h).mono fun d h => by
    cases d <;> first | exact h.elim | exact ⟨_, rfl, h⟩)
  mono l x c h := a.mono l x (fun d h => by cases d <;> first | exact h.elim | exact c _ h) h
/-! ### dicts that are written -/
def dnew : XE G := ⟨fun _ _ => tDNewK, fun _ _ _ C => C (.dk [] []), fun _ h => wpE_dnew h, fun _ _ c h => c _ h⟩
def ddisp1 (i j : Int) : XE G := ⟨fun _ _ => tDisp [(tC (.int i), tC (.int j))], fun _ _ _ C => C (.dk [.inl i] [.int j]), fun _ h => wpE_disp1 h, fun _ _ c h => c _ h⟩
/-! ### lambdas that are told to the def that makes errors to values -/
def lamX (T0 : List (Addr × Str)) (outs : Fr → Value → Option Addr → Hp → VK → Prop) (oX : Exc → (D → Prop) → Prop) (hO : ∀ {K : Fr} {x : Exc} {C : D → Prop}, G K → oX x C → wpX K (outs K) x C) (mO : ∀ {x : Exc} {C C' : D → Prop}, (∀ d, C d → C' d) → oX x C → oX x C') (a : XE G) : XE G where
  te K E := LamX.tLam T0 (tOut (outs K)) fun E => a.te K E
  pre B X ss C := B.tb T0 ∧ ∀ B', Sc.le B B' → a.pre B' (fun x => oX x C) (deown ss) C
  ok g h := wpE_lam h.1 fun Γ' E l e1 e2 => by
    subst e1
    refine a.ok g ?_
    rw [e2]
    exact a.mono (le_refl _) (fun x h => hO g h) (fun d h => h) (h.2 _ l)
  mono l x c h := ⟨l.tb _ h.1, fun B' l' => a.mono (le_refl _) (fun x h => mO c h) c (h.2 B' ⟨fun p b => l'.b p (l.b p b), fun T t => l'.tb T (l.tb T t)⟩)⟩
/-! ### bowls -/
def FB : Sc → List D → (List D → Prop) → (Exc → Prop) → Prop := fun _ ds C _ => ∃ (ns : List Int) (i : Nat), ds = [.scr ns, .int i] ∧ i ≤ 1000 ∧ ∀ a b : Int, C [.int a, .int b, .int 0]
/-- f(bowl(script, at)) -/
def callBowl (f : XF) (a : XA G) : XE G where
  te K E := tCall (spF K f.F) [] E0 (tCons (tCall (spO K FB) [] E0 (a.te K E)) tNil)
  pre B X ss C := a.pre B X ss fun ds => (∃ (ns : List Int) (i : Nat), ds = [.scr ns, .int i] ∧ i ≤ 1000) ∧ ∀ (B' : Sc) (p : Addr), B' p → (∀ T, B.tb T → B'.tb T) → f.F B' [.cell p] C fun _ => False
  ok g h := wpE_callBowl (fun B B' ds C X m h => f.mono m (fun _ h => h) (fun _ h => h) h) (wpO_call0 (fun B B' ds C X m h => h) (wpA_mono (a.ok g h) fun ds h => by
    obtain ⟨⟨ns, i, e, hi⟩, h⟩ := h
    exact ⟨ns, i, e, hi, fun x y => ⟨⟨x, y, 0, rfl⟩, fun B p b t => h B p b t⟩⟩))
  mono l x c h := a.mono l x (fun ds h => ⟨h.1, fun B' p b t => f.mono (le_refl _) (fun _ h => h) c (h.2 B' p b fun T z => t T (l.tb T z))⟩) h
/-- b = bowl(script, at); the rest -/
def bowlS (i : Nat) (a : XA G) (s : XS G) : XS G where
  te K E := tSeq (tAsg (tCall (spO K FB) [] E0 (a.te K E)) (gName i)) (s.te K E)
  pre B X ss e := i < ss.length ∧ a.pre B X ss fun ds => (∃ (ns : List Int) (i : Nat), ds = [.scr ns, .int i] ∧ i ≤ 1000) ∧ ∀ (B' : Sc) (p : Addr), B' p → Sc.le B B' → s.pre B' X (ss.set i (.val (.cell p))) e
  ok g h := by
    refine wpS_seq (wpS_setO h.1 (wpO_call0 (fun B B' ds C X m h => h) (wpA_mono (a.ok g h.2) fun ds hh => ?_)))
    obtain ⟨⟨ns, k, e, hk⟩, hs⟩ := hh
    refine ⟨ns, k, e, hk, fun x y => ?_⟩
    refine wpS_bowl (i := i) (a := x) (b := y) (c := 0) (by simp [h.1]) fun p hp ok => ?_
    have := hs (sc (Cxt.add _ p)) p (bowl_new ok hp) ⟨fun q b => bowl_old hp b, fun T t => tb_add t⟩
    rw [List.set_set]
    exact s.ok g this
  mono l x m h := ⟨h.1, a.mono l x (fun ds h => ⟨h.1, fun B' p b t => s.mono (le_refl _) x m (h.2 B' p b ⟨fun q z => t.b q (l.b q z), fun T z => t.tb T (l.tb T z)⟩)⟩) h.2⟩
/-- a draw -/
def ladleF : XF where
  F B ds C _ := match ds with
    | [.cell p, .int n] => (B p ∧ 0 < n ∧ n < 2 ^ 200) ∧ ∀ r, 0 ≤ r → r < n → C (.int r)
    | _ => False
  mono l x c h := by
    split at h
    · exact ⟨⟨l.b _ h.1.1, h.1.2⟩, fun r a b => c _ (h.2 r a b)⟩
    · exact h.elim
end XQ
/-! own errors, what they are made to; targets within targets -/
namespace XQ
open PySem PySem.Spec PyProof.Rows L2 SQ
inductive XN where
  | sums | operation | number | many | table | web | tournament | filling | undo | parse | unknown | refused | command
  | cOrder | cTable | cWeb | cTour | cPress | cBench | cShell
deriving DecidableEq
structure Ve where
  cls : XN → Addr
  inj : ∀ a b, cls a = cls b → a = b
  names : List XN
  T0 : List (Addr × Str)
  insts : List XN
@[simp] theorem Ve.cls_eq (V : Ve) {a b : XN} : (V.cls a = V.cls b) = (a = b) := propext ⟨V.inj a b, fun h => by rw [h]⟩
/-- what is asked of a class, so that its instances' type is told -/
structure InsT (K : Fr) (C : Addr) : Prop where
  cl : Cls K C
  ha : PySem.W.findIn K (.ref C) "__class__" = some (some (.builtin "object.__class__"))
  hn : PySem.W.specialIn K (.builtin "object.__class__") "__get__" = some (some (.builtin "getset_descriptor.__get__"))
  htk : PySem.W.takesIn K (.builtin "object.__class__") = some true
  hm : PySem.W.mroIn K C (.type "object") = some true
def tyNames : List String := ["NoneType", "bool", "int", "str", "tuple", "list", "dict"]
structure Good (V : Ve) (K : Fr) : Prop where
  ins : ∀ a ∈ V.insts, InsT K (V.cls a)
  kit : ∀ a ∈ V.insts, ∀ b ∈ V.insts, PySem.W.kitOne K (.ref (V.cls a)) (.ref (V.cls b)) = some (decide (a = b))
  kty : ∀ b ∈ V.insts, ∀ n ∈ tyNames, PySem.W.kitOne K (.type n) (.ref (V.cls b)) = some false
  kbt : ∀ a ∈ V.insts, ∀ n ∈ tyNames, PySem.W.kitOne K (.ref (V.cls a)) (.type n) = some false
  ex : ∀ a b, a ∈ V.names → b ∈ V.names → PySem.W.exmOne K (.ref (V.cls a)) (.ref (V.cls b)) = some (decide (a = b))
abbrev Cl := XN × Option Str × Str
def clsL (V : Ve) (l : List Cl) : List Cls3 := l.map fun c => match c.2.1 with
  | none => ⟨.ref (V.cls c.1), none, fun _ _ _ => tRet (tLst (tCons (tC (.str c.2.2)) tNil))⟩
  | some fl => ⟨.ref (V.cls c.1), some 1, fun a cls d => tRet (tLst (tCons (tC (.str c.2.2)) (tCons (tBy1 (V.cls c.1) fl a cls d (tVar 1)) tNil)))⟩
def oX (V : Ve) : List Cl → Exc → (D → Prop) → Prop
  | [], _, _ => False
  | (n, f, w) :: r, x, C => if x.cls = V.cls n then (match f with
      | none => C (.lst [.str w])
      | some fl => match x.ns, x.ds with
        | [g], [v] => g = fl ∧ C (.lst [.str w, v])
        | _, _ => False) else oX V r x C
@[simp] theorem oX_cons {V : Ve} {n : XN} {f : Option Str} {w : Str} {r : List Cl} {x : Exc} {C : D → Prop} : oX V ((n, f, w) :: r) x C = if x.cls = V.cls n then (match f with
      | none => C (.lst [.str w])
      | some fl => match x.ns, x.ds with
        | [g], [v] => g = fl ∧ C (.lst [.str w, v])
        | _, _ => False) else oX V r x C := rfl
theorem oX_mono {V : Ve} : ∀ {l : List Cl} {x : Exc} {C C' : D → Prop}, (∀ d, C d → C' d) → oX V l x C → oX V l x C'
  | [], _, _, _, _, h => h
  | (n, f, w) :: r, x, C, C', c, h => by
    rw [oX_cons] at h ⊢
    split
    · rename_i z
      rw [if_pos z] at h
      cases f with
      | none => exact c _ h
      | some fl =>
        simp only at h ⊢
        split at h
        · exact ⟨h.1, c _ h.2⟩
        · exact h.elim
    · rename_i z
      rw [if_neg z] at h
      exact oX_mono c h
theorem oX_in {V : Ve} : ∀ {l : List Cl} {x : Exc} {C : D → Prop}, oX V l x C → ∃ c ∈ l, x.cls = V.cls c.1
  | [], _, _, h => h.elim
  | (n, f, w) :: r, x, C, h => by
    rw [oX_cons] at h
    split at h
    · rename_i z; exact ⟨_, List.mem_cons_self, z⟩
    · obtain ⟨c, m, e⟩ := oX_in h; exact ⟨c, List.mem_cons_of_mem _ m, e⟩
theorem oX_ok {V : Ve} {K : Fr} {l0 : List Cl} (hn : ∀ c ∈ l0, c.1 ∈ V.names) (g : Good V K) {x : Exc} {C : D → Prop} (h : oX V l0 x C) : wpX K (outsL K 2 (clsL V l0)) x C := fun S H cls d lv rx Q q σ hσ => by
  obtain ⟨c0, m0, e0⟩ := oX_in h
  have hm : c0.1 ∈ V.names := hn _ m0
  have ec : cls = .ref (V.cls c0.1) := by rw [← e0]; exact rx.1
  have key : ∀ l : List Cl, (∀ c ∈ l, c.1 ∈ V.names) → oX V l x C → wMix K (fun _ _ _ _ => False) { nx := fun _ H' => Q .non H', rt := Q } (clsL V l) cls d σ H := by
    intro l
    induction l with
    | nil => intro _ h; exact h.elim
    | cons c r ih =>
      intro hn h
      obtain ⟨n, f, w⟩ := c
      rw [oX_cons] at h
      have e1 := g.ex c0.1 n hm (hn _ List.mem_cons_self)
      by_cases hc : c0.1 = n
      · rw [if_pos (by rw [e0, hc])] at h
        refine ⟨true, ?_, fun _ a ha => ?_, fun h => absurd h (by decide)⟩
        · rw [ec]
          cases f <;> (show PySem.W.exmOne K _ (.ref (V.cls n)) = _; rw [e1, hc]; simp)
        · cases f with
          | none =>
            show tRet (tLst (tCons (tC (.str w)) tNil)) _ σ H
            refine suite_bare (C := C) lv q fun n => ?_
            walk_at "wk"
            exact h
          | some fl =>
            simp only at h
            split at h
            · rename_i g v hns hds
              obtain ⟨rfl, h⟩ := h
              exact suite_field (C := C) rfl (by omega) lv rx (by rw [e0, hc]) hns hds q h
            · exact h.elim
      · have hne : ¬ (x.cls = V.cls n) := by rw [e0, V.cls_eq]; exact hc
        rw [if_neg hne] at h
        refine ⟨false, ?_, fun h => absurd h (by decide), fun _ => ih (fun c m => hn c (List.mem_cons_of_mem _ m)) h⟩
        rw [ec]
        cases f <;> (show PySem.W.exmOne K _ (.ref (V.cls n)) = _; rw [e1]; simp [hc])
  exact key l0 hn h
/-- outcome(lambda: a) -/
def outc (V : Ve) (l : List Cl) (hn : ∀ c ∈ l, c.1 ∈ V.names) (a : XE (Good V)) : XE (Good V) :=
  lamX V.T0 (fun K => outsL K 2 (clsL V l)) (fun x C => oX V l x C) (fun g h => oX_ok hn g h) (fun c h => oX_mono c h) a
/-! ### targets -/
theorem wipe_more {σ τ : L2.St} {us vs : List Nat} (hl : σ.length = τ.length) (h : ∀ i ∈ us, i ∈ vs) (e : wipe σ us = wipe τ us) : wipe σ vs = wipe τ vs := by
  refine wipe_ext hl fun i hi => ?_
  have hu : i ∉ us := fun z => hi (h i z)
  rw [← wipe_notin hu, e, wipe_notin hu]
theorem wipeS_more {σ τ : List Sl} {us vs : List Nat} (hl : σ.length = τ.length) (h : ∀ i ∈ us, i ∈ vs) (e : wipeS σ us = wipeS τ us) : wipeS σ vs = wipeS τ vs := by
  refine wipeS_ext hl fun i hi => ?_
  have hu : i ∉ us := fun z => hi (h i z)
  rw [← wipeS_notin hu, e, wipeS_notin hu]
theorem wipe_len_of {σ τ : L2.St} {us : List Nat} (e : wipe σ us = wipe τ us) : σ.length = τ.length := by
  rw [← wipe_length σ us, e, wipe_length]
theorem wipeS_len_of {σ τ : List Sl} {us : List Nat} (e : wipeS σ us = wipeS τ us) : σ.length = τ.length := by
  rw [← wipeS_length σ us, e, wipeS_length]
def wpGs (K : Fr) (Γ : Cxt) (us : List Nat) (g : TGs) (ds : List D) (ss : List Sl) (C : List Sl → Prop) : Prop := ∀ H0 σ H τ xs, σ.length = ss.length → ds.length = xs.length → Env K Γ H0 H (pile ds xs ++ (ss.zip σ ++ τ)) →
  ∀ Q : L2.St → Hp → Prop, (∀ ss' σ' H', σ'.length = ss'.length → wipe σ' us = wipe σ us → wipeS ss' us = wipeS ss us → Env K Γ H0 H' (ss'.zip σ' ++ τ) → C ss' → Q σ' H') → g xs σ H Q
structure XGs where
  us : List Nat
  te : Fr → TGs
  pre : List D → List Sl → (List Sl → Prop) → Prop
  ok : ∀ {K : Fr} {Γ : Cxt} {d : List D} {ss : List Sl} {C : List Sl → Prop}, pre d ss C → wpGs K Γ us (te K) d ss C
  mono : ∀ {d : List D} {ss : List Sl} {C C' : List Sl → Prop}, (∀ s, C s → C' s) → pre d ss C → pre d ss C'
def gnil : XGs where
  us := []
  te _ := gNil
  pre d ss C := d = [] ∧ C ss
  ok h := by
    obtain ⟨rfl, c⟩ := h
    intro H0 σ H τ xs hl hx I Q q
    have : xs = [] := List.length_eq_zero_iff.mp hx.symm
    subst this
    exact ⟨rfl, q _ σ H hl rfl rfl I c⟩
  mono m h := ⟨h.1, m _ h.2⟩
def gcons (g : XG) (r : XGs) : XGs where
  us := g.us ++ r.us
  te K := gCons (g.te K) (r.te K)
  pre d ss C := match d with
    | x :: xs => g.pre x ss fun s2 => r.pre xs s2 C
    | [] => False
  ok h := by
    split at h
    · rename_i d x xs
      intro H0 σ H τ vs hl hx I Q q
      match vs, hx with
      | v :: vs, hx =>
        refine ⟨v, vs, rfl, ?_⟩
        have hx' : xs.length = vs.length := by simpa using hx
        have I2 : Env _ _ H0 H ((.val x, some v) :: (_ ++ (pile xs vs ++ τ))) := I.perm (by
          rw [pile_cons, List.cons_append]
          refine List.Perm.cons _ ?_
          rw [← List.append_assoc, ← List.append_assoc]
          exact List.perm_append_comm.append_right _)
        refine g.ok h H0 σ H (pile xs vs ++ τ) v hl I2 _ fun s2 σ2 H2 hl2 e1 e2 I3 h2 => ?_
        refine r.ok h2 H0 σ2 H2 τ vs hl2 hx' (I3.perm (by
          rw [← List.append_assoc, ← List.append_assoc]
          exact List.perm_append_comm.append_right _)) _ fun s3 σ3 H3 hl3 e3 e4 I4 c => ?_
        refine q s3 σ3 H3 hl3 ?_ ?_ I4 c
        · rw [wipe_more (wipe_len_of e3) (fun i hi => List.mem_append_right _ hi) e3, wipe_more (wipe_len_of e1) (fun i hi => List.mem_append_left _ hi) e1]
        · rw [wipeS_more (wipeS_len_of e4) (fun i hi => List.mem_append_right _ hi) e4, wipeS_more (wipeS_len_of e2) (fun i hi => List.mem_append_left _ hi) e2]
    · exact h.elim
  mono m h := by
    split at h
    · exact g.mono (fun s h => r.mono m h) h
    · exact h.elim
def gtup (n : Nat) (g : XGs) : XG where
  us := g.us
  te K := gSeq K n (g.te K)
  pre d ss C := match d with
    | .tup xs => xs.length = n ∧ g.pre xs ss C
    | _ => False
  ok h := by
    split at h
    · rename_i d xs
      refine wpG_seqT ?_
      intro H0 σ H τ x hl I Q q
      obtain ⟨a, vs, rfl, hq, r⟩ := I.val (d := .tup xs) List.mem_cons_self
      refine ⟨a, vs, rfl, hq, by rw [← r.length]; exact h.1, ?_⟩
      refine g.ok h.2 H0 σ H τ vs hl r.length ?_ Q q
      have J := I.drop
      have r2 : Reps _ (Out _ _) H xs vs := r.less fun a z => z.imp id fun z => by
        rw [owned_val]; exact z
      clear I hq h q
      induction xs generalizing vs with
      | nil =>
        have : vs = [] := r
        subst this
        exact J
      | cons y ys ih =>
        obtain ⟨w, ws, e, r1, r2'⟩ := r2
        subst e
        obtain ⟨w', ws', e', ra, rb⟩ := r
        cases e'
        refine (ih ws rb r2').push (r1.less fun a z => z.imp id fun z => ?_)
        rw [owned_app, owned_pile] at z
        exact z
    · exact h.elim
  mono m h := by
    split at h
    · exact ⟨h.1, g.mono m h.2⟩
    · exact h.elim
end XQ
/-! further texts -/
namespace XQ
open PySem PySem.Spec PyProof.Rows L2 SQ
variable {G : Fr → Prop}
/-! ### in lists and tuples -/
def rInA (K : Fr) (neg : Bool) : R2 := fun x y H Q => ∃ d e ds, Dp K H x d ∧ Dp K H y e ∧ (e = .list ds ∨ e = .tuple ds) ∧ SeqAt.shaped d = true ∧ SeqAt.shaped e = true ∧ Q (.bl (if neg = true then !ds.any fun z => PyData.eqv z d else ds.any fun z => PyData.eqv z d)) H
theorem depth_le {ds : List PyData} {e : PyData} (h : e = .list ds ∨ e = .tuple ds) (s : SeqAt.shaped e = true) : PyData.canLayAll0 ds = true := by
  rcases h with rfl | rfl <;> exact SeqAt.canLay_of_shaped s
theorem op_inK {X : Cx} {K : Fr} {k : Nat} (hr : Room k X.A) (h : X.K = K := by rfl) : OpR X (compareOp .In) (rInA K false) := by
  subst h
  intro pins s σ H x y v u Q I rx ry h
  obtain ⟨d, e, ds, hd, he, hh, sd, se, q⟩ := h
  have hu : X.A.units + 65 < cLine := by have := hr.un; omega
  obtain ⟨as, r1⟩ := Dp.reads I d x v hd rx
  obtain ⟨bs, r2⟩ := Dp.reads I e y u he ry
  have hl := depth_le hh se
  rcases hh with rfl | rfl
  · exact SeqAt.in_list_reads r2 r1 hl (SeqAt.canLay_of_shaped sd) (room_in_shaped sd hu) ⟨.bl _, H, I, rfl, q⟩
  · exact SeqAt.in_tuple_reads r2 r1 hl (SeqAt.canLay_of_shaped sd) (room_in_shaped sd hu) ⟨.bl _, H, I, rfl, q⟩
def inA (neg : Bool) (x y : D) (C : D → Prop) : Prop := ∃ ys, seqOf y = some ys ∧ (pyk 64 x = true ∧ pyks 63 ys = true) ∧ C (.bl (if neg = true then !ys.any fun z => eqD z x else ys.any fun z => eqD z x))
@[simp] theorem inA_lst {neg : Bool} {x : D} {ys : List D} {C : D → Prop} : inA neg x (.lst ys) C = ((pyk 64 x = true ∧ pyks 63 ys = true) ∧ C (.bl (if neg = true then !ys.any fun z => eqD z x else ys.any fun z => eqD z x))) := by simp [inA, seqOf]
@[simp] theorem inA_tup {neg : Bool} {x : D} {ys : List D} {C : D → Prop} : inA neg x (.tup ys) C = ((pyk 64 x = true ∧ pyks 63 ys = true) ∧ C (.bl (if neg = true then !ys.any fun z => eqD z x else ys.any fun z => eqD z x))) := by simp [inA, seqOf]
def rinA (neg : Bool) : XR where
  r K := rInA K neg
  pre := inA neg
  ok h := by
    rename_i x y C
    obtain ⟨ys, e, ⟨h1, h2⟩, c⟩ := h
    intro S H v w lv rx ry Q q
    have hy : pyk 64 y = true := by cases y <;> first | (cases e; done) | (cases e; exact h2)
    refine ⟨_, _, pys ys, Rep.dp 64 _ _ h1 rx, Rep.dp 64 _ _ hy ry, ?_, py_shaped h1, py_shaped hy, ?_⟩
    · cases y <;> first | (cases e; done) | (cases e; exact .inl rfl) | (cases e; exact .inr rfl)
    · rw [any_pys]
      exact q _ (.bl _) H (Ext.refl H) rfl c
  mono c h := by
    obtain ⟨ys, e, hh, h⟩ := h
    exact ⟨ys, e, hh, c _ h⟩
/-! ### signs, new lists -/
def neg (a : XE G) : XE G where
  te K E := tUn (rU fun i => .int (-i)) (a.te K E)
  pre B X ss C := a.pre B X ss fun d => match d with
    | .int i => C (.int (-i))
    | _ => False
  ok g h := wpE_un ((a.ok g h).mono fun d h => by
    cases d <;> first | exact h.elim | exact wpU_int (f := fun i => -i) h)
  mono l x c h := a.mono l x (fun d h => by cases d <;> first | exact h.elim | exact c _ h) h
structure XRO where
  r : Fr → R2
  pre : D → D → (List D → Prop) → Prop
  ok : ∀ {K : Fr} {x y : D} {C : List D → Prop}, pre x y C → wpRO K (r K) x y C
  mono : ∀ {x y : D} {C C' : List D → Prop}, (∀ d, C d → C' d) → pre x y C → pre x y C'
def opO (r : XRO) (a b : XE G) : XO G where
  te K E := tOp (r.r K) (a.te K E) (b.te K E)
  pre B X ss C := a.pre B X ss fun x => b.pre B X ss fun y => r.pre x y C
  ok g h := wpO_op ((a.ok g h).mono fun x h => (b.ok g h).mono fun y h => r.ok h)
  mono l x c h := a.mono l x (fun d h => b.mono l x (fun d h => r.mono c h) h) h
def addO (x y : D) (C : List D → Prop) : Prop := match x, y with
  | .lst xs, .lst ys => xs.length + ys.length ≤ 100000 ∧ C (xs ++ ys)
  | _, _ => False
@[simp] theorem addO_lst {xs ys : List D} {C : List D → Prop} : addO (.lst xs) (.lst ys) C = (xs.length + ys.length ≤ 100000 ∧ C (xs ++ ys)) := rfl
def raddO : XRO where
  r K := rAddA K
  pre := addO
  ok h := by
    unfold addO at h
    split at h
    · exact wpRO_addL h.1 h.2
    · exact h.elim
  mono c h := by
    unfold addO at h ⊢
    split at h <;> first | exact h.elim | exact ⟨h.1, c _ h.2⟩
def mulO (x y : D) (C : List D → Prop) : Prop := match x, y with
  | .lst xs, .int j => ((0 ≤ j ∧ j ≤ 100000) ∧ xs.length * j.toNat ≤ 100000) ∧ C (List.replicate j.toNat xs).flatten
  | _, _ => False
@[simp] theorem mulO_lst {xs : List D} {j : Int} {C : List D → Prop} : mulO (.lst xs) (.int j) C = (((0 ≤ j ∧ j ≤ 100000) ∧ xs.length * j.toNat ≤ 100000) ∧ C (List.replicate j.toNat xs).flatten) := rfl
def rmulO : XRO where
  r K := rMulA K
  pre := mulO
  ok h := by
    unfold mulO at h
    split at h
    · exact wpRO_mulL h.1.1 h.1.2 h.2
    · exact h.elim
  mono c h := by
    unfold mulO at h ⊢
    split at h <;> first | exact h.elim | exact ⟨h.1, c _ h.2⟩
theorem reps_rng {K : Fr} {S : Addr → Prop} {H : Hp} (a b : Int) : Reps K S H (rngD a (b - a).toNat) (rgV a b) := by
  have e : rngD a (b - a).toNat = ((List.range (b - a).toNat).map fun i : Nat => a + (i : Int)).map D.int := by
    unfold rngD; rw [List.map_map]; rfl
  have e2 : rgV a b = ((List.range (b - a).toNat).map fun i : Nat => a + (i : Int)).map V.int := by
    unfold rgV; rw [List.map_map]; rfl
  rw [e, e2]
  exact Reps.ints.mpr rfl
/-- list(range(n)) -/
def lstRg (a : XE G) : XO G where
  te K E := tLstRg (tRg1 (a.te K E))
  pre B X ss C := a.pre B X ss fun d => match d with
    | .int n => RgOk 0 n ∧ C (rngD 0 n.toNat)
    | _ => False
  ok g h := fun H0 σ H τ hl I Q q => a.ok g h H0 σ H τ hl I _ fun v d H2 J c => by
    cases d with
    | int n =>
      have rv : v = .int n := J.val List.mem_cons_self
      refine ⟨n, rv, c.1, fun p hp => ?_⟩
      refine q p (rngD 0 n.toNat) _ (J.drop.pushO hp ?_) c.2
      have e : rngD 0 n.toNat = rngD 0 (n - 0).toNat := by rw [Int.sub_zero]
      rw [e]
      exact reps_rng 0 n
    | _ => exact c.elim
  mono l x c h := a.mono l x (fun d h => by cases d <;> first | exact h.elim | exact ⟨h.1, c _ h.2⟩) h
def lstRg2 (a b : XE G) : XO G where
  te K E := tLstRg (tRg2 (a.te K E) (b.te K E))
  pre B X ss C := a.pre B X ss fun x => b.pre B X ss fun y => match x, y with
    | .int i, .int j => RgOk i j ∧ C (rngD i (j - i).toNat)
    | _, _ => False
  ok g h := fun H0 σ H τ hl I Q q => a.ok g h H0 σ H τ hl I _ fun v d H2 J c => b.ok g c H0 σ H2 ((.val d, some v) :: τ) hl (J.perm List.perm_middle.symm) _ fun w e H3 J3 c3 => by
    split at c3
    · rename_i i j
      have rv : v = .int i := J3.val (List.mem_cons_of_mem _ (List.mem_append_right _ List.mem_cons_self))
      have rw' : w = .int j := J3.val List.mem_cons_self
      refine ⟨i, j, rv, rw', c3.1, fun p hp => ?_⟩
      have J4 := (J3.drop.perm List.perm_middle).drop
      exact q p _ _ (J4.pushO hp (reps_rng i j)) c3.2
    · exact c3.elim
  mono l x c h := a.mono l x (fun d h => b.mono l x (fun e h => by
    split at h
    · exact ⟨h.1, c _ h.2⟩
    · exact h.elim) h) h
/-! ### own lists -/
theorem wpS_ext {K : Fr} {Γ : Cxt} {ss : List Sl} {e : En} {te : TE} {xs : List D} {i : Nat} (h : ss[i]? = some (.own xs)) (h1 : wpE K Γ te ss fun d => ∃ zs, d = .lst zs ∧ xs.length + zs.length ≤ 100000 ∧ e.nx (ss.set i (.own (xs ++ zs)))) :
    wpS K Γ (tDrop (tBM K "list" rExtend (tVar i) (tCons te tNil))) ss e := fun H0 σ H τ D hl I k => by
  obtain ⟨a, ha, _⟩ := Env.ownAt (qs := []) hl h I
  obtain ⟨vs0, hv0, _⟩ := I.own (a := a) (xs := xs) (List.mem_append_left _ (zip_get h ha))
  refine ⟨.ref a, ha, .inl ⟨rfl, vs0, .inl (.inl hv0)⟩, h1 H0 σ H τ hl I _ fun v d H2 J c => ?_⟩
  obtain ⟨zs, rfl, hz, c⟩ := c
  obtain ⟨vs, hv, rv⟩ := J.drop.own (a := a) (xs := xs) (List.mem_append_left _ (zip_get h ha))
  obtain ⟨b, ws, rfl, nb, hb, rb⟩ := J.val List.mem_cons_self
  refine ⟨a, b, vs, ws, rfl, rfl, hv, hb, Nat.le_trans (by rw [← rv.length, ← rb.length]; exact hz) (by decide), ?_⟩
  refine k.nx _ σ _ (by simp [hl]) (Env.ownSet hl h ha J.drop (rv.app ?_)) c
  exact rb.less fun c z => z
def ext (i : Nat) (a : XE G) : XS G where
  te K E := tDrop (tBM K "list" rExtend (tVar i) (tCons (a.te K E) tNil))
  pre B X ss e := getO ss i fun xs => a.pre B X ss fun d => match d with
    | .lst zs => xs.length + zs.length ≤ 100000 ∧ e.nx (ss.set i (.own (xs ++ zs)))
    | _ => False
  ok g h := by
    obtain ⟨xs, e, h⟩ := getO_at h
    exact wpS_ext e ((a.ok g h).mono fun d h => by cases d <;> first | exact h.elim | exact ⟨_, rfl, h⟩)
  mono l x m h := getO_mono (fun _ h => a.mono l x (fun d h => by cases d <;> first | exact h.elim | exact ⟨h.1, m.nx _ h.2⟩) h) h
/-- x = xs.pop() -/
theorem wpS_popSet {K : Fr} {Γ : Cxt} {ss : List Sl} {e : En} {xs : List D} {i j : Nat} (h : ss[i]? = some (.own xs)) (hj : j < ss.length) (hij : i ≠ j) {d : D} (hx : xs.getLast? = some d) (c : e.nx ((ss.set i (.own xs.dropLast)).set j (.val d))) :
    wpS K Γ (tAsg (tBM0 K "list" rPop (tVar i)) (gName j)) ss e := fun H0 σ H τ D hl I k => by
  obtain ⟨a, ha, _⟩ := Env.ownAt (qs := []) hl h I
  obtain ⟨vs, hv, rv⟩ := I.own (a := a) (xs := xs) (List.mem_append_left _ (zip_get h ha))
  have hne : xs ≠ [] := by intro q; subst q; simp at hx
  have hd : xs[xs.length - 1]? = some d := by rw [← List.getLast?_eq_getElem?]; exact hx
  obtain ⟨y, hy, ry⟩ := rv.get hd
  refine ⟨.ref a, ha, .inl ⟨rfl, vs, .inl (.inl hv)⟩, a, vs, y, rfl, rfl, hv, by rw [← rv.length]; exact hy, ?_⟩
  have rt : Reps K (Out Γ (ss.zip σ ++ τ)) H xs.dropLast vs.dropLast := by
    rw [List.dropLast_eq_take, List.dropLast_eq_take, ← rv.length]
    exact Reps.take _ rv
  have J := (I.push (d := d) (v := y) ry)
  have J1 : Env K Γ H0 H (ss.zip σ ++ ((.val d, some y) :: τ)) := J.perm List.perm_middle.symm
  have rt' : Reps K (Out Γ (ss.zip σ ++ ((.val d, some y) :: τ))) H xs.dropLast vs.dropLast := rt.less fun b z => z.imp id fun z => by
    rw [owned_app] at z ⊢
    exact z
  have J2 := Env.ownSet hl h ha J1 rt'
  have J3 : Env K Γ H0 _ ((.val d, some y) :: ((ss.set i (.own xs.dropLast)).zip σ ++ τ)) := J2.perm List.perm_middle
  have J4 := J3.store (i := j) (by simp [hl]) (by simp; exact hj)
  exact k.nx _ _ _ (by simp [hl]) J4 c
def popSet (i j : Nat) : XS G where
  te K _ := tAsg (tBM0 K "list" rPop (tVar i)) (gName j)
  pre _ _ ss e := getO ss i fun xs => i ≠ j ∧ j < ss.length ∧ ∃ d, xs.getLast? = some d ∧ e.nx ((ss.set i (.own xs.dropLast)).set j (.val d))
  ok g h := by obtain ⟨xs, e, h1, h2, d, h3, h⟩ := getO_at h; exact wpS_popSet e h2 h1 h3 h
  mono l x m h := getO_mono (fun _ h => by obtain ⟨h1, h2, d, h3, h⟩ := h; exact ⟨h1, h2, d, h3, m.nx _ h⟩) h
/-! ### parallel stores of new lists -/
def parOE (i j : Nat) (a : XO G) (b : XE G) : XS G where
  te K E := tPar i j (tCons (a.te K E) (tCons (b.te K E) tNil))
  pre B X ss e := i < ss.length ∧ j < ss.length ∧ a.pre B X ss fun xs => b.pre B X ss fun y => e.nx ((ss.set i (.own xs)).set j (.val y))
  ok g h := wpS_parO h.1 h.2.1 (wpO_mono (a.ok g h.2.2) fun xs h => b.ok g h)
  mono l x m h := ⟨h.1, h.2.1, a.mono l x (fun d h => b.mono l x (fun d h => m.nx _ h) h) h.2.2⟩
theorem wpS_parEO {K : Fr} {Γ : Cxt} {ss : List Sl} {e : En} {te tb : TE} {i j : Nat} (hi : i < ss.length) (hj : j < ss.length) (h : wpE K Γ te ss fun x => wpO K Γ tb ss fun ys => e.nx ((ss.set i (.val x)).set j (.own ys))) : wpS K Γ (tPar i j (tCons te (tCons tb tNil))) ss e := fun H0 σ H τ D hl I k =>
  h H0 σ H τ hl I _ fun v d H1 J1 h1 => h1 H0 σ H1 ((.val d, some v) :: τ) hl (J1.perm List.perm_middle.symm) _ fun a ys H2 J2 c => by
    have J3 : Env K Γ H0 H2 ((.val d, some v) :: (ss.zip σ ++ ((.own ys, some (.ref a)) :: τ))) := by
      refine J2.perm ?_
      refine (List.Perm.cons _ List.perm_middle).trans ((List.Perm.swap _ _ _).trans (List.Perm.cons _ ?_))
      exact List.perm_middle.symm
    have J4 := J3.store hl hi
    have J5 := (J4.perm (List.perm_middle (l₁ := (ss.set i (.val d)).zip (σ.set i (some v))))).store (i := j) (by simp [hl]) (by simpa using hj)
    exact ⟨_, _, rfl, k.nx _ _ H2 (by simp [hl]) J5 c⟩
def parEO (i j : Nat) (a : XE G) (b : XO G) : XS G where
  te K E := tPar i j (tCons (a.te K E) (tCons (b.te K E) tNil))
  pre B X ss e := i < ss.length ∧ j < ss.length ∧ a.pre B X ss fun x => b.pre B X ss fun ys => e.nx ((ss.set i (.val x)).set j (.own ys))
  ok g h := wpS_parEO h.1 h.2.1 ((a.ok g h.2.2).mono fun xs h => b.ok g h)
  mono l x m h := ⟨h.1, h.2.1, a.mono l x (fun d h => b.mono l x (fun d h => m.nx _ h) h) h.2.2⟩
theorem wpS_parOO {K : Fr} {Γ : Cxt} {ss : List Sl} {e : En} {te tb : TE} {i j : Nat} (hi : i < ss.length) (hj : j < ss.length) (h : wpO K Γ te ss fun xs => wpO K Γ tb ss fun ys => e.nx ((ss.set i (.own xs)).set j (.own ys))) : wpS K Γ (tPar i j (tCons te (tCons tb tNil))) ss e := fun H0 σ H τ D hl I k =>
  h H0 σ H τ hl I _ fun v d H1 J1 h1 => h1 H0 σ H1 ((.own d, some (.ref v)) :: τ) hl (J1.perm List.perm_middle.symm) _ fun a ys H2 J2 c => by
    have J3 : Env K Γ H0 H2 ((.own d, some (.ref v)) :: (ss.zip σ ++ ((.own ys, some (.ref a)) :: τ))) := by
      refine J2.perm ?_
      refine (List.Perm.cons _ List.perm_middle).trans ((List.Perm.swap _ _ _).trans (List.Perm.cons _ ?_))
      exact List.perm_middle.symm
    have J4 := J3.store hl hi
    have J5 := (J4.perm (List.perm_middle (l₁ := (ss.set i (.own d)).zip (σ.set i (some (.ref v)))))).store (i := j) (by simp [hl]) (by simpa using hj)
    exact ⟨_, _, rfl, k.nx _ _ H2 (by simp [hl]) J5 c⟩
def parOO (i j : Nat) (a : XO G) (b : XO G) : XS G where
  te K E := tPar i j (tCons (a.te K E) (tCons (b.te K E) tNil))
  pre B X ss e := i < ss.length ∧ j < ss.length ∧ a.pre B X ss fun x => b.pre B X ss fun ys => e.nx ((ss.set i (.own x)).set j (.own ys))
  ok g h := wpS_parOO h.1 h.2.1 (wpO_mono (a.ok g h.2.2) fun xs h => b.ok g h)
  mono l x m h := ⟨h.1, h.2.1, a.mono l x (fun d h => b.mono l x (fun d h => m.nx _ h) h) h.2.2⟩
theorem wpS_par3 {K : Fr} {Γ : Cxt} {ss : List Sl} {e : En} {tx : TA} {i j k : Nat} (hi : i < ss.length) (hj : j < ss.length) (hk : k < ss.length) (h : wpA K Γ tx ss fun ds => ∃ x y z, ds = [x, y, z] ∧ e.nx (((ss.set i (.val x)).set j (.val y)).set k (.val z))) : wpS K Γ (tPar3 i j k tx) ss e := fun H0 σ H τ D hl I q =>
  h H0 σ H τ hl I _ fun vs ds H2 hd J c => by
    obtain ⟨x, y, z, rfl, c⟩ := c
    match vs, hd with
    | [u, v, w], _ =>
      refine ⟨u, v, w, rfl, ?_⟩
      have J1 : Env K Γ H0 H2 ((.val x, some u) :: (.val y, some v) :: (.val z, some w) :: (ss.zip σ ++ τ)) := J
      have J2 : Env K Γ H0 H2 ((.val x, some u) :: (ss.zip σ ++ ((.val y, some v) :: (.val z, some w) :: τ))) := J1.perm (by
        refine List.Perm.cons _ ?_
        have p1 : ((Sl.val z, some w) :: (ss.zip σ ++ τ)).Perm (ss.zip σ ++ ((Sl.val z, some w) :: τ)) := List.perm_middle.symm
        exact (p1.cons _).trans List.perm_middle.symm)
      have J3 := (Env.store hl hi J2).perm List.perm_middle
      have J4 := (Env.store (i := j) (by simp [hl]) (by simpa using hj) J3).perm List.perm_middle
      exact q.nx _ _ H2 (by simp [hl]) (Env.store (i := k) (by simp [hl]) (by simpa using hk) J4) c
def par3 (i j k : Nat) (a : XA G) : XS G where
  te K E := tPar3 i j k (a.te K E)
  pre B X ss e := i < ss.length ∧ j < ss.length ∧ k < ss.length ∧ a.pre B X ss fun ds => match ds with
    | [x, y, z] => e.nx (((ss.set i (.val x)).set j (.val y)).set k (.val z))
    | _ => False
  ok g h := wpS_par3 h.1 h.2.1 h.2.2.1 (wpA_mono (a.ok g h.2.2.2) fun ds h => by
    split at h
    · exact ⟨_, _, _, rfl, h⟩
    · exact h.elim)
  mono l x m h := ⟨h.1, h.2.1, h.2.2.1, a.mono l x (fun ds h => by
    split at h
    · exact m.nx _ h
    · exact h.elim) h.2.2.2⟩
/-! ### a, b, c = values and new lists in any mix -/
def wpSl (K : Fr) (Γ : Cxt) (te : TE) (ss : List Sl) (C : Sl → Prop) : Prop := ∀ H0 σ H τ, σ.length = ss.length → Env K Γ H0 H (ss.zip σ ++ τ) → ∀ Q : VK, (∀ v s H2, Env K Γ H0 H2 ((s, some v) :: (ss.zip σ ++ τ)) → C s → Q v H2) → te σ H Q
theorem wpSl_mono {K : Fr} {Γ : Cxt} {te : TE} {ss : List Sl} {C C' : Sl → Prop} (h : wpSl K Γ te ss C) (m : ∀ s, C s → C' s) : wpSl K Γ te ss C' := fun H0 σ H τ hl I Q q => h H0 σ H τ hl I Q fun v s H2 J c => q v s H2 J (m s c)
structure XL (G : Fr → Prop) where
  te : Fr → XK → TE
  pre : Sc → XP → List Sl → (Sl → Prop) → Prop
  ok : ∀ {K : Fr} {Γ : Cxt} {ss : List Sl} {C : Sl → Prop}, G K → pre (sc Γ) Γ.X ss C → wpSl K Γ (te K Γ.E) ss C
  mono : ∀ {B B' : Sc} {X X' : XP} {ss : List Sl} {C C' : Sl → Prop}, Sc.le B B' → (∀ x, X x → X' x) → (∀ d, C d → C' d) → pre B X ss C → pre B' X' ss C'
def xv (a : XE G) : XL G where
  te := a.te
  pre B X ss C := a.pre B X ss fun d => C (.val d)
  ok g h := fun H0 σ H τ hl I Q q => a.ok g h H0 σ H τ hl I Q fun v d H2 J c => q v (.val d) H2 J c
  mono l x c h := a.mono l x (fun d h => c _ h) h
def xo (a : XO G) : XL G where
  te := a.te
  pre B X ss C := a.pre B X ss fun d => C (.own d)
  ok g h := fun H0 σ H τ hl I Q q => a.ok g h H0 σ H τ hl I Q fun v d H2 J c => q (.ref v) (.own d) H2 J c
  mono l x c h := a.mono l x (fun d h => c _ h) h
theorem wpS_par3s {K : Fr} {Γ : Cxt} {ss : List Sl} {e : En} {t1 t2 t3 : TE} {i j k : Nat} (hi : i < ss.length) (hj : j < ss.length) (hk : k < ss.length) (h : wpSl K Γ t1 ss fun x => wpSl K Γ t2 ss fun y => wpSl K Γ t3 ss fun z => e.nx (((ss.set i x).set j y).set k z)) : wpS K Γ (tPar3 i j k (tCons t1 (tCons t2 (tCons t3 tNil)))) ss e := fun H0 σ H τ D hl I q =>
  h H0 σ H τ hl I _ fun u x H1 J1 h1 => h1 H0 σ H1 ((x, some u) :: τ) hl (J1.perm List.perm_middle.symm) _ fun v y H2 J2 h2 =>
    h2 H0 σ H2 ((y, some v) :: (x, some u) :: τ) hl (J2.perm List.perm_middle.symm) _ fun w z H3 J3 c => by
      refine ⟨u, v, w, rfl, ?_⟩
      have J0 : Env K Γ H0 H3 ((x, some u) :: (ss.zip σ ++ ((y, some v) :: (z, some w) :: τ))) := by
        refine J3.perm ?_
        have a1 : ((z, some w) :: (ss.zip σ ++ ((y, some v) :: (x, some u) :: τ))).Perm ((z, some w) :: (y, some v) :: (x, some u) :: (ss.zip σ ++ τ)) := by
          refine List.Perm.cons _ (List.perm_middle.trans (List.Perm.cons _ List.perm_middle))
        have a2 : ((x, some u) :: (ss.zip σ ++ ((y, some v) :: (z, some w) :: τ))).Perm ((x, some u) :: (y, some v) :: (z, some w) :: (ss.zip σ ++ τ)) := by
          refine List.Perm.cons _ (List.perm_middle.trans (List.Perm.cons _ List.perm_middle))
        refine a1.trans (List.Perm.trans ?_ a2.symm)
        refine (List.Perm.swap _ _ _).trans ?_
        refine (List.Perm.cons _ (List.Perm.swap _ _ _)).trans ?_
        exact List.Perm.swap _ _ _
      have J3 := (Env.store hl hi J0).perm List.perm_middle
      have J4 := (Env.store (i := j) (by simp [hl]) (by simpa using hj) J3).perm List.perm_middle
      exact q.nx _ _ H3 (by simp [hl]) (Env.store (i := k) (by simp [hl]) (by simpa using hk) J4) c
def par3s (i j k : Nat) (a b c : XL G) : XS G where
  te K E := tPar3 i j k (tCons (a.te K E) (tCons (b.te K E) (tCons (c.te K E) tNil)))
  pre B X ss e := i < ss.length ∧ j < ss.length ∧ k < ss.length ∧ a.pre B X ss fun x => b.pre B X ss fun y => c.pre B X ss fun z => e.nx (((ss.set i x).set j y).set k z)
  ok g h := wpS_par3s h.1 h.2.1 h.2.2.1 (wpSl_mono (a.ok g h.2.2.2) fun x h => wpSl_mono (b.ok g h) fun y h => c.ok g h)
  mono l x m h := ⟨h.1, h.2.1, h.2.2.1, a.mono l x (fun d h => b.mono l x (fun d h => c.mono l x (fun d h => m.nx _ h) h) h) h.2.2.2⟩
/-! ### max, min -/
theorem wpB_minL {K : Fr} {ns : List Int} {C : D → Prop} (hn : 0 < ns.length) (k : ∀ m, m ∈ ns → (∀ y, y ∈ ns → m ≤ y) → C (.int m)) : wpB K (bMin K) [.lst (ns.map D.int)] C := fun S H vs l r Q q => by
  obtain ⟨v, ws, rfl, ⟨a, us, rfl, _, t, r⟩, z⟩ := r
  have z : ws = [] := z
  subst z
  have e : us = ns.map V.int := Reps.ints.mp r
  subst e
  exact .inr ⟨a, ns, rfl, .inl (.inl t), hn, fun m h1 h2 => q _ (.int m) H (Ext.refl H) rfl (k m h1 h2)⟩
def top (ns : List Int) : Int := ns.foldl max (ns.headD 0)
def bot (ns : List Int) : Int := ns.foldl min (ns.headD 0)
theorem foldl_max (ns : List Int) : ∀ m : Int, m ≤ ns.foldl max m ∧ (∀ n ∈ ns, n ≤ ns.foldl max m) ∧ (ns.foldl max m = m ∨ ns.foldl max m ∈ ns) := by
  induction ns with
  | nil => intro m; simp
  | cons n r ih =>
    intro m
    obtain ⟨h1, h2, h3⟩ := ih (max m n)
    simp only [List.foldl_cons, List.mem_cons, forall_eq_or_imp]
    refine ⟨by omega, ⟨by omega, h2⟩, ?_⟩
    rcases h3 with h3 | h3
    · rw [h3]
      rcases Int.le_total m n with q | q
      · right; left; omega
      · left; omega
    · right; right; exact h3
theorem foldl_min (ns : List Int) : ∀ m : Int, ns.foldl min m ≤ m ∧ (∀ n ∈ ns, ns.foldl min m ≤ n) ∧ (ns.foldl min m = m ∨ ns.foldl min m ∈ ns) := by
  induction ns with
  | nil => intro m; simp
  | cons n r ih =>
    intro m
    obtain ⟨h1, h2, h3⟩ := ih (min m n)
    simp only [List.foldl_cons, List.mem_cons, forall_eq_or_imp]
    refine ⟨by omega, ⟨by omega, h2⟩, ?_⟩
    rcases h3 with h3 | h3
    · rw [h3]
      rcases Int.le_total m n with q | q
      · left; omega
      · right; left; omega
    · right; right; exact h3
theorem top_mem {ns : List Int} (h : ns ≠ []) : top ns ∈ ns := by
  cases ns with
  | nil => exact absurd rfl h
  | cons n r =>
    obtain ⟨h1, h2, h3⟩ := foldl_max (n :: r) n
    rcases h3 with h3 | h3
    · show (n :: r).foldl max n ∈ _
      rw [h3]; exact List.mem_cons_self
    · exact h3
theorem le_top {ns : List Int} {n : Int} (h : n ∈ ns) : n ≤ top ns := (foldl_max ns _).2.1 n h
theorem bot_mem {ns : List Int} (h : ns ≠ []) : bot ns ∈ ns := by
  cases ns with
  | nil => exact absurd rfl h
  | cons n r =>
    obtain ⟨h1, h2, h3⟩ := foldl_min (n :: r) n
    rcases h3 with h3 | h3
    · show (n :: r).foldl min n ∈ _
      rw [h3]; exact List.mem_cons_self
    · exact h3
theorem bot_le {ns : List Int} {n : Int} (h : n ∈ ns) : bot ns ≤ n := (foldl_min ns _).2.1 n h
theorem top_of {ns : List Int} {m : Int} (h1 : m ∈ ns) (h2 : ∀ y, y ∈ ns → y ≤ m) : m = top ns := by
  have a := le_top h1
  have b := h2 _ (top_mem (List.ne_nil_of_mem h1))
  omega
theorem bot_of {ns : List Int} {m : Int} (h1 : m ∈ ns) (h2 : ∀ y, y ∈ ns → m ≤ y) : m = bot ns := by
  have a := bot_le h1
  have b := h2 _ (bot_mem (List.ne_nil_of_mem h1))
  omega
def maxP (ds : List D) (C : D → Prop) : Prop := match ds with
  | [.int i, .int j] => C (.int (max i j))
  | [.int i, .int j, .int k] => C (.int (max (max i j) k))
  | [.lst xs] => ∃ ns, intsOf xs = some ns ∧ 0 < ns.length ∧ C (.int (top ns))
  | [.tup xs] => ∃ ns, intsOf xs = some ns ∧ 0 < ns.length ∧ C (.int (top ns))
  | _ => False
@[simp] theorem maxP_int3 {i j k : Int} {C : D → Prop} : maxP [.int i, .int j, .int k] C = C (.int (max (max i j) k)) := rfl
@[simp] theorem maxP_tup {ns : List Int} {C : D → Prop} : maxP [.tup (ns.map D.int)] C = (0 < ns.length ∧ C (.int (top ns))) := by simp [maxP]
@[simp] theorem maxP_int {i j : Int} {C : D → Prop} : maxP [.int i, .int j] C = C (.int (max i j)) := rfl
@[simp] theorem maxP_lst {ns : List Int} {C : D → Prop} : maxP [.lst (ns.map D.int)] C = (0 < ns.length ∧ C (.int (top ns))) := by simp [maxP]
def bmax : XB where
  r K := bMax4 K
  pre := maxP
  ok h := by
    unfold maxP at h
    split at h
    · exact wpB_max4 (wpB_max2 h)
    · exact wpB_max43 h
    · obtain ⟨ns, e, h0, h⟩ := h
      have e := of_intsOf e
      subst e
      exact wpB_max4 (wpB_maxL h0 fun m h1 h2 => by rw [top_of h1 h2]; exact h)
    · obtain ⟨ns, e, h0, h⟩ := h
      have e := of_intsOf e
      subst e
      exact wpB_max4T h0 fun m h1 h2 => by rw [top_of h1 h2]; exact h
    · exact h.elim
  mono c h := by
    unfold maxP at h ⊢
    split at h
    · exact c _ h
    · exact c _ h
    · obtain ⟨ns, e, h0, h⟩ := h; exact ⟨ns, e, h0, c _ h⟩
    · obtain ⟨ns, e, h0, h⟩ := h; exact ⟨ns, e, h0, c _ h⟩
    · exact h.elim
def minP (ds : List D) (C : D → Prop) : Prop := match ds with
  | [.int i, .int j] => C (.int (min i j))
  | [.int i, .int j, .int k] => C (.int (min (min i j) k))
  | [.lst xs] => ∃ ns, intsOf xs = some ns ∧ 0 < ns.length ∧ C (.int (bot ns))
  | [.tup xs] => ∃ ns, intsOf xs = some ns ∧ 0 < ns.length ∧ C (.int (bot ns))
  | _ => False
@[simp] theorem minP_int3 {i j k : Int} {C : D → Prop} : minP [.int i, .int j, .int k] C = C (.int (min (min i j) k)) := rfl
@[simp] theorem minP_tup {ns : List Int} {C : D → Prop} : minP [.tup (ns.map D.int)] C = (0 < ns.length ∧ C (.int (bot ns))) := by simp [minP]
@[simp] theorem minP_int {i j : Int} {C : D → Prop} : minP [.int i, .int j] C = C (.int (min i j)) := rfl
@[simp] theorem minP_lst {ns : List Int} {C : D → Prop} : minP [.lst (ns.map D.int)] C = (0 < ns.length ∧ C (.int (bot ns))) := by simp [minP]
def bmin : XB where
  r K := bMin4 K
  pre := minP
  ok h := by
    unfold minP at h
    split at h
    · exact wpB_min4 (wpB_min2 h)
    · exact wpB_min43 h
    · obtain ⟨ns, e, h0, h⟩ := h
      have e := of_intsOf e
      subst e
      exact wpB_min4 (wpB_minL h0 fun m h1 h2 => by rw [bot_of h1 h2]; exact h)
    · obtain ⟨ns, e, h0, h⟩ := h
      have e := of_intsOf e
      subst e
      exact wpB_min4T h0 fun m h1 h2 => by rw [bot_of h1 h2]; exact h
    · exact h.elim
  mono c h := by
    unfold minP at h ⊢
    split at h
    · exact c _ h
    · exact c _ h
    · obtain ⟨ns, e, h0, h⟩ := h; exact ⟨ns, e, h0, c _ h⟩
    · obtain ⟨ns, e, h0, h⟩ := h; exact ⟨ns, e, h0, c _ h⟩
    · exact h.elim
def ienumZ (a : XA G) : XI G where
  te K E := iEnumZ K (a.te K E)
  pre B X ss C := a.pre B X ss fun ds => match ds with
    | [.tup x, .tup y] => C (enumD 0 (zipD x y))
    | _ => False
  ok g h := wpI_enumZ (wpA_mono (a.ok g h) fun ds h => by
    split at h
    · exact ⟨_, _, rfl, h⟩
    · exact h.elim)
  mono l x c h := a.mono l x (fun ds h => by
    split at h
    · exact c _ h
    · exact h.elim) h
/-! ### base: an item mixed -/
def mixedF : XF where
  F B ds C _ := match ds with
    | [.cell p, d] => ∃ xs, seqOf d = some xs ∧ (B p ∧ xs.length ≤ 100000) ∧ ∀ ys : List D, ys.Perm xs → C (.lst ys)
    | _ => False
  mono l x c h := by
    split at h
    · obtain ⟨xs, e, h1, h2⟩ := h
      exact ⟨xs, e, ⟨l.b _ h1.1, h1.2⟩, fun ys p => c _ (h2 ys p)⟩
    · exact h.elim
/-! ### a keyword, a default -/
def aapp (n m : Nat) (a b : XA G) : XA G where
  te K E := tAppN n m (a.te K E) (b.te K E)
  pre B X ss C := a.pre B X ss fun xs => xs.length = n ∧ b.pre B X ss fun ys => ys.length = m ∧ C (xs ++ ys)
  ok g h := wpA_appN (wpA_mono (a.ok g h) fun xs h => ⟨h.1, b.ok g h.2⟩)
  mono l x c h := a.mono l x (fun d h => ⟨h.1, b.mono l x (fun d h => ⟨h.1, c _ h.2⟩) h.2⟩) h
def adef (d : Int) (a : XA G) : XA G where
  te K E := tDefN d (a.te K E)
  pre B X ss C := a.pre B X ss fun xs => C (xs ++ [.int d])
  ok g h := wpA_defN (a.ok g h)
  mono l x c h := a.mono l x (fun d h => c _ h) h
/-- list(zip(a, b)) -/
def lstZ (a : XA G) : XO G where
  te K E := tListZip K (a.te K E)
  pre B X ss C := a.pre B X ss fun ds => match ds with
    | [.tup xs, .tup ys] => C (zipD xs ys)
    | _ => False
  ok g h := wpO_listZip (wpA_mono (a.ok g h) fun ds h => by
    split at h
    · exact ⟨_, _, rfl, h⟩
    · exact h.elim)
  mono l x c h := a.mono l x (fun ds h => by
    split at h
    · exact c _ h
    · exact h.elim) h
end XQ
/-! what the texts of a law's row lean on -/
namespace XQ
open PySem PySem.Spec PyProof.Rows L2 SQ
theorem ownX_gC {K : Fr} {mg : Str → Option Value} {x fl : Str} {C : Addr} (T : OwnX K mg x fl C) : mg x = some (.ref C) := by
  obtain ⟨_, _, _, _, _, t, _⟩ := T.ex
  exact t.gC
theorem old_ladle {B : Sc} {ds : List D} {C : D → Prop} {X : XP} (h : ladleF.F B ds C X) : ∃ (p : Addr) (n : Int), ds = [.cell p, .int n] ∧ B p ∧ 0 < n ∧ n < 2 ^ 200 ∧ ∀ r, 0 ≤ r → r < n → C (.int r) := by
  unfold ladleF at h
  simp only at h
  split at h
  · exact ⟨_, _, rfl, h.1.1, h.1.2.1, h.1.2.2, h.2⟩
  · exact h.elim
end XQ
/-! what the preconditions are -/
namespace XQ
open PySem PySem.Spec PyProof.Rows L2 SQ
variable {G : Fr → Prop} {B : Sc} {X : XP} {ss : List Sl}
@[simp] theorem var_pre (i : Nat) {C : D → Prop} : ((var i) : XE G).pre B X ss C = (getV ss i C) := rfl
@[simp] theorem int_pre (i : Int) {C : D → Prop} : ((int i) : XE G).pre B X ss C = (C (.int i)) := rfl
@[simp] theorem bl_pre (b : Bool) {C : D → Prop} : ((bl b) : XE G).pre B X ss C = (C (.bl b)) := rfl
@[simp] theorem non_pre {C : D → Prop} : ((non) : XE G).pre B X ss C = (C .non) := rfl
@[simp] theorem ty_pre (x : String) {C : D → Prop} : ((ty x) : XE G).pre B X ss C = (C (.ty x)) := rfl
@[simp] theorem str_pre (x : Str) {C : D → Prop} : ((str x) : XE G).pre B X ss C = (C (.str x)) := rfl
@[simp] theorem op_pre (r : XR) (a b : XE G) {C : D → Prop} : ((op r a b) : XE G).pre B X ss C = (a.pre B X ss fun x => b.pre B X ss fun y => r.pre x y C) := rfl
@[simp] theorem frz_pre (a : XO G) {C : D → Prop} : ((frz a) : XE G).pre B X ss C = (a.pre B X ss fun xs => C (.lst xs)) := rfl
@[simp] theorem andV_pre (a b : XE G) {C : D → Prop} : ((andV a b) : XE G).pre B X ss C = (a.pre B X ss fun d => ∃ k, d = .bl k ∧ if k = true then b.pre B X ss C else C (.bl false)) := rfl
@[simp] theorem orV_pre (a b : XE G) {C : D → Prop} : ((orV a b) : XE G).pre B X ss C = (a.pre B X ss fun d => ∃ k, d = .bl k ∧ if k = true then C (.bl true) else b.pre B X ss C) := rfl
@[simp] theorem notV_pre (a : XE G) {C : D → Prop} : ((notV a) : XE G).pre B X ss C = (a.pre B X ss fun d => ∃ k, d = .bl k ∧ C (.bl (!k))) := rfl
@[simp] theorem ifE_pre (t : XT G) (a b : XE G) {C : D → Prop} : ((ifE t a b) : XE G).pre B X ss C = (t.pre B X ss fun k => if k = true then a.pre B X ss C else b.pre B X ss C) := rfl
@[simp] theorem chain_pre (r r' : XR) (a b c : XE G) {C : D → Prop} : ((chain r r' a b c) : XE G).pre B X ss C = (a.pre B X ss fun x => b.pre B X ss fun y => r.pre x y fun z => ∃ k, z = .bl k ∧ if k = true then c.pre B X ss fun w => r'.pre y w C else C (.bl false)) := rfl
@[simp] theorem isN_pre (a : XE G) {C : D → Prop} : ((isN a) : XE G).pre B X ss C = (a.pre B X ss fun d => C (.bl (isNon d))) := rfl
@[simp] theorem notN_pre (a : XE G) {C : D → Prop} : ((notN a) : XE G).pre B X ss C = (a.pre B X ss fun d => C (.bl (!isNon d))) := rfl
@[simp] theorem anil_pre {C : List D → Prop} : ((anil) : XA G).pre B X ss C = (C []) := rfl
@[simp] theorem acons_pre (a : XE G) (r : XA G) {C : List D → Prop} : ((acons a r) : XA G).pre B X ss C = (a.pre B X ss fun x => r.pre B X ss fun xs => C (x :: xs)) := rfl
@[simp] theorem cb_pre (r : XB) (a : XA G) {C : D → Prop} : ((cb r a) : XE G).pre B X ss C = (a.pre B X ss fun xs => r.pre xs C) := rfl
@[simp] theorem cbO_pre (r : XBO) (a : XA G) {C : List D → Prop} : ((cbO r a) : XO G).pre B X ss C = (a.pre B X ss fun xs => r.pre xs C) := rfl
@[simp] theorem tup_pre (a : XA G) {C : D → Prop} : ((tup a) : XE G).pre B X ss C = (a.pre B X ss fun xs => xs.length ≤ 100000 ∧ C (.tup xs)) := rfl
@[simp] theorem lst_pre (a : XA G) {C : List D → Prop} : ((lst a) : XO G).pre B X ss C = (a.pre B X ss fun xs => xs.length ≤ 100000 ∧ C xs) := rfl
@[simp] theorem call0_pre (f : XF) (a : XA G) {C : D → Prop} : ((call0 f a) : XE G).pre B X ss C = (a.pre B X ss fun ds => f.F B ds C fun _ => False) := rfl
@[simp] theorem callE_pre (f : XF) (a : XA G) {C : D → Prop} : ((callE f a) : XE G).pre B X ss C = (a.pre B X ss fun ds => f.F B ds C X) := rfl
@[simp] theorem test_pre (a : XE G) {C : Bool → Prop} : ((test a) : XT G).pre B X ss C = (a.pre B X ss fun d => ∃ b, d = .bl b ∧ C b) := rfl
@[simp] theorem tB2_pre (a : XE G) {C : Bool → Prop} : ((tB' a) : XT G).pre B X ss C = (a.pre B X ss fun d => ∃ b, d = .bl b ∧ C b) := rfl
@[simp] theorem yes_pre {C : Bool → Prop} : ((yes) : XT G).pre B X ss C = (C true) := rfl
@[simp] theorem notT_pre (a : XT G) {C : Bool → Prop} : ((notT a) : XT G).pre B X ss C = (a.pre B X ss fun b => C (!b)) := rfl
@[simp] theorem andT_pre (a b : XT G) {C : Bool → Prop} : ((andT a b) : XT G).pre B X ss C = (a.pre B X ss fun k => if k = true then b.pre B X ss C else C false) := rfl
@[simp] theorem orT_pre (a b : XT G) {C : Bool → Prop} : ((orT a b) : XT G).pre B X ss C = (a.pre B X ss fun k => if k = true then C true else b.pre B X ss C) := rfl
@[simp] theorem gname_pre (i : Nat) {d : D} {C : List Sl → Prop} : ((gname i) : XG).pre d ss C = (i < ss.length ∧ C (ss.set i (.val d))) := rfl
@[simp] theorem gpair_pre (i j : Nat) {d : D} {C : List Sl → Prop} : ((gpair i j) : XG).pre d ss C = (i < ss.length ∧ j < ss.length ∧ match d with
    | .tup [x, y] => C ((ss.set i (.val x)).set j (.val y))
    | .lst [x, y] => C ((ss.set i (.val x)).set j (.val y))
    | _ => False) := rfl
@[simp] theorem skip_pre {e : En} : ((skip) : XS G).pre B X ss e = (e.nx ss) := rfl
@[simp] theorem ret_pre (a : XE G) {e : En} : ((ret a) : XS G).pre B X ss e = (a.pre B X ss fun d => e.rt (.val d)) := rfl
@[simp] theorem retN_pre {e : En} : ((retN) : XS G).pre B X ss e = (e.rt (.val .non)) := rfl
@[simp] theorem ifS_pre (t : XT G) (a b : XS G) {e : En} : ((ifS t a b) : XS G).pre B X ss e = (t.pre B X ss fun k => if k = true then a.pre B X ss e else b.pre B X ss e) := rfl
@[simp] theorem asg_pre (a : XE G) (g : XG) {e : En} : ((asg a g) : XS G).pre B X ss e = (a.pre B X ss fun d => g.pre d ss e.nx) := rfl
@[simp] theorem set_pre (i : Nat) (a : XE G) {e : En} : ((set i a) : XS G).pre B X ss e = (i < ss.length ∧ a.pre B X ss fun d => e.nx (ss.set i (.val d))) := rfl
@[simp] theorem setO_pre (i : Nat) (a : XO G) {e : En} : ((setO i a) : XS G).pre B X ss e = (i < ss.length ∧ a.pre B X ss fun d => e.nx (ss.set i (.own d))) := rfl
@[simp] theorem par_pre (i j : Nat) (a : XA G) {e : En} : ((par i j a) : XS G).pre B X ss e = (i < ss.length ∧ j < ss.length ∧ a.pre B X ss fun ds => match ds with
    | [x, y] => e.nx ((ss.set i (.val x)).set j (.val y))
    | _ => False) := rfl
@[simp] theorem drop_pre (a : XE G) {e : En} : ((drop a) : XS G).pre B X ss e = (a.pre B X ss fun _ => e.nx ss) := rfl
@[simp] theorem freeze_pre (i : Nat) (s : XS G) {e : En} : ((freeze i s) : XS G).pre B X ss e = (getO ss i fun xs => s.pre B X (ss.set i (.val (.lst xs))) e) := rfl
@[simp] theorem app_pre (i : Nat) (a : XE G) {e : En} : ((app i a) : XS G).pre B X ss e = (getO ss i fun xs => xs.length < 100000 ∧ a.pre B X ss fun d => e.nx (ss.set i (.own (xs ++ [d])))) := rfl
@[simp] theorem aug_pre (i : Nat) (f : Int → Int → Int) (a : XE G) {e : En} : ((aug i f a) : XS G).pre B X ss e = (getV ss i fun d => match d with
    | .int n => a.pre B X ss fun d => ∃ m, d = .int m ∧ e.nx (ss.set i (.val (.int (f n m))))
    | _ => False) := rfl
@[simp] theorem put_pre (i : Nat) (a ix : XE G) {e : En} : ((put i a ix) : XS G).pre B X ss e = (getO ss i fun xs => a.pre B X ss fun d => ix.pre B X ss fun y => ∃ j m, y = .int j ∧ ixN xs.length j = some m ∧ e.nx (ss.set i (.own (xs.set m d)))) := rfl
@[simp] theorem augO_pre (i : Nat) (f : Int → Int → Int) (a ix : XE G) {e : En} : ((augO i f a ix) : XS G).pre B X ss e = (getO ss i fun xs => ix.pre B X ss fun y => ∃ j m n, y = .int j ∧ ixN xs.length j = some m ∧ xs[m]? = some (.int n) ∧ a.pre B X ss fun d => ∃ z, d = .int z ∧ e.nx (ss.set i (.own (xs.set m (.int (f n z)))))) := rfl
@[simp] theorem popD_pre (i : Nat) {e : En} : ((popD i) : XS G).pre B X ss e = (getO ss i fun xs => xs ≠ [] ∧ e.nx (ss.set i (.own xs.dropLast))) := rfl
@[simp] theorem ixOwn_pre (i : Nat) (a : XE G) {C : D → Prop} : ((ixOwn i a) : XE G).pre B X ss C = (getO ss i fun xs => a.pre B X ss fun y => ∃ j d, y = .int j ∧ atI xs j = some d ∧ C d) := rfl
@[simp] theorem lenOwn_pre (i : Nat) {C : D → Prop} : ((lenOwn i) : XE G).pre B X ss C = (getO ss i fun xs => C (.int xs.length)) := rfl
@[simp] theorem nope_pre {e : En} : ((nope) : XS G).pre B X ss e = (False) := rfl
@[simp] theorem brk_pre {e : En} : ((brk) : XS G).pre B X ss e = (e.bk ss) := rfl
@[simp] theorem cont_pre {e : En} : ((cont) : XS G).pre B X ss e = (e.ct ss) := rfl
@[simp] theorem raise0_pre (c : Addr) {e : En} : ((raise0 c) : XS G).pre B X ss e = (X ⟨c, [], []⟩) := rfl
@[simp] theorem raise1_pre (c : Addr) (fl : Str) (a : XA G) {e : En} : ((raise1 c fl a) : XS G).pre B X ss e = (a.pre B X ss fun ds => ∃ d, ds = [d] ∧ X ⟨c, [fl], [d]⟩) := rfl
@[simp] theorem lc_pre (w : XI G) (g : XG) (t : XT G) (a : XE G) {C : List D → Prop} : ((lc w g t a) : XO G).pre B X ss C = (w.pre B X ss fun ds => ds.length ≤ 100000 ∧ lcW (lcT g t a B X ss) ds [] C) := rfl
@[simp] theorem iseq_pre (a : XE G) {C : List D → Prop} : ((iseq a) : XI G).pre B X ss C = (a.pre B X ss fun d => match d with
    | .lst xs => C xs
    | .tup xs => C xs
    | _ => False) := rfl
@[simp] theorem irng1_pre (a : XA G) {C : List D → Prop} : ((irng1 a) : XI G).pre B X ss C = (a.pre B X ss fun ds => match ds with
    | [.int j] => (-(2 ^ 62) ≤ j ∧ j < 2 ^ 62) ∧ C (rngD 0 j.toNat)
    | _ => False) := rfl
@[simp] theorem irng3_pre (a : XA G) {C : List D → Prop} : ((irng3 a) : XI G).pre B X ss C = (a.pre B X ss fun ds => match ds with
    | [.int i, .int j, .int k] => k = -1 ∧ (-(2 ^ 62) ≤ i ∧ i < 2 ^ 62 ∧ -(2 ^ 62) ≤ j ∧ j < 2 ^ 62) ∧ C (rngDn i (i - j).toNat)
    | _ => False) := rfl
@[simp] theorem irng2_pre (a : XA G) {C : List D → Prop} : ((irng2 a) : XI G).pre B X ss C = (a.pre B X ss fun ds => match ds with
    | [.int i, .int j] => (-(2 ^ 62) ≤ i ∧ i < 2 ^ 62 ∧ -(2 ^ 62) ≤ j ∧ j < 2 ^ 62) ∧ C (rngD i (j - i).toNat)
    | _ => False) := rfl
@[simp] theorem izip_pre (a : XA G) {C : List D → Prop} : ((izip a) : XI G).pre B X ss C = (a.pre B X ss fun ds => match ds with
    | [.lst x, .lst y] => C (zipD x y)
    | [.tup x, .tup y] => C (zipD x y)
    | [.lst x, .tup y] => C (zipD x y)
    | _ => False) := rfl
@[simp] theorem ienumT_pre (a : XA G) {C : List D → Prop} : ((ienumT a) : XI G).pre B X ss C = (a.pre B X ss fun ds => match ds with
    | [.tup x] => C (enumD 0 x)
    | _ => False) := rfl
@[simp] theorem ienumL_pre (a : XA G) {C : List D → Prop} : ((ienumL a) : XI G).pre B X ss C = (a.pre B X ss fun ds => match ds with
    | [.lst x] => C (enumD 0 x)
    | _ => False) := rfl
@[simp] theorem rsub_pre {x y : D} {C : D → Prop} : ((rsub) : XR).pre x y C = (I2 (fun i j => C (.int (i - j))) x y) := rfl
@[simp] theorem rlt_pre {x y : D} {C : D → Prop} : ((rlt) : XR).pre x y C = (I2 (fun i j => C (.bl (decide (i < j)))) x y) := rfl
@[simp] theorem rle_pre {x y : D} {C : D → Prop} : ((rle) : XR).pre x y C = (I2 (fun i j => C (.bl (decide (i ≤ j)))) x y) := rfl
@[simp] theorem rgt_pre {x y : D} {C : D → Prop} : ((rgt) : XR).pre x y C = (I2 (fun i j => C (.bl (decide (j < i)))) x y) := rfl
@[simp] theorem rge_pre {x y : D} {C : D → Prop} : ((rge) : XR).pre x y C = (I2 (fun i j => C (.bl (decide (j ≤ i)))) x y) := rfl
@[simp] theorem rmod_pre {x y : D} {C : D → Prop} : ((rmod) : XR).pre x y C = (I2 (fun i j => 0 < j ∧ C (.int (i % j))) x y) := rfl
@[simp] theorem rfdiv_pre {x y : D} {C : D → Prop} : ((rfdiv) : XR).pre x y C = (I2 (fun i j => CDivW i j ∧ C (.int (i / j))) x y) := rfl
@[simp] theorem rpow_pre {x y : D} {C : D → Prop} : ((rpow) : XR).pre x y C = (I2 (fun i j => CPowW i j ∧ C (.int (i ^ j.toNat))) x y) := rfl
@[simp] theorem radd_pre {x y : D} {C : D → Prop} : ((radd) : XR).pre x y C = (addP x y C) := rfl
@[simp] theorem rmul_pre {x y : D} {C : D → Prop} : ((rmul) : XR).pre x y C = (mulP x y C) := rfl
@[simp] theorem rtmul_pre {x y : D} {C : D → Prop} : ((rtmul) : XR).pre x y C = (tmulP x y C) := rfl
@[simp] theorem req_pre {x y : D} {C : D → Prop} : ((req) : XR).pre x y C = ((pyk 64 x = true ∧ pyk 64 y = true) ∧ C (.bl (eqD x y))) := rfl
@[simp] theorem rne_pre {x y : D} {C : D → Prop} : ((rne) : XR).pre x y C = ((pyk 64 x = true ∧ pyk 64 y = true) ∧ C (.bl (!eqD x y))) := rfl
@[simp] theorem reqS_pre {x y : D} {C : D → Prop} : ((reqS) : XR).pre x y C = (S2 (fun i j => C (.bl (i == j))) x y) := rfl
@[simp] theorem rneS_pre {x y : D} {C : D → Prop} : ((rneS) : XR).pre x y C = (S2 (fun i j => C (.bl (!(i == j)))) x y) := rfl
@[simp] theorem risB_pre {x y : D} {C : D → Prop} : ((risB) : XR).pre x y C = (L2b (fun i j => C (.bl (i == j))) x y) := rfl
@[simp] theorem rnotB_pre {x y : D} {C : D → Prop} : ((rnotB) : XR).pre x y C = (L2b (fun i j => C (.bl (!(i == j)))) x y) := rfl
@[simp] theorem rix_pre {x y : D} {C : D → Prop} : ((rix) : XR).pre x y C = (ixP x y C) := rfl
@[simp] theorem rin_pre {x y : D} {C : D → Prop} : ((rin) : XR).pre x y C = (inP false x y C) := rfl
@[simp] theorem rnotin_pre {x y : D} {C : D → Prop} : ((rnotin) : XR).pre x y C = (inP true x y C) := rfl
@[simp] theorem blen_pre {xs : List D} {C : D → Prop} : ((blen) : XB).pre xs C = (lenP xs C) := rfl
@[simp] theorem bint_pre {xs : List D} {C : D → Prop} : ((bint) : XB).pre xs C = (intP xs C) := rfl
@[simp] theorem babs_pre {xs : List D} {C : D → Prop} : ((babs) : XB).pre xs C = (absP xs C) := rfl
@[simp] theorem bsum_pre {xs : List D} {C : D → Prop} : ((bsum) : XB).pre xs C = (sumP xs C) := rfl
@[simp] theorem btup_pre {xs : List D} {C : D → Prop} : ((btup) : XB).pre xs C = (tupP xs C) := rfl
@[simp] theorem blst_pre {xs : List D} {C : List D → Prop} : ((blst) : XBO).pre xs C = (lstP xs C) := rfl
@[simp] theorem ball_pre {xs : List D} {C : D → Prop} : ((ball) : XB).pre xs C = (allP xs C) := rfl
@[simp] theorem bany_pre {xs : List D} {C : D → Prop} : ((bany) : XB).pre xs C = (anyP xs C) := rfl
@[simp] theorem bdivmod_pre {xs : List D} {C : D → Prop} : ((bdivmod) : XB).pre xs C = (divmodP xs C) := rfl
@[simp] theorem bsrt_pre {xs : List D} {C : D → Prop} : ((bsrt) : XB).pre xs C = (srtP xs C) := rfl
@[simp] theorem srtR_pre (a : XA G) {C : List D → Prop} : ((srtR a) : XO G).pre B X ss C = (a.pre B X ss fun ds => match ds with
    | [d] => ∃ xs, seqOf d = some xs ∧ ∃ ns, intsOf xs = some ns ∧ C ((down ns).map .int)
    | _ => False) := rfl
@[simp] theorem bisi_pre {xs : List D} {C : D → Prop} : ((bisi) : XB).pre xs C = (isiP xs C) := rfl
@[simp] theorem brepr_pre {xs : List D} {C : D → Prop} : ((brepr) : XB).pre xs C = (reprP xs C) := rfl
@[simp] theorem pno_pre {C : Option Int → Prop} : ((pno) : XPt G).pre B X ss C = (C none) := rfl
@[simp] theorem psome_pre (a : XE G) {C : Option Int → Prop} : ((psome a) : XPt G).pre B X ss C = (a.pre B X ss fun d => ∃ i, d = .int i ∧ C (some i)) := rfl
@[simp] theorem slc_pre (a : XE G) (lo hi : XPt G) {C : D → Prop} : ((slc a lo hi) : XE G).pre B X ss C = (a.pre B X ss fun d => lo.pre B X ss fun i => hi.pre B X ss fun j => cutP d i j C) := rfl
@[simp] theorem revL_pre (a : XE G) {C : List D → Prop} : ((revL a) : XO G).pre B X ss C = (a.pre B X ss fun d => match d with
    | .lst xs => C xs.reverse
    | _ => False) := rfl
@[simp] theorem revT_pre (a : XE G) {C : D → Prop} : ((revT a) : XE G).pre B X ss C = (a.pre B X ss fun d => match d with
    | .tup xs => C (.tup xs.reverse)
    | _ => False) := rfl
@[simp] theorem dnew_pre {C : D → Prop} : ((dnew) : XE G).pre B X ss C = (C (.dk [] [])) := rfl
@[simp] theorem ddisp1_pre (i j : Int) {C : D → Prop} : ((ddisp1 i j) : XE G).pre B X ss C = (C (.dk [.inl i] [.int j])) := rfl
@[simp] theorem lamX_pre (T0 : List (Addr × Str)) (outs : Fr → Value → Option Addr → Hp → VK → Prop) (oX : Exc → (D → Prop) → Prop) (hO : ∀ {K : Fr} {x : Exc} {C : D → Prop}, G K → oX x C → wpX K (outs K) x C) (mO : ∀ {x : Exc} {C C' : D → Prop}, (∀ d, C d → C' d) → oX x C → oX x C') (a : XE G) {C : D → Prop} : ((lamX T0 outs oX hO mO a) : XE G).pre B X ss C = (B.tb T0 ∧ ∀ B', Sc.le B B' → a.pre B' (fun x => oX x C) (deown ss) C) := rfl
@[simp] theorem callBowl_pre (f : XF) (a : XA G) {C : D → Prop} : ((callBowl f a) : XE G).pre B X ss C = (a.pre B X ss fun ds => (∃ (ns : List Int) (i : Nat), ds = [.scr ns, .int i] ∧ i ≤ 1000) ∧ ∀ (B' : Sc) (p : Addr), B' p → (∀ T, B.tb T → B'.tb T) → f.F B' [.cell p] C fun _ => False) := rfl
@[simp] theorem gnil_pre {d : List D} {C : List Sl → Prop} : ((gnil) : XGs).pre d ss C = (d = [] ∧ C ss) := rfl
@[simp] theorem gcons_pre (g : XG) (r : XGs) {d : List D} {C : List Sl → Prop} : ((gcons g r) : XGs).pre d ss C = (match d with
    | x :: xs => g.pre x ss fun s2 => r.pre xs s2 C
    | [] => False) := rfl
@[simp] theorem gtup_pre (n : Nat) (g : XGs) {d : D} {C : List Sl → Prop} : ((gtup n g) : XG).pre d ss C = (match d with
    | .tup xs => xs.length = n ∧ g.pre xs ss C
    | _ => False) := rfl
@[simp] theorem rinA_pre (neg : Bool) {x y : D} {C : D → Prop} : ((rinA neg) : XR).pre x y C = (inA neg x y C) := rfl
@[simp] theorem neg_pre (a : XE G) {C : D → Prop} : ((neg a) : XE G).pre B X ss C = (a.pre B X ss fun d => match d with
    | .int i => C (.int (-i))
    | _ => False) := rfl
@[simp] theorem opO_pre (r : XRO) (a b : XE G) {C : List D → Prop} : ((opO r a b) : XO G).pre B X ss C = (a.pre B X ss fun x => b.pre B X ss fun y => r.pre x y C) := rfl
@[simp] theorem raddO_pre {x y : D} {C : List D → Prop} : ((raddO) : XRO).pre x y C = (addO x y C) := rfl
@[simp] theorem rmulO_pre {x y : D} {C : List D → Prop} : ((rmulO) : XRO).pre x y C = (mulO x y C) := rfl
@[simp] theorem lstRg_pre (a : XE G) {C : List D → Prop} : ((lstRg a) : XO G).pre B X ss C = (a.pre B X ss fun d => match d with
    | .int n => RgOk 0 n ∧ C (rngD 0 n.toNat)
    | _ => False) := rfl
@[simp] theorem lstRg2_pre (a b : XE G) {C : List D → Prop} : ((lstRg2 a b) : XO G).pre B X ss C = (a.pre B X ss fun x => b.pre B X ss fun y => match x, y with
    | .int i, .int j => RgOk i j ∧ C (rngD i (j - i).toNat)
    | _, _ => False) := rfl
@[simp] theorem ext_pre (i : Nat) (a : XE G) {e : En} : ((ext i a) : XS G).pre B X ss e = (getO ss i fun xs => a.pre B X ss fun d => match d with
    | .lst zs => xs.length + zs.length ≤ 100000 ∧ e.nx (ss.set i (.own (xs ++ zs)))
    | _ => False) := rfl
@[simp] theorem popSet_pre (i j : Nat) {e : En} : ((popSet i j) : XS G).pre B X ss e = (getO ss i fun xs => i ≠ j ∧ j < ss.length ∧ ∃ d, xs.getLast? = some d ∧ e.nx ((ss.set i (.own xs.dropLast)).set j (.val d))) := rfl
@[simp] theorem parOE_pre (i j : Nat) (a : XO G) (b : XE G) {e : En} : ((parOE i j a b) : XS G).pre B X ss e = (i < ss.length ∧ j < ss.length ∧ a.pre B X ss fun xs => b.pre B X ss fun y => e.nx ((ss.set i (.own xs)).set j (.val y))) := rfl
@[simp] theorem parEO_pre (i j : Nat) (a : XE G) (b : XO G) {e : En} : ((parEO i j a b) : XS G).pre B X ss e = (i < ss.length ∧ j < ss.length ∧ a.pre B X ss fun x => b.pre B X ss fun ys => e.nx ((ss.set i (.val x)).set j (.own ys))) := rfl
@[simp] theorem parOO_pre (i j : Nat) (a : XO G) (b : XO G) {e : En} : ((parOO i j a b) : XS G).pre B X ss e = (i < ss.length ∧ j < ss.length ∧ a.pre B X ss fun x => b.pre B X ss fun ys => e.nx ((ss.set i (.own x)).set j (.own ys))) := rfl
@[simp] theorem par3_pre (i j k : Nat) (a : XA G) {e : En} : ((par3 i j k a) : XS G).pre B X ss e = (i < ss.length ∧ j < ss.length ∧ k < ss.length ∧ a.pre B X ss fun ds => match ds with
    | [x, y, z] => e.nx (((ss.set i (.val x)).set j (.val y)).set k (.val z))
    | _ => False) := rfl
@[simp] theorem xv_pre (a : XE G) {C : Sl → Prop} : ((xv a) : XL G).pre B X ss C = (a.pre B X ss fun d => C (.val d)) := rfl
@[simp] theorem xo_pre (a : XO G) {C : Sl → Prop} : ((xo a) : XL G).pre B X ss C = (a.pre B X ss fun d => C (.own d)) := rfl
@[simp] theorem par3s_pre (i j k : Nat) (a b c : XL G) {e : En} : ((par3s i j k a b c) : XS G).pre B X ss e = (i < ss.length ∧ j < ss.length ∧ k < ss.length ∧ a.pre B X ss fun x => b.pre B X ss fun y => c.pre B X ss fun z => e.nx (((ss.set i x).set j y).set k z)) := rfl
@[simp] theorem bmax_pre {xs : List D} {C : D → Prop} : ((bmax) : XB).pre xs C = (maxP xs C) := rfl
@[simp] theorem bmin_pre {xs : List D} {C : D → Prop} : ((bmin) : XB).pre xs C = (minP xs C) := rfl
@[simp] theorem ienumZ_pre (a : XA G) {C : List D → Prop} : ((ienumZ a) : XI G).pre B X ss C = (a.pre B X ss fun ds => match ds with
    | [.tup x, .tup y] => C (enumD 0 (zipD x y))
    | _ => False) := rfl
@[simp] theorem aapp_pre (n m : Nat) (a b : XA G) {C : List D → Prop} : ((aapp n m a b) : XA G).pre B X ss C = (a.pre B X ss fun xs => xs.length = n ∧ b.pre B X ss fun ys => ys.length = m ∧ C (xs ++ ys)) := rfl
@[simp] theorem adef_pre (d : Int) (a : XA G) {C : List D → Prop} : ((adef d a) : XA G).pre B X ss C = (a.pre B X ss fun xs => C (xs ++ [.int d])) := rfl
@[simp] theorem lstZ_pre (a : XA G) {C : List D → Prop} : ((lstZ a) : XO G).pre B X ss C = (a.pre B X ss fun ds => match ds with
    | [.tup xs, .tup ys] => C (zipD xs ys)
    | _ => False) := rfl
/-- a statement that waits until its slots are known -/
def run (t : XS G) (B : Sc) (X : XP) (ss : List Sl) (e : En) : Prop := t.pre B X ss e
@[simp] theorem run_cons {t : XS G} {B : Sc} {X : XP} {s : Sl} {r : List Sl} {e : En} : run t B X (s :: r) e = t.pre B X (s :: r) e := rfl
@[simp] theorem seq_pre {s t : XS G} {e : En} : (seq s t).pre B X ss e = s.pre B X ss { nx := fun ss => run t B X ss e, rt := e.rt, bk := e.bk, ct := e.ct } := rfl
/-- the turn of a loop -/
def trn (g : XG) (s : XS G) (B : Sc) (X : XP) (d : D) (ss : List Sl) (e : En) : Prop := g.pre d ss fun ss2 => s.pre B X ss2 e
@[simp] theorem trn_cons {g : XG} {s : XS G} {B : Sc} {X : XP} {d : D} {a : Sl} {r : List Sl} {e : En} : trn g s B X d (a :: r) e = g.pre d (a :: r) fun ss2 => run s B X ss2 e := rfl
@[simp] theorem xfor_pre {w : XI G} {g : XG} {s : XS G} {e : En} : (xfor w g s).pre B X ss e = w.pre B X ss fun ds => forW (trn g s B X) ds ss e := rfl
def tst (t : XT G) (B : Sc) (X : XP) (ss : List Sl) (C : Bool → Prop) : Prop := t.pre B X ss C
@[simp] theorem tst_cons {t : XT G} {B : Sc} {X : XP} {s : Sl} {r : List Sl} {C : Bool → Prop} : tst t B X (s :: r) C = t.pre B X (s :: r) C := rfl
@[simp] theorem xwhile_pre {t : XT G} {s : XS G} {e : En} : (xwhile t s).pre B X ss e = ∃ n, whW (tst t B X) (run s B X) n ss e := rfl
@[simp] theorem bowlS_pre {i : Nat} {a : XA G} {s : XS G} {e : En} : (bowlS i a s).pre B X ss e = (i < ss.length ∧ a.pre B X ss fun ds => (∃ (ns : List Int) (i : Nat), ds = [.scr ns, .int i] ∧ i ≤ 1000) ∧ ∀ (B' : Sc) (p : Addr), B' p → Sc.le B B' → s.pre B' X (ss.set i (.val (.cell p))) e) := rfl
@[simp] theorem natInj {a b : Nat} : ((a : Int) = (b : Int)) = (a = b) := propext Int.ofNat_inj
@[simp] theorem us_name {i : Nat} : (gname i).us = [i] := rfl
@[simp] theorem us_pair {i j : Nat} : (gpair i j).us = [i, j] := rfl
@[simp] theorem us_nil : gnil.us = [] := rfl
@[simp] theorem us_cons {g : XG} {r : XGs} : (gcons g r).us = g.us ++ r.us := rfl
@[simp] theorem us_tup {n : Nat} {g : XGs} : (gtup n g).us = g.us := rfl
@[simp] theorem wipeS_nil {ss : List Sl} : wipeS ss [] = ss := rfl
@[simp] theorem wipeS_cons {ss : List Sl} {v : Nat} {vs : List Nat} : wipeS ss (v :: vs) = (wipeS ss vs).set v .un := rfl
@[simp] theorem lcT_def {g : XG} {t : XT G} {a : XE G} {B : Sc} {X : XP} {ss : List Sl} {d : D} {C : Option D → Prop} : lcT g t a B X ss d C =
  g.pre d (wipeS ss g.us) fun s2 => t.pre B X s2 fun k => if k = true then a.pre B X s2 fun y => C (some y) else C none := rfl
theorem xf_F {n m : Nat} {s : XS G} {B : Sc} {ds : List D} {C : D → Prop} {X : XP} : (xf n m s).F B ds C X = (ds.length = n ∧ s.pre B X (ds.map Sl.val ++ List.replicate (m - ds.length) .un) (en0 C)) := rfl
@[simp] theorem rtV_val {C : D → Prop} {d : D} : rtV C (.val d) = C d := rfl
@[simp] theorem forW_nil {b : D → List Sl → En → Prop} {ss : List Sl} {e : En} : forW b [] ss e = e.nx ss := rfl
@[simp] theorem lcW_nil {b : D → (Option D → Prop) → Prop} {acc : List D} {C : List D → Prop} : lcW b [] acc C = C acc := rfl
theorem forW_cons {b : D → List Sl → En → Prop} {d : D} {r : List D} {ss : List Sl} {e : En} : forW b (d :: r) ss e = b d ss { nx := fun s => forW b r s e, ct := fun s => forW b r s e, bk := e.nx, rt := e.rt } := rfl
theorem lcW_cons {b : D → (Option D → Prop) → Prop} {d : D} {r acc : List D} {C : List D → Prop} : lcW b (d :: r) acc C = b d fun o => lcW b r (acc ++ o.toList) C := rfl
/-- a loop by what holds between its turns -/
theorem forW_inv {b : D → List Sl → En → Prop} {ds : List D} {ss : List Sl} {e : En} (I : Nat → List Sl → Prop) (h0 : I 0 ss)
    (turn : ∀ i d ss', ds[i]? = some d → I i ss' → ∀ e' : En, (∀ s, I (i + 1) s → e'.nx s) → (∀ s, I (i + 1) s → e'.ct s) → (∀ s, e.nx s → e'.bk s) → (∀ s, e.rt s → e'.rt s) → b d ss' e') (hend : ∀ ss', I ds.length ss' → e.nx ss') : forW b ds ss e := by
  have key : ∀ (r : List D) (i : Nat) (ss' : List Sl), ds.drop i = r → i + r.length = ds.length → I i ss' → forW b r ss' e := by
    intro r
    induction r with
    | nil => intro i ss' h1 h2 h3; simp at h2; subst h2; exact hend ss' h3
    | cons d r ih =>
      intro i ss' h1 h2 h3
      have hd : ds[i]? = some d := by
        have : (ds.drop i)[0]? = some d := by rw [h1]; rfl
        simpa using this
      have hr : ds.drop (i + 1) = r := by
        rw [← List.drop_drop, h1]; rfl
      simp only [List.length_cons] at h2
      exact turn i d ss' hd h3 _ (fun s hs => ih (i + 1) s hr (by omega) hs) (fun s hs => ih (i + 1) s hr (by omega) hs) (fun s h => h) (fun s h => h)
  exact key ds 0 ss rfl (by simp) h0
/-! ### types -/
@[simp] theorem ty_non : Typed .non := ⟨_, rfl⟩
@[simp] theorem ty_bl {b : Bool} : Typed (.bl b) := ⟨_, rfl⟩
@[simp] theorem ty_int {b : Int} : Typed (.int b) := ⟨_, rfl⟩
@[simp] theorem ty_str {b : Str} : Typed (.str b) := ⟨_, rfl⟩
@[simp] theorem ty_tup {b : List D} : Typed (.tup b) := ⟨_, rfl⟩
@[simp] theorem ty_lst {b : List D} : Typed (.lst b) := ⟨_, rfl⟩
@[simp] theorem ty_dk {k : List Key} {b : List D} : Typed (.dk k b) := ⟨_, rfl⟩
theorem isi_core {d : D} {m : String} {f : D → Bool} {C : D → Prop} (h : Typed d) (k : ∀ n, tyName d = some n → kitB n m = some (f d)) : isiP [d, .ty m] C = C (.bl (f d)) := by
  obtain ⟨n, hn⟩ := h
  rw [isiP_ty]
  refine propext ⟨?_, fun c => ⟨n, hn, _, k n hn, c⟩⟩
  rintro ⟨n', e, b, e2, c⟩
  rw [hn] at e; cases e
  rw [k n hn] at e2; cases e2
  exact c
@[simp] theorem isi_int {d : D} {C : D → Prop} (h : Typed d) : isiP [d, .ty "int"] C = C (.bl (dInt d)) := isi_core h fun n e => by cases d <;> first | (cases e; done) | (cases e; first | (show kitB _ _ = some false; decide +kernel) | (show kitB _ _ = some true; decide +kernel))
@[simp] theorem isi_bool {d : D} {C : D → Prop} (h : Typed d) : isiP [d, .ty "bool"] C = C (.bl (dBl d)) := isi_core h fun n e => by cases d <;> first | (cases e; done) | (cases e; first | (show kitB _ _ = some false; decide +kernel) | (show kitB _ _ = some true; decide +kernel))
@[simp] theorem isi_tup {d : D} {C : D → Prop} (h : Typed d) : isiP [d, .ty "tuple"] C = C (.bl (dTup d)) := isi_core h fun n e => by cases d <;> first | (cases e; done) | (cases e; first | (show kitB _ _ = some false; decide +kernel) | (show kitB _ _ = some true; decide +kernel))
@[simp] theorem isi_lst {d : D} {C : D → Prop} (h : Typed d) : isiP [d, .ty "list"] C = C (.bl (dLst d)) := isi_core h fun n e => by cases d <;> first | (cases e; done) | (cases e; first | (show kitB _ _ = some false; decide +kernel) | (show kitB _ _ = some true; decide +kernel))
@[simp] theorem isi_str {d : D} {C : D → Prop} (h : Typed d) : isiP [d, .ty "str"] C = C (.bl (dStr d)) := isi_core h fun n e => by cases d <;> first | (cases e; done) | (cases e; first | (show kitB _ _ = some false; decide +kernel) | (show kitB _ _ = some true; decide +kernel))
theorem lcW_map {b : D → (Option D → Prop) → Prop} {β : Type} {e : β → D} {f : β → D} : ∀ {l : List β} {acc : List D} {C : List D → Prop}, (∀ x ∈ l, ∀ Q, b (e x) Q = Q (some (f x))) → lcW b (l.map e) acc C = C (acc ++ l.map f)
  | [], acc, C, _ => by simp
  | x :: r, acc, C, h => by
    rw [List.map_cons, lcW_cons, h x List.mem_cons_self, lcW_map fun y m => h y (List.mem_cons_of_mem _ m)]
    simp
theorem lcW_mapD {b : D → (Option D → Prop) → Prop} {f : D → D} {l acc : List D} {C : List D → Prop} (h : ∀ x ∈ l, ∀ Q, b x Q = Q (some (f x))) : lcW b l acc C = C (acc ++ l.map f) := by
  have := lcW_map (b := b) (e := id) (f := f) (l := l) (acc := acc) (C := C) h
  rwa [List.map_id] at this
theorem rng0 (n : Nat) : rngD 0 n = (List.range n).map fun i : Nat => D.int i := by
  unfold rngD; refine List.map_congr_left fun i _ => ?_; simp
theorem zipII (a b : List Int) : zipD (a.map D.int) (b.map D.int) = (a.zip b).map fun p => D.tup [.int p.1, .int p.2] := zipI a b
@[simp] theorem len_map_int (ns : List Int) : (ns.map D.int).length = ns.length := List.length_map _
theorem blsM {β : Type} (l : List β) (p : β → Bool) : l.map (fun x => D.bl (p x)) = (l.map p).map D.bl := by rw [List.map_map]; rfl
/-! ### plain data -/
@[simp] theorem pyk_non {n : Nat} : pyk n .non = true := by cases n <;> rfl
@[simp] theorem pyk_bl {n : Nat} {b : Bool} : pyk n (.bl b) = true := by cases n <;> rfl
@[simp] theorem pyk_int {n : Nat} {b : Int} : pyk n (.int b) = true := by cases n <;> rfl
@[simp] theorem pyk_tup {n : Nat} {b : List D} : pyk (n + 1) (.tup b) = pyks n b := rfl
@[simp] theorem pyk_lst {n : Nat} {b : List D} : pyk (n + 1) (.lst b) = pyks n b := rfl
@[simp] theorem pyks_nil {n : Nat} : pyks n [] = true := by cases n <;> rfl
@[simp] theorem pyks_cons {n : Nat} {d : D} {ds : List D} : pyks n (d :: ds) = (pyk n d && pyks n ds) := by cases n <;> rfl
@[simp] theorem pyks_is {n : Nat} {ns : List Int} : pyks n (ns.map D.int) = true := pyks_ints
@[simp] theorem pyks_app {n : Nat} : ∀ {a b : List D}, pyks n (a ++ b) = (pyks n a && pyks n b)
  | [], b => by simp
  | x :: a, b => by simp [pyks_app (a := a), Bool.and_assoc]
@[simp] theorem pyks_map {n : Nat} {β : Type} {f : β → D} : ∀ {l : List β}, pyks n (l.map f) = l.all fun x => pyk n (f x)
  | [] => by simp
  | x :: l => by simp [pyks_map (l := l)]
@[simp] theorem eqDs_is {x y : List Int} : eqDs (x.map D.int) (y.map D.int) = decide (x = y) := eqDs_ints
mutual
theorem eqD_self : ∀ d : D, eqD d d = true
  | .non => rfl
  | .bl b => by simp
  | .int i => by simp
  | .str x => by simp
  | .tup xs => by rw [eqD_tup]; exact eqDs_self xs
  | .lst xs => by rw [eqD_lst]; exact eqDs_self xs
  | .dk _ _ => rfl
  | .cell _ => rfl
  | .scr _ => rfl
  | .ty _ => rfl
  | .ins _ _ _ => rfl
theorem eqDs_self : ∀ ds : List D, eqDs ds ds = true
  | [] => rfl
  | d :: ds => by rw [eqDs_cons, eqD_self d, eqDs_self ds]; rfl
end
@[simp] theorem eqD_nonnon : eqD .non .non = true := rfl
@[simp] theorem eqD_ib {i : Int} {b : Bool} : eqD (.int i) (.bl b) = (i == if b = true then 1 else 0) := by cases b <;> rfl
@[simp] theorem eqD_bi {i : Int} {b : Bool} : eqD (.bl b) (.int i) = ((if b = true then (1 : Int) else 0) == i) := by cases b <;> rfl
/-- what is met at an index -/
@[simp] theorem atI_zero {α : Type} {x : α} {r : List α} : atI (x :: r) 0 = some x := atI_nat (j := 0) rfl
@[simp] theorem atI_one {α : Type} {x y : α} {r : List α} : atI (x :: y :: r) 1 = some y := atI_nat (j := 1) rfl
@[simp] theorem atI_two {α : Type} {x y z : α} {r : List α} : atI (x :: y :: z :: r) 2 = some z := atI_nat (j := 2) rfl
theorem atI_get {l : List D} {i : Nat} (h : i < l.length) : atI l (i : Int) = some l[i] := atI_nat (by simp [h])
/-- the int at a place -/
def nth0 (l : List Int) (i : Nat) : Int := l.getD i 0
theorem nth0_get {l : List Int} {i : Nat} (h : i < l.length) : nth0 l i = l[i] := by simp [nth0, h]
/-- a loop over a state of one's own -/
theorem forW_st {α β : Type} {b : D → List Sl → En → Prop} {e : En} (S : α → List Sl) (g : β → D) (f : α → β → α) (P : Nat → α → Prop) {xs : List β} {a0 : α} (h0 : P 0 a0)
    (turn : ∀ i x a e', xs[i]? = some x → P i a → b (g x) (S a) e' = e'.nx (S (f a x)) ∧ P (i + 1) (f a x)) : forW b (xs.map g) (S a0) e = e.nx (S (xs.foldl f a0)) ∧ P xs.length (xs.foldl f a0) := by
  have key : ∀ (r : List β) (i : Nat) (a : α), xs.drop i = r → i + r.length = xs.length → P i a → forW b (r.map g) (S a) e = e.nx (S (r.foldl f a)) ∧ P xs.length (r.foldl f a) := by
    intro r
    induction r with
    | nil => intro i a h1 h2 h3; simp at h2; subst h2; exact ⟨rfl, h3⟩
    | cons x r ih =>
      intro i a h1 h2 h3
      have hd : xs[i]? = some x := by
        have : (xs.drop i)[0]? = some x := by rw [h1]; rfl
        simpa using this
      have hr : xs.drop (i + 1) = r := by
        rw [← List.drop_drop, h1]; rfl
      simp only [List.length_cons] at h2
      obtain ⟨t1, t2⟩ := turn i x a { nx := fun s => forW b (r.map g) s e, ct := fun s => forW b (r.map g) s e, bk := e.nx, rt := e.rt } hd h3
      obtain ⟨k1, k2⟩ := ih (i + 1) (f a x) hr (by omega) t2
      rw [List.map_cons, forW_cons, t1]
      exact ⟨k1, k2⟩
  exact key xs 0 a0 rfl (by simp) h0
/-- a loop that hands back at the first item of a kind -/
theorem forW_find {β σ : Type} {b : D → List Sl → En → Prop} {e : En} (S : σ → List Sl) (g : β → D) (p : β → Bool) (r : β → Sl) (n : β → σ) {xs : List β}
    (turn : ∀ x s e', x ∈ xs → b (g x) (S s) e' = if p x = true then e'.rt (r x) else e'.nx (S (n x))) : ∀ s0 : σ, forW b (xs.map g) (S s0) e = match xs.find? p with
      | some x => e.rt (r x)
      | none => e.nx (S (xs.foldl (fun _ x => n x) s0)) := by
  induction xs with
  | nil => intro s0; rfl
  | cons x xs ih =>
    intro s0
    rw [List.map_cons, forW_cons, turn x s0 _ List.mem_cons_self, List.find?_cons]
    cases hp : p x with
    | true => simp
    | false =>
      simp only [Bool.false_eq_true, if_false]
      rw [ih (fun y s e' m => turn y s e' (List.mem_cons_of_mem _ m))]
      rfl
@[simp] theorem ladle_F {B : Sc} {p : Addr} {n : Int} {C : D → Prop} {X : XP} : ladleF.F B [.cell p, .int n] C X = ((B p ∧ 0 < n ∧ n < 2 ^ 200) ∧ ∀ r, 0 ≤ r → r < n → C (.int r)) := rfl
@[simp] theorem mixed_lst {B : Sc} {p : Addr} {xs : List D} {C : D → Prop} {X : XP} : mixedF.F B [.cell p, .lst xs] C X = ((B p ∧ xs.length ≤ 100000) ∧ ∀ ys : List D, ys.Perm xs → C (.lst ys)) := by simp [mixedF, seqOf]
@[simp] theorem mixed_tup {B : Sc} {p : Addr} {xs : List D} {C : D → Prop} {X : XP} : mixedF.F B [.cell p, .tup xs] C X = ((B p ∧ xs.length ≤ 100000) ∧ ∀ ys : List D, ys.Perm xs → C (.lst ys)) := by simp [mixedF, seqOf]
theorem cmul2 {i j : Int} (h : -(2 ^ 64) < j ∧ j < 2 ^ 64) : CMul i j ∨ CMulW i j := .inl (.inr h)
theorem enumD_map {β : Type} (e : β → D) : ∀ (l : List β) (k : Nat), enumD k (l.map e) = (l.zipIdx k).map fun p => D.tup [.int p.2, e p.1]
  | [], _ => rfl
  | x :: l, k => by
    rw [List.map_cons, List.zipIdx_cons, List.map_cons, ← enumD_map e l (k + 1)]; rfl
theorem forW_iff {α β : Type} {b : D → List Sl → En → Prop} {e : En} {Y : Prop} (S : α → List Sl) (g : β → D) (f : α → β → α) (P : Nat → α → Prop) {xs : List β} {a0 : α} (h0 : P 0 a0)
    (turn : ∀ i x a e', xs[i]? = some x → P i a → (b (g x) (S a) e' ↔ e'.nx (S (f a x))) ∧ P (i + 1) (f a x)) (fin : ∀ a, P xs.length a → (e.nx (S a) ↔ Y)) : forW b (xs.map g) (S a0) e ↔ Y := by
  obtain ⟨h1, h2⟩ := forW_st (b := b) (e := e) S g f P h0 fun i x a e' h p => ⟨propext (turn i x a e' h p).1, (turn i x a e' h p).2⟩
  rw [h1]
  exact fin _ h2
end XQ
/-! xs.index(max(xs)), xs the def's own list -/
namespace SQ
open PySem PySem.Spec PyProof.Rows L2
section
variable {X : Cx} {K : PySem.W.Frag}
end
section
variable {K : PySem.W.Frag} {Γ : Cxt} {ss : List Sl} {xs : List D} {C : D → Prop} {i : Nat}
theorem wpE_idxMax {ns : List Int} (h : ss[i]? = some (.own (ns.map D.int))) (hn : 0 < ns.length)
    (k : ∀ (j : Nat) m, ns[j]? = some m → (∀ y, y ∈ ns → y ≤ m) → (∀ (l : Nat) y, l < j → ns[l]? = some y → y ≠ m) → C (.int j)) :
    wpE K Γ (tBM K "list" (rIndex K) (tVar i) (tCons (tCB (bMax4 K) (tCons (tVar i) tNil)) tNil)) ss C := fun H0 σ H τ hl I Q q => by
  obtain ⟨a, ha, _⟩ := Env.ownAt (qs := []) hl h I
  obtain ⟨vs, hv, rv⟩ := I.own (a := a) (xs := ns.map D.int) (List.mem_append_left _ (zip_get h ha))
  have hvs : vs = ns.map V.int := Reps.ints.mp rv
  subst hvs
  have hsq : SqL K H a (ns.map V.int) := .inl (.inl hv)
  refine ⟨.ref a, ha, .inl ⟨rfl, _, hsq⟩, .ref a, ha, .inl (.inr ⟨a, ns, rfl, hsq, hn, fun m hm hu => ?_⟩)⟩
  have key : ∀ (ns : List Int) (m : Int), m ∈ ns → ∃ j : Nat, ns[j]? = some m ∧ ∀ (l : Nat) y, l < j → ns[l]? = some y → y ≠ m := by
    intro ns m hm
    induction ns with
    | nil => cases hm
    | cons x r ih =>
      by_cases hx : x = m
      · exact ⟨0, by rw [hx]; rfl, fun l y hl => by omega⟩
      · obtain ⟨j, hj, hno⟩ := ih ((List.mem_cons.mp hm).resolve_left fun e => hx e.symm)
        refine ⟨j + 1, by simpa using hj, fun l y hl hy => ?_⟩
        cases l with
        | zero => simp at hy; rw [← hy]; exact hx
        | succ l => exact hno l y (by omega) (by simpa using hy)
  obtain ⟨j, hj, hno⟩ := key ns m hm
  refine ⟨a, ns.map V.int, .int m, j, .int m, rfl, rfl, hsq, rfl, ?_, by rw [List.getElem?_map, hj]; rfl, ?_, fun l z hlj hz => ?_, ?_⟩
  · rw [List.all_eq_true]
    intro v hv
    obtain ⟨n, _, rfl⟩ := List.mem_map.mp hv
    rfl
  · show (m == m) = true
    simp
  · rw [List.getElem?_map] at hz
    cases hq : ns[l]? with
    | none => rw [hq] at hz; cases hz
    | some y =>
      rw [hq] at hz
      obtain rfl : V.int y = z := Option.some.inj hz
      show (y == m) = false
      simpa using hno l y hlj hq
  · exact q _ (.int j) H (I.push (d := .int j) rfl) (k j m hj hu hno)
end
end SQ
/-! xs.index(max(xs)) of an own list -/
namespace XQ
open PySem PySem.Spec PyProof.Rows L2 SQ
variable {G : Fr → Prop}
def idxMax (i : Nat) : XE G where
  te K _ := tBM K "list" (rIndex K) (tVar i) (tCons (tCB (bMax4 K) (tCons (tVar i) tNil)) tNil)
  pre _ _ ss C := getO ss i fun xs => ∃ ns : List Int, xs = ns.map D.int ∧ 0 < ns.length ∧ ∀ (j : Nat) m, ns[j]? = some m → (∀ y, y ∈ ns → y ≤ m) → (∀ (l : Nat) y, l < j → ns[l]? = some y → y ≠ m) → C (.int j)
  ok g h := by
    obtain ⟨xs, e, ns, rfl, hn, h⟩ := getO_at h
    exact wpE_idxMax e hn h
  mono _ _ c h := getO_mono (fun _ h => by
    obtain ⟨ns, e, hn, h⟩ := h
    exact ⟨ns, e, hn, fun j m h1 h2 h3 => c _ (h j m h1 h2 h3)⟩) h
@[simp] theorem idxMax_pre {B : Sc} {X : XP} {ss : List Sl} (i : Nat) {C : D → Prop} : ((idxMax i) : XE G).pre B X ss C = (getO ss i fun xs => ∃ ns : List Int, xs = ns.map D.int ∧ 0 < ns.length ∧ ∀ (j : Nat) m, ns[j]? = some m → (∀ y, y ∈ ns → y ≤ m) → (∀ (l : Nat) y, l < j → ns[l]? = some y → y ≠ m) → C (.int j)) := rfl
end XQ
/-! own classes: an instance is made by its __init__; it never changes from then on -/
namespace SQ
open PySem PySem.Spec PyProof.Rows L2
/-- the scene of __init__: the new instance and its dict may change, what the instance has is known -/
def Cxt.inst (Γ : Cxt) (x dx C : Addr) (fs : List (Str × V)) : Cxt :=
  { Γ with S := fun a => Γ.S a ∨ a = x ∨ a = dx, W := fun H => Γ.W H ∧ H x = some (.ins C dx fs) ∧ H dx = some (.own x) }
section
variable {K : PySem.W.Frag} {Γ : Cxt} {H0 H H' : Hp} {τ ps qs : Ps} {ss : List Sl} {σ : L2.St} {e : En} {te tb : TE} {C x dx : Addr} {Cc : D → Prop} {fs : List (Str × V)}
theorem Cxt.Ok.inst (ok : Γ.Ok) : (Γ.inst x dx C fs).Ok := by
  refine ⟨fun H w a s => ?_, fun H H' w h e => ⟨ok.st H H' w.1 (fun a s => h a (.inl s)) e, ?_, ?_⟩⟩
  · rcases s with s | s | s
    · exact ok.al H w.1 a s
    · rw [s]; exact ⟨_, w.2.1, trivial⟩
    · rw [s]; exact ⟨_, w.2.2, trivial⟩
  · rw [h x (.inr (.inl rfl))]; exact w.2.1
  · rw [h dx (.inr (.inr rfl))]; exact w.2.2
theorem bowl_inst {p : Addr} (hx : ¬ Γ.S x) (hd : ¬ Γ.S dx) (b : Bowl Γ.S Γ.W p) : Bowl (Γ.inst x dx C fs).S (Γ.inst x dx C fs).W p :=
  ⟨.inl b.1, fun H w => b.2.1 H w.1, fun H xs w o => ⟨b.2.2 H xs w.1 o, by
    rw [upd_ne (fun z : x = p => hx (z ▸ b.1))]; exact w.2.1, by
    rw [upd_ne (fun z : dx = p => hd (z ▸ b.1))]; exact w.2.2⟩⟩
theorem tb_inst {T : List (Addr × Str)} (t : Tb Γ.W T) : Tb (Γ.inst x dx C fs).W T := ⟨fun H w => t.1 H w.1, fun H H' w e tt => ⟨t.2 H H' w.1 e tt, e x _ w.2.1 (fun ps q => by cases q), e dx _ w.2.2 (fun ps q => by cases q)⟩⟩
theorem sc_inst (hx : ¬ Γ.S x) (hd : ¬ Γ.S dx) : Sc.le (sc Γ) (sc (Γ.inst x dx C fs)) := ⟨fun _ b => bowl_inst hx hd b, fun _ t => tb_inst t⟩
/-- the promise of an __init__, over trees: FI hands on the instance -/
def spI (K : PySem.W.Frag) (C : Addr) (FI : Fn) : Sp := fun vs H Q E => ∃ (Γ : Cxt) (x dx : Addr) (ws : List V) (ds : List D) (Cc : D → Prop), vs = V.ref x :: ws ∧ Γ.Ok ∧ (Γ.inst x dx C []).W H ∧ ¬ Γ.S x ∧ ¬ Γ.S dx ∧ x ≠ dx ∧
  Reps K (Γ.inst x dx C []).S H ds ws ∧ FI (sc Γ) ds Cc Γ.X ∧
  (∀ ns es fs H2, Rel (Γ.inst x dx C []).S H H2 → Γ.W H2 → H2 x = some (.ins C dx fs) → fs.map (·.1) = ns → Reps K (Γ.inst x dx C []).S H2 es (fs.map (·.2)) → Cc (.ins C ns es) → Q .non H2) ∧
  (∀ exc cls d H2, Rel (Γ.inst x dx C []).S H H2 → Γ.W H2 → RepX K (Γ.inst x dx C []).S H2 exc cls d → Γ.X exc → E cls d H2)
/-- the body of an __init__: what the instance has so far: ns, es -/
structure Own0s (K : PySem.W.Frag) (Γ : Cxt) (x dx C : Addr) (H0 : Hp) : Prop where
  ok : Γ.Ok
  hx : ¬ Γ.S x
  hd : ¬ Γ.S dx
  ne : x ≠ dx
  thr : ∀ exc cls d H', Rel (Γ.inst x dx C []).S H0 H' → Γ.W H' → RepX K (Γ.inst x dx C []).S H' exc cls d → Γ.X exc → Γ.E cls d H'
def wpN (K : PySem.W.Frag) (Γ : Cxt) (x dx C : Addr) (ns : List Str) (es : List D) (t : TS) (ss : List Sl) (Cc : D → Prop) : Prop := ∀ fs H0 σ H D, Own0s K Γ x dx C H0 → fs.map (·.1) = ns → es.length = fs.length → σ.length = ss.length →
  Env K (Γ.inst x dx C fs) H0 H (ss.zip σ ++ pile es (fs.map (·.2))) →
  (∀ σ' H2 fs2 ns2 es2, Env K (Γ.inst x dx C fs2) H0 H2 (pile es2 (fs2.map (·.2))) → es2.length = fs2.length → fs2.map (·.1) = ns2 → Cc (.ins C ns2 es2) → D.nx σ' H2) → t D σ H
theorem wpN_seq {t1 t2 : TS} {ns : List Str} {es : List D} (h : ∀ fs : List (Str × V), wpS K (Γ.inst x dx C fs) t1 ss { nx := fun ss' => wpN K Γ x dx C ns es t2 ss' Cc, rt := fun _ => False }) : wpN K Γ x dx C ns es (tSeq t1 t2) ss Cc := fun fs H0 σ H D o h1 h2 hl I k => by
  refine h fs H0 σ H (pile es (fs.map (·.2))) _ hl I ⟨fun ss' σ' H' hl' J c => ?_, fun v s H' J c => c.elim, fun ss' σ' H' hl' J c => c.elim, fun ss' σ' H' hl' J c => c.elim⟩
  exact c fs H0 σ' H' D o h1 h2 hl' J k
/-- what the instance has, changes -/
theorem Env.putI {fs' : List (Str × V)} (o : Own0s K Γ x dx C H0) (I : Env K (Γ.inst x dx C fs) H0 H ps) : Env K (Γ.inst x dx C fs') H0 (upd H x (.ins C dx fs')) ps := by
  have hH := I.w.2.1
  have nb : ∀ a ∈ owned ps, a ≠ x := fun a z e => (I.fr a z).1 (.inr (.inl e))
  have rl : Rel (Out (Γ.inst x dx C fs) ps) H (upd H x (.ins C dx fs')) := fun a o n e _ => by
    rw [upd_ne (fun z => n (.inl (.inr (.inl z))))]; exact e
  refine ⟨o.ok.inst, ⟨o.ok.st H _ I.w.1 (fun a s => upd_ne fun z => o.hx (z ▸ s)) (fun a φ h => by
    rw [upd_ne (fun z => by rw [z, hH] at h; cases h)]; exact h), upd_same, by rw [upd_ne o.ne.symm]; exact I.w.2.2⟩, fun a u n e t => ?_, I.nd, I.fr, fun q hq => ?_, fun exc cls d H' r w y z => o.thr exc cls d H' r w.1 y z⟩
  · rw [upd_ne (fun z => n (.inr (.inl z)))]; exact I.rel a u n e t
  · refine slot.mono ?_ ?_ ?_ (I.sl q hq)
    · exact fun d v r => Rep.rel rl I.live d v r
    · exact fun d v r => Reps.rel rl I.live d v r
    · intro ys e1 a vs e2 e3
      obtain ⟨s, o'⟩ := q
      have e1' : s = .own ys := e1
      have e2' : o' = some (.ref a) := e2
      subst e1' e2'
      rw [upd_ne (nb a (mem_owned hq))]; exact e3
theorem putF_new {f : Str} {v : V} : ∀ {fs : List (Str × V)}, f ∉ fs.map (·.1) → putF f v fs = fs ++ [(f, v)]
  | [], _ => rfl
  | (g, y) :: r, h => by
    simp only [List.map_cons, List.mem_cons, not_or] at h
    rw [putF, if_neg (fun z => h.1 z.symm), putF_new h.2]; rfl
theorem pile_snoc {d : D} {v : V} : ∀ {es : List D} {vs : List V}, es.length = vs.length → pile (es ++ [d]) (vs ++ [v]) = pile es vs ++ [(.val d, some v)]
  | [], [], _ => rfl
  | e :: es, w :: vs, h => by
    have := pile_snoc (d := d) (v := v) (es := es) (vs := vs) (by simpa using h)
    rw [List.cons_append, List.cons_append, pile_cons, this, pile_cons]; rfl
/-- self.f = e, by the class's facts -/
def sFldC (C : Addr) (tv : TE) (f : Str) : TS := fun D σ H => tv σ H fun y H1 => tVar 0 σ H1 fun x H2 => ∃ a dx fs, x = .ref a ∧ H2 a = some (.ins C dx fs) ∧ fs.length < 1000 ∧ D.nx σ (upd H2 a (.ins C dx (putF f y fs)))
theorem set_core {f : Str} {ns : List Str} {es : List D} {D : L2.Ends} {σ : L2.St} (h0 : ss[0]? = some (.val (.cell x))) (hf : f ∉ ns) (hn : ns.length < 1000)
    (h : wpE K (Γ.inst x dx C fs) te ss fun d => ∀ v H2, Env K (Γ.inst x dx C (fs ++ [(f, v)])) H0 H2 (ss.zip σ ++ pile (es ++ [d]) ((fs ++ [(f, v)]).map (·.2))) → D.nx σ H2)
    (o : Own0s K Γ x dx C H0) (h1 : fs.map (·.1) = ns) (h2 : es.length = fs.length) (hl : σ.length = ss.length) (I : Env K (Γ.inst x dx C fs) H0 H (ss.zip σ ++ pile es (fs.map (·.2)))) : sFldC C te f D σ H := by
  refine h H0 σ H (pile es (fs.map (·.2))) hl I _ fun v d H2 J c => ?_
  obtain ⟨oo, ho⟩ := get_of_len hl h0
  have m := zip_get h0 ho
  obtain ⟨v0, e1, r⟩ := J.sl _ (List.mem_cons_of_mem _ (List.mem_append_left _ m))
  have e1 : oo = some v0 := e1
  subst e1
  have r : v0 = .ref x := r
  subst r
  refine ⟨.ref x, ho, x, dx, fs, rfl, J.w.2.1, by rw [← List.length_map (f := Prod.fst), h1]; exact hn, ?_⟩
  rw [putF_new (by rw [h1]; exact hf)]
  refine c v _ (Env.putI o (J.perm ?_))
  have e2 : es.length = (fs.map (·.2)).length := by rw [List.length_map]; exact h2
  rw [List.map_append, show List.map (·.2) [(f, v)] = [v] from rfl, pile_snoc e2]
  have pp : ((Sl.val d, some v) :: (ss.zip σ ++ pile es (fs.map (·.2)))).Perm ((ss.zip σ ++ pile es (fs.map (·.2))) ++ [(Sl.val d, some v)]) := List.perm_append_comm (l₁ := [(Sl.val d, some v)])
  rw [List.append_assoc] at pp
  exact pp
theorem wpN_set {f : Str} {t2 : TS} {ns : List Str} {es : List D} (h0 : ss[0]? = some (.val (.cell x))) (hf : f ∉ ns) (hn : ns.length < 1000)
    (h : ∀ fs : List (Str × V), wpE K (Γ.inst x dx C fs) te ss fun d => wpN K Γ x dx C (ns ++ [f]) (es ++ [d]) t2 ss Cc) : wpN K Γ x dx C ns es (tSeq (sFldC C te f) t2) ss Cc := fun fs H0 σ H D o h1 h2 hl I k =>
  set_core h0 hf hn ((h fs).mono fun d c v H2 J => c (fs ++ [(f, v)]) H0 σ H2 D o (by rw [List.map_append, h1]; rfl) (by simp [h2]) hl J k) o h1 h2 hl I
theorem wpN_last {f : Str} {ns : List Str} {es : List D} (h0 : ss[0]? = some (.val (.cell x))) (hf : f ∉ ns) (hn : ns.length < 1000)
    (h : ∀ fs : List (Str × V), wpE K (Γ.inst x dx C fs) te ss fun d => Cc (.ins C (ns ++ [f]) (es ++ [d]))) : wpN K Γ x dx C ns es (sFldC C te f) ss Cc := fun fs H0 σ H D o h1 h2 hl I k =>
  set_core h0 hf hn ((h fs).mono fun d c v H2 J => k σ H2 (fs ++ [(f, v)]) (ns ++ [f]) (es ++ [d]) J.dropL (by simp [h2]) (by rw [List.map_append, h1]; rfl) c) o h1 h2 hl I
/-- the body runs -/
theorem run_init {FI : Fn} {vs : List V} {Q : VK} {E : XK} {N : List Str} {t : TS} (h : spI K C FI vs H Q E)
    (hb : ∀ (Γ : Cxt) (x dx : Addr) (ds : List D) (Cc : D → Prop), ¬ Γ.S x → ¬ Γ.S dx → Γ.E = E → FI (sc Γ) ds Cc Γ.X → wpN K Γ x dx C [] [] t (ss0 (.cell x :: ds) N.length) Cc) :
    t { nx := fun _ H' => Q .non H', rt := Q } (L2.start N vs) H := by
  obtain ⟨Γ, x, dx, ws, ds, Cc, rfl, ok, w, hx, hd, ne, r, f, q, xq⟩ := h
  have r2 : Reps K (Γ.inst x dx C []).S H (.cell x :: ds) (V.ref x :: ws) := ⟨_, _, rfl, rfl, r⟩
  obtain ⟨h1, h2⟩ := start_env (N := N) (E := E) ok.inst w r2 fun exc cls d H2 a b c z => xq exc cls d H2 a b.1 c z
  refine hb { Γ with E := E } x dx ds Cc hx hd rfl f [] H (L2.start N (V.ref x :: ws)) H _ ⟨⟨ok.al, ok.st⟩, hx, hd, ne, fun exc cls d H' a b c z => xq exc cls d H' a b c z⟩ rfl rfl h1 h2 fun σ' H2 fs2 ns2 es2 I hl e c => ?_
  refine q ns2 es2 fs2 H2 I.rel I.w.1 I.w.2.1 e ?_ c
  have := Env.piled (ps := []) (by rw [hl, List.length_map]) (show Env K _ H H2 (pile es2 (fs2.map (·.2)) ++ []) by rw [List.append_nil]; exact I)
  exact this.less fun a z => .inl z
end
/-- an instance is made by name -/
structure MakX (P : Program) (w : World) (K : PySem.W.Frag) (mg : Str → Option Value) (base : Heap) (k : Nat) (x : Str) (C : Addr) (sp : Sp) : Prop where
  ex : ∃ f : Addr, FnR P w K mg base (L2.CX P w) k f sp ∧ Mk K C f ∧ mg x = some (.ref C)
section
variable {P : Program} {w : World} {K : PySem.W.Frag} {mg : Str → Option Value} {base : Heap} {x qual y : Str} {st : Stmt} {f C : Addr} {fd : FuncData} {N ps : List Str} {k : Nat} {FI : Fn}
/-- what a def with *v is given: n values, then the rest as a tuple -/
def starF (n : Nat) (FI : Fn) : Fn := fun B ds C X => n ≤ ds.length ∧ ds.length ≤ 100000 ∧ FI B (ds.take n ++ [.tup (ds.drop n)]) C X
theorem init_star {pv : Str} {n : Nat} (Df : Fun K x qual st f fd) (M : Mk K C f) (hm : mg y = some (.ref C)) (hn : ps.length = n + 1)
    (hb : ∀ (kV doc pm : Value) (an : Option Addr) (cdv ct : Value) (us rest : List Value), us.length = ps.length → bindArgs (PySem.W.fnOf x qual (defArgs st) (defBody st) (defScope st) .none kV doc pm an cdv ct) ⟨us ++ rest, []⟩ = (newTuple rest >>= fun t => pure (ps.zip us ++ [(pv, t)])))
    (S : FnScope N (ps ++ [pv]) (defScope st))
    (body : ∀ (cdv : Value) (A : Around) (outer : List PySem.Env) (s : Shared) (H : Hp) (E : XK), Room k (A.deeper (envOfC qual (defScope st) s.heap.objs.size f cdv)) →
      ∃ t, PSs (cxOf (L2.CX P w) P w K mg base N qual (defScope st) f cdv A outer s H E) (defBody st) t ∧
        ∀ (Γ : Cxt) (x dx : Addr) (ds : List D) (Cc : D → Prop), ¬ Γ.S x → ¬ Γ.S dx → Γ.E = E → FI (sc Γ) ds Cc Γ.X → wpN K Γ x dx C [] [] t (ss0 (.cell x :: ds) N.length) Cc) : MakX P w K mg base (k + 1) y C (spI K C (starF n FI)) := by
  obtain ⟨oc, od, kV, doc, pm, an, cdv, ct, osl, rfl, lk, hcd⟩ := Df.ex
  have R := StX.fn_star (sp := spI K C FI) lk hcd S StX.cxUp (hb kV doc pm an cdv ct) (P := P) (w := w) (mg := mg) (base := base) (k := k) fun A outer s H vs Q E hr h => by
    obtain ⟨t, ht, hw⟩ := body cdv A outer s H E hr
    exact ⟨t, ht, run_init h fun Γ x dx ds Cc a b e f => hw Γ x dx ds Cc a b e f⟩
  refine ⟨f, R.imp fun vs H Q E h => ?_, M, hm⟩
  obtain ⟨Γ, x, dx, ws, ds, Cc, rfl, ok, wW, hx, hd, ne, r, ⟨hn1, hn2, hF⟩, q, xq⟩ := h
  have hl := r.length
  refine ⟨V.ref x :: ws.take n, ws.drop n, by rw [List.cons_append, List.take_append_drop], by simp [hn]; omega, Nat.le_trans (show (ws.drop n).length ≤ 100000 by simp; omega) (show 100000 ≤ sizeLine by decide), fun p hp => ?_⟩
  have ex : Ext H (upd H p (.tup (ws.drop n))) := Ext.new hp
  have w2 : (Γ.inst x dx C []).W (upd H p (.tup (ws.drop n))) := ok.inst.st H _ wW (fun a z => by
    obtain ⟨o, ho, _⟩ := ok.inst.al H wW a z
    rw [ho]; exact ex a o ho) fun a φ h => ex a _ h
  refine ⟨Γ, x, dx, ws.take n ++ [V.ref p], ds.take n ++ [.tup (ds.drop n)], Cc, rfl, ok, w2, hx, hd, ne, ?_, hF, fun ns es fs H2 rl => q ns es fs H2 (ex.rel.trans rl), fun exc cls d H2 rl => xq exc cls d H2 (ex.rel.trans rl)⟩
  refine Reps.app ((r.take n).ext ex) ⟨_, _, rfl, ⟨p, ws.drop n, rfl, SqT.of upd_same, (r.drop n).ext ex⟩, rfl⟩
end
end SQ
/-! instances are made, their fields, properties and methods are read -/
namespace SQ
open PySem PySem.Spec PyProof.Rows L2
section
variable {K : PySem.W.Frag} {Γ : Cxt} {H0 H H' : Hp} {τ ps qs : Ps} {ss : List Sl} {σ : L2.St} {e : En} {te tb : TE} {ta : TA} {Cl x dx : Addr} {C : D → Prop} {fs : List (Str × V)}
theorem wpE_makeG {X' : Exc → Prop} {E' : XK} (hX : ∀ x, X' x → Γ.X x ∧ Γ.E = E') {FI : Fn} (mono : ∀ B B' ds C X, Sc.le B B' → FI B ds C X → FI B' ds C X)
    (h : wpA K Γ ta ss fun ds => FI (sc Γ) ds C X') : wpE K Γ (StX.tMakeR Cl (spI K Cl FI) E' ta) ss C := fun H0 σ H τ hl I Q q =>
  h H0 σ H τ hl I _ fun vs ds H1 hd J1 h1 => fun x dx nx ndx nd => by
    have J := J1.dropL
    have ex1 : Ext H1 (upd H1 dx (.own x)) := Ext.new ndx
    have nx2 : upd H1 dx (.own x) x = none := by rw [upd_ne (fun z => nd z.symm)]; exact nx
    have ex : Ext H1 (upd (upd H1 dx (.own x)) x (.ins Cl dx [])) := ex1.trans (Ext.new nx2)
    have hx : ¬ Out Γ (ss.zip σ ++ τ) x := J.live.fresh nx
    have hdx : ¬ Out Γ (ss.zip σ ++ τ) dx := J.live.fresh ndx
    have w1 : (Γ.sub (ss.zip σ ++ τ) H1).W (upd (upd H1 dx (.own x)) x (.ins Cl dx [])) := J.subOk.st H1 _ J.subW (fun a z => by
      obtain ⟨o, ho, _⟩ := J.subOk.al H1 J.subW a z
      rw [ho]; exact ex a o ho) fun a φ h => ex a _ h
    refine ⟨{ Γ.sub (ss.zip σ ++ τ) H1 with X := X', E := E' }, x, dx, vs, ds, C, rfl, ⟨J.subOk.al, J.subOk.st⟩, ⟨w1, upd_same, by rw [upd_ne nd]; exact upd_same⟩, hx, hdx, fun z => nd z.symm, ?_, mono _ _ _ _ _ (Sc.sub J) h1, fun ns es fs H2 r w hi en re c => ⟨rfl, ?_⟩, fun exc cls d H2 r w y z => ?_⟩
    · refine (Reps.more (S := Out Γ (ss.zip σ ++ τ)) (fun a z => ?_) ds vs (J1.piled hd)).ext ex
      rcases z with z | z | z
      · exact .inl z
      · rw [z]; exact .inr (Fre.of nx)
      · rw [z]; exact .inr (Fre.of ndx)
    · have rl : Rel (Γ.sub (ss.zip σ ++ τ) H1).S H1 H2 := fun a o n e t => r a o (fun z => by
        rcases z with z | z | z
        · exact n z
        · rw [z, nx] at e; cases e
        · rw [z, ndx] at e; cases e) (ex a o e) t
      exact q (.ref x) (.ins Cl ns es) H2 ((J.back rl w).push (d := .ins Cl ns es) ⟨x, dx, fs, rfl, hx, hi, en, re.less fun a z => .inl z⟩) c
    · have rl : Rel (Γ.sub (ss.zip σ ++ τ) H1).S H1 H2 := fun a o n e t => r a o (fun z => by
        rcases z with z | z | z
        · exact n z
        · rw [z, nx] at e; cases e
        · rw [z, ndx] at e; cases e) (ex a o e) t
      have J2 := J.back rl w
      rw [← (hX exc z).2]
      refine J2.thr exc cls d H2 J2.rel J2.w ?_ (hX exc z).1
      refine ⟨y.1, y.2.imp id ?_⟩
      rintro ⟨dd, fs, e1, e2, e3, e4⟩
      exact ⟨dd, fs, e1, e2, e3, e4.less fun a z => .inl (.inl z)⟩
/-! fields -/
def tFldC (C : Addr) (ta : TE) (f : Str) : TE := fun σ H Q => ta σ H fun x H1 => ∃ a dx fs v, x = .ref a ∧ H1 a = some (.ins C dx fs) ∧ fs.lookup f = some v ∧ Q v H1
/-- what a field has -/
def fldOf (f : Str) : List Str → List D → Option D
  | n :: ns, d :: ds => if f = n then some d else fldOf f ns ds
  | _, _ => none
theorem fld_at {S : Addr → Prop} {f : Str} {d : D} : ∀ {ns : List Str} {es : List D} {fs : List (Str × V)}, fldOf f ns es = some d → fs.map (·.1) = ns → Reps K S H es (fs.map (·.2)) → ∃ v, fs.lookup f = some v ∧ Rep K S H d v
  | [], es, fs, h, _, _ => by cases es <;> cases h
  | n :: ns, [], fs, h, _, _ => by cases h
  | n :: ns, e :: es, [], h, e1, _ => by cases e1
  | n :: ns, e :: es, (g, y) :: fs, h, e1, r => by
    obtain ⟨v, ws, e2, a, b⟩ := r
    cases e2
    have eg : g = n := (List.cons.inj e1).1
    subst eg
    unfold fldOf at h
    by_cases c : f = g
    · rw [if_pos c] at h
      cases h
      exact ⟨y, by rw [List.lookup, show (f == g) = true by simpa using c], a⟩
    · rw [if_neg c] at h
      obtain ⟨v, hv, rv⟩ := fld_at h (List.cons.inj e1).2 b
      exact ⟨v, by rw [List.lookup, show (f == g) = false by simpa using c]; exact hv, rv⟩
theorem wpE_fld {f : Str} (h : wpE K Γ te ss fun y => ∃ ns es d, y = .ins Cl ns es ∧ fldOf f ns es = some d ∧ C d) : wpE K Γ (tFldC Cl te f) ss C := fun H0 σ H τ hl I Q q =>
  h H0 σ H τ hl I _ fun y dy H1 J c => by
    obtain ⟨ns, es, d, rfl, hf, c⟩ := c
    obtain ⟨a, dx, fs, rfl, n, hi, e1, re⟩ := J.val List.mem_cons_self
    obtain ⟨v, hv, rv⟩ := fld_at hf e1 re
    exact ⟨a, dx, fs, v, rfl, hi, hv, q v d H1 (J.drop.push rv) c⟩
/-! properties and methods: the getter's, the method's promise at the instance -/
def tPropC (C : Addr) (sp : Sp) (E : XK) (ta : TE) : TE := fun σ H Q => ta σ H fun x H1 => ∃ a dx fs, x = .ref a ∧ H1 a = some (.ins C dx fs) ∧ sp [.ref a] H1 Q E
theorem wpE_prop0 {F : Fn} (mono : ∀ B B' ds C X, Sc.le B B' → F B ds C X → F B' ds C X)
    (h : wpE K Γ te ss fun y => ∃ ns es, y = .ins Cl ns es ∧ F (sc Γ) [y] C fun _ => False) : wpE K Γ (tPropC Cl (spF K F) E0 te) ss C := fun H0 σ H τ hl I Q q =>
  h H0 σ H τ hl I _ fun y dy H1 J1 c => by
    obtain ⟨ns, es, rfl, h1⟩ := c
    have rv := J1.val List.mem_cons_self
    obtain ⟨a, dx, fs, rfl, n, hi, e1, re⟩ := rv
    have J := J1.drop
    refine ⟨a, dx, fs, rfl, hi, { Γ.sub (ss.zip σ ++ τ) H1 with X := fun _ => False, E := E0 }, [.ins Cl ns es], C, ⟨J.subOk.al, J.subOk.st⟩, J.subW, ?_, mono _ _ _ _ _ (Sc.sub J) h1, fun v d H2 r w x c => ?_, fun x cls d H2 r w y z => z.elim⟩
    · exact ⟨_, _, rfl, ⟨a, dx, fs, rfl, n, hi, e1, re⟩, rfl⟩
    · exact q v d H2 ((J.back r w).push x) c
end
/-- a property's getter -/
structure PropN (P : Program) (w : World) (K : PySem.W.Frag) (mg : Str → Option Value) (base : Heap) (k : Nat) (C : Addr) (f : Str) (sp : Sp) : Prop where
  ex : ∃ (p g : Addr) (fd : FuncData) (ps : List Str), FnOk P w K mg base CX0 k g fd ps sp ∧ Cls K C ∧ PropOf K C f p g ∧ Binds K fd ps []
section
variable {X : Cx} {k j : Nat} {C : Addr} {f x : Str} {sp : Sp} {E : XK} {e : Expr} {es : List Expr} {t : TA} {ta tv : TE} {pos p pos' : Pos}
theorem pe_pr (c : PropN X.prog X.w X.K X.mg X.base k C f sp) (hr : Room j X.A) (hk : k + 1 ≤ j) (he : PE X e ta) (hab : attributeBase e f X.env (eval e X.env) = eval e X.env := by rfl) : PE X (.Attribute e f pos) (tPropC C sp E0 ta) := by
  obtain ⟨p, g, fd, ps, F, cl, hp, b⟩ := c.ex
  have := pe_prop (dvs := []) (E := E0) (pos := pos) he cl hp F (hr.mono hk) b .nil pass0 hab
  exact this
theorem pe_fldC (cl : Cls X.K C) (na : NoAttr X.K C f) (he : PE X e ta) (hab : attributeBase e f X.env (eval e X.env) = eval e X.env := by rfl) : PE X (.Attribute e f pos) (tFldC C ta f) := by
  constructor
  intro pins s σ H Q I h
  apply attr_of hab
  apply thn (he.run pins s σ H _ I h)
  rintro u s1 ⟨x, H1, I1, rx, a, dx, fs, v, rfl, ea, l, q⟩
  have ru : u = Value.ref a := rx
  subst ru
  refine getattr_ok I1 ea cl na l ?_
  exact fun u' s2 I2 r2 => ⟨v, H1, I2, r2, q⟩
theorem ps_fldC {o value : Expr} (cl : Cls X.K C) (na : NoAttr X.K C f) (ha : PE X o (tVar 0)) (hv : PE X value tv) (hs : swapsWith value (some (.Attribute o f pos')) pos.line X.env = pure false := by rfl) :
    PS X (.Assign [.Attribute o f pos'] value pos) (sFldC C tv f) := by
  constructor
  intro pins s σ H D I h
  refine plainObj_wpAny_Assign_Attribute (thn (hv.run pins s σ H _ I h) ?_) hs
  rintro u s1 ⟨y, H1, I1, ry, q⟩
  refine thn (ha.run pins s1 σ H1 _ I1 q) ?_
  rintro ov s2 ⟨x, H2, I2, rx, a, dx, fs, rfl, ea, l, q2⟩
  have ro : ov = Value.ref a := rx
  subst ro
  refine setattr_ok I2 ea cl na l ry ?_
  exact fun s3 I3 => ⟨σ, _, I3, q2⟩
theorem pe_mk0 (c : MakX X.prog X.w X.K X.mg X.base k x C sp) (hr : Room j X.A) (hk : k + 1 ≤ j) (hg : Gl X x) (ha : PA X (e :: es) t)
    (hdb : (x == ("__debug__" : Str)) = false := by decide) (he : starEach (e :: es) X.env = (false, eval e X.env) :: starEach es X.env := by rfl) (hpl : (backTo pos (starEach es X.env)).any (·.1) = false := by rfl) :
    PE X (.Call (.Name x p) (e :: es) [] pos) (StX.tMakeR C sp E0 t) := by
  obtain ⟨f, F, M, hm⟩ := c.ex
  exact StX.pe_makeR M F (hr.mono hk) hg hm passL ha hdb he hpl
end
end SQ
/-! own classes -/
namespace XQ
open PySem PySem.Spec PyProof.Rows L2 SQ
variable {G : Fr → Prop}
/-- the body of an __init__ -/
structure XInit (G : Fr → Prop) (Cl : Addr) where
  te : Fr → XK → TS
  pre : Sc → XP → List Sl → List Str → List D → (D → Prop) → Prop
  ok : ∀ {K : Fr} {Γ : Cxt} {x dx : Addr} {ss : List Sl} {ns : List Str} {es : List D} {C : D → Prop}, G K → ¬ Γ.S x → ¬ Γ.S dx → ss[0]? = some (.val (.cell x)) → pre (sc Γ) Γ.X ss ns es C → wpN K Γ x dx Cl ns es (te K Γ.E) ss C
  mono : ∀ {B B' : Sc} {X X' : XP} {ss : List Sl} {ns : List Str} {es : List D} {C C' : D → Prop}, Sc.le B B' → (∀ x, X x → X' x) → (∀ d, C d → C' d) → pre B X ss ns es C → pre B' X' ss ns es C'
def nset {Cl : Addr} (f : Str) (a : XE G) (r : XInit G Cl) : XInit G Cl where
  te K E := tSeq (sFldC Cl (a.te K E) f) (r.te K E)
  pre B X ss ns es C := (f ∉ ns ∧ ns.length < 1000) ∧ a.pre B X ss fun d => r.pre B X ss (ns ++ [f]) (es ++ [d]) C
  ok g hx hd h0 h := wpN_set h0 h.1.1 h.1.2 fun fs => (a.ok g (a.mono (sc_inst hx hd) (fun _ h => h) (fun _ h => h) h.2)).mono fun d c => r.ok g hx hd h0 c
  mono l x c h := ⟨h.1, a.mono l x (fun d h => r.mono l x c h) h.2⟩
def nlast {Cl : Addr} (f : Str) (a : XE G) : XInit G Cl where
  te K E := sFldC Cl (a.te K E) f
  pre B X ss ns es C := (f ∉ ns ∧ ns.length < 1000) ∧ a.pre B X ss fun d => C (.ins Cl (ns ++ [f]) (es ++ [d]))
  ok g hx hd h0 h := wpN_last h0 h.1.1 h.1.2 fun fs => a.ok g (a.mono (sc_inst hx hd) (fun _ h => h) (fun _ h => h) h.2)
  mono l x c h := ⟨h.1, a.mono l x (fun d h => c _ h) h.2⟩
def runN {Cl : Addr} (r : XInit G Cl) (B : Sc) (X : XP) (ss : List Sl) (ns : List Str) (es : List D) (C : D → Prop) : Prop := r.pre B X ss ns es C
def nseq {Cl : Addr} (s : XS G) (r : XInit G Cl) : XInit G Cl where
  te K E := tSeq (s.te K E) (r.te K E)
  pre B X ss ns es C := s.pre B X ss { nx := fun ss' => ss'[0]? = ss[0]? ∧ runN r B X ss' ns es C, rt := fun _ => False }
  ok {K Γ x dx ss ns es C} g hx hd h0 h := by
    refine wpN_seq fun fs => s.ok (Γ := Γ.inst x dx Cl fs) g ?_
    refine s.mono (sc_inst hx hd) (fun _ h => h) ?_ h
    refine ⟨fun ss' z => ?_, fun _ h => h, fun _ h => h, fun _ h => h⟩
    obtain ⟨z1, z2⟩ := z
    exact r.ok g hx hd (z1.trans h0) z2
  mono l x c h := by
    refine s.mono l x ?_ h
    refine ⟨fun ss' z => ?_, fun _ h => h, fun _ h => h, fun _ h => h⟩
    obtain ⟨z1, z2⟩ := z
    exact ⟨z1, r.mono l x c z2⟩
/-- an __init__ of n arguments behind self, m slots -/
def xi {Cl : Addr} (n m : Nat) (r : XInit G Cl) : XF where
  F B ds C X := ds.length = n ∧ ∀ p : Addr, r.pre B X (ss0 (.cell p :: ds) m) [] [] C
  mono l x c h := ⟨h.1, fun p => r.mono l x c (h.2 p)⟩
theorem xi_ok {Cl : Addr} {n m : Nat} {r : XInit G Cl} {K : Fr} {Γ : Cxt} {x dx : Addr} {ds : List D} {C : D → Prop} (g : G K) (hx : ¬ Γ.S x) (hd : ¬ Γ.S dx) (h : (xi n m r).F (sc Γ) ds C Γ.X) : wpN K Γ x dx Cl [] [] (r.te K Γ.E) (ss0 (.cell x :: ds) m) C :=
  r.ok g hx hd rfl (h.2 x)
/-- the arguments behind the n-th one are a tuple -/
def xstar (n : Nat) (f : XF) : XF where
  F := starF n f.F
  mono l x c h := ⟨h.1, h.2.1, f.mono l x c h.2.2⟩
def mk0 (Cl : Addr) (f : XF) (a : XA G) : XE G where
  te K E := StX.tMakeR Cl (spI K Cl f.F) E0 (a.te K E)
  pre B X ss C := a.pre B X ss fun ds => f.F B ds C fun _ => False
  ok g h := wpE_makeG (fun _ z => z.elim) (fun B B' ds C X m h => f.mono m (fun _ h => h) (fun _ h => h) h) (a.ok g h)
  mono l x c h := a.mono l x (fun d h => f.mono l (fun _ h => h) c h) h
def mkE (Cl : Addr) (f : XF) (a : XA G) : XE G where
  te K E := StX.tMakeR Cl (spI K Cl f.F) E (a.te K E)
  pre B X ss C := a.pre B X ss fun ds => f.F B ds C X
  ok g h := wpE_makeG (fun _ z => ⟨z, rfl⟩) (fun B B' ds C X m h => f.mono m (fun _ h => h) (fun _ h => h) h) (a.ok g h)
  mono l x c h := a.mono l x (fun d h => f.mono l x c h) h
def fld (Cl : Addr) (f : Str) (a : XE G) : XE G where
  te K E := tFldC Cl (a.te K E) f
  pre B X ss C := a.pre B X ss fun y => ∃ ns es d, y = .ins Cl ns es ∧ fldOf f ns es = some d ∧ C d
  ok g h := wpE_fld (a.ok g h)
  mono l x c h := a.mono l x (fun d h => by obtain ⟨ns, es, d, e1, e2, h⟩ := h; exact ⟨ns, es, d, e1, e2, c _ h⟩) h
def prp (Cl : Addr) (f : XF) (a : XE G) : XE G where
  te K E := tPropC Cl (spF K f.F) E0 (a.te K E)
  pre B X ss C := a.pre B X ss fun y => ∃ ns es, y = .ins Cl ns es ∧ f.F B [y] C fun _ => False
  ok g h := wpE_prop0 (fun B B' ds C X m h => f.mono m (fun _ h => h) (fun _ h => h) h) (a.ok g h)
  mono l x c h := a.mono l x (fun d h => by obtain ⟨ns, es, e1, h⟩ := h; exact ⟨ns, es, e1, f.mono l (fun _ h => h) c h⟩) h
section
variable {B : Sc} {X : XP} {ss : List Sl} {Cl : Addr} {ns : List Str} {es : List D} {C : D → Prop}
@[simp] theorem nset_pre (f : Str) (a : XE G) (r : XInit G Cl) : (nset f a r).pre B X ss ns es C = ((f ∉ ns ∧ ns.length < 1000) ∧ a.pre B X ss fun d => r.pre B X ss (ns ++ [f]) (es ++ [d]) C) := rfl
@[simp] theorem nlast_pre (f : Str) (a : XE G) : ((nlast f a) : XInit G Cl).pre B X ss ns es C = ((f ∉ ns ∧ ns.length < 1000) ∧ a.pre B X ss fun d => C (.ins Cl (ns ++ [f]) (es ++ [d]))) := rfl
@[simp] theorem nseq_pre (s : XS G) (r : XInit G Cl) : (nseq s r).pre B X ss ns es C = s.pre B X ss { nx := fun ss' => ss'[0]? = ss[0]? ∧ runN r B X ss' ns es C, rt := fun _ => False } := rfl
@[simp] theorem runN_cons (r : XInit G Cl) (s : Sl) (rs : List Sl) : runN r B X (s :: rs) ns es C = r.pre B X (s :: rs) ns es C := rfl
theorem xi_F {n m : Nat} {r : XInit G Cl} {ds : List D} : (xi n m r).F B ds C X = (ds.length = n ∧ ∀ p : Addr, r.pre B X (.val (.cell p) :: (ds.map Sl.val ++ List.replicate (m - (ds.length + 1)) .un)) [] [] C) := rfl
theorem xstar_F {n : Nat} {f : XF} {ds : List D} : (xstar n f).F B ds C X = (n ≤ ds.length ∧ ds.length ≤ 100000 ∧ f.F B (ds.take n ++ [.tup (ds.drop n)]) C X) := rfl
@[simp] theorem mk0_pre (f : XF) (a : XA G) : ((mk0 Cl f a) : XE G).pre B X ss C = (a.pre B X ss fun ds => f.F B ds C fun _ => False) := rfl
@[simp] theorem mkE_pre (f : XF) (a : XA G) : ((mkE Cl f a) : XE G).pre B X ss C = (a.pre B X ss fun ds => f.F B ds C X) := rfl
@[simp] theorem fld_pre (f : Str) (a : XE G) : ((fld Cl f a) : XE G).pre B X ss C = (a.pre B X ss fun y => ∃ ns es d, y = .ins Cl ns es ∧ fldOf f ns es = some d ∧ C d) := rfl
@[simp] theorem prp_pre (f : XF) (a : XE G) : ((prp Cl f a) : XE G).pre B X ss C = (a.pre B X ss fun y => ∃ ns es, y = .ins Cl ns es ∧ f.F B [y] C fun _ => False) := rfl
end
end XQ
/-! comprehensions of two clauses -/
namespace SQ
open PySem PySem.Spec PyProof.Rows L2
section
variable {K : PySem.W.Frag} {Γ : Cxt} {H0 H : Hp} {τ τ1 T1 T2 : Ps} {ss : List Sl} {σ : L2.St} {wi wi1 : TI} {g g1 : TG} {tt tt1 : TT} {te : TE} {us us1 : List Nat} {A : Addr} {acc : List D}
theorem pmid (X Y Z : Ps) (p : Sl × Option V) : (p :: (X ++ (Y ++ Z))).Perm (X ++ (Y ++ p :: Z)) := by
  rw [← List.append_assoc, ← List.append_assoc]
  exact List.perm_middle.symm
/-- what a block of a comprehension stands in -/
theorem blk_in {us : List Nat} (hl : σ.length = ss.length) : ∃ lost : Ps, (∀ {acc : List D} {d : D} {x : V} {H2 : Hp}, Env K Γ H0 H2 ((.val d, some x) :: (ss.zip σ ++ (T1 ++ ((.own acc, some (.ref A)) :: T2)))) → Env K Γ H0 H2 ((.val d, some x) :: ((wipeS ss us).zip (wipe σ us) ++ (lost ++ (T1 ++ ((.own acc, some (.ref A)) :: T2)))))) ∧
    ∀ (acc : List D) (ss2 : List Sl) (σ2 : L2.St) (H3 : Hp), σ2.length = ss2.length → wipe σ2 us = wipe (wipe σ us) us → wipeS ss2 us = wipeS (wipeS ss us) us → Env K Γ H0 H3 (ss2.zip σ2 ++ (lost ++ (T1 ++ ((.own acc, some (.ref A)) :: T2)))) → Env K Γ H0 H3 (ss.zip σ ++ (T1 ++ ((.own acc, some (.ref A)) :: T2))) := by
  obtain ⟨lost, hlost⟩ := wiped_pile hl us
  refine ⟨lost, fun {acc d x H2} J => ?_, fun acc ss2 σ2 H3 hl2 e1 e2 I3 => ?_⟩
  · have a1 : Env K Γ H0 H2 (ss.zip σ ++ ((.val d, some x) :: (T1 ++ ((.own acc, some (.ref A)) :: T2)))) := J.perm List.perm_middle.symm
    have a2 := (hlost K Γ H0 H2 _).mp a1
    refine a2.perm ?_
    rw [← List.append_assoc, ← List.append_assoc (bs := lost)]
    exact List.perm_middle
  · obtain ⟨l2, h2⟩ := wiped_pile hl2 us
    have b1 := (h2 K Γ H0 H3 _).mp I3
    have b2 : Env K Γ H0 H3 ((wipeS ss2 us).zip (wipe σ2 us) ++ (lost ++ (T1 ++ ((.own acc, some (.ref A)) :: T2)))) := (b1.perm (by
      rw [← List.append_assoc]
      exact (List.perm_append_comm.append_right _).trans (by rw [List.append_assoc]))).dropL (qs := l2)
    rw [e1, e2, wipe_wipe, wipeS_wipeS] at b2
    exact (hlost K Γ H0 H3 _).mpr b2
/-- an item is put to the comprehension's list -/
theorem put_acc {d : D} {v : V} {H5 : Hp} (I5 : Env K Γ H0 H5 ((.val d, some v) :: (ss.zip σ ++ (T1 ++ ((.own acc, some (.ref A)) :: T2))))) (hz : acc.length < 100000) :
    ∃ ws, H5 A = some (.lst ws) ∧ ws.length < sizeLine ∧ Env K Γ H0 (upd H5 A (.lst (ws ++ [v]))) (ss.zip σ ++ (T1 ++ ((.own (acc ++ [d]), some (.ref A)) :: T2))) := by
  have pa : ((.val d, some v) :: (ss.zip σ ++ (T1 ++ ((Sl.own acc, some (V.ref A)) :: T2))) : Ps).Perm ((.own acc, some (.ref A)) :: (.val d, some v) :: (ss.zip σ ++ (T1 ++ T2))) := by
    refine List.Perm.trans (List.Perm.cons _ ?_) (List.Perm.swap _ _ _)
    exact (pmid _ _ _ _).symm
  have I6 := I5.perm pa
  obtain ⟨ws, hw, rw'⟩ := I6.own List.mem_cons_self
  refine ⟨ws, hw, Nat.lt_of_lt_of_le (by rw [← rw'.length]; exact hz) (show 100000 ≤ sizeLine by decide), ?_⟩
  have rd := I6.val (d := d) (v := v) (List.mem_cons_of_mem _ List.mem_cons_self)
  have I7 := I6.write (rw'.app (Reps.one rd))
  have I8 := (I7.perm (List.Perm.swap _ _ _)).drop
  exact I8.perm (pmid _ _ _ _)
theorem wpO_lc2 {C : List D → Prop} (h : wpI K Γ wi ss fun ds => ∃ I : Nat → List D → Prop, I 0 [] ∧
      (∀ i d acc, ds[i]? = some d → I i acc → wpG K Γ us g d (wipeS ss us) fun ss2 => wpT K Γ tt ss2 fun b => if b = true then wpI K Γ wi1 ss2 fun ds1 => ∃ I1 : Nat → List D → Prop, I1 0 acc ∧
        (∀ j d1 acc1, ds1[j]? = some d1 → I1 j acc1 → wpG K Γ us1 g1 d1 (wipeS ss2 us1) fun ss3 => wpT K Γ tt1 ss3 fun b1 => if b1 = true then wpE K Γ te ss3 fun y => acc1.length < 100000 ∧ I1 (j + 1) (acc1 ++ [y]) else I1 (j + 1) acc1) ∧ (∀ acc1, I1 ds1.length acc1 → I (i + 1) acc1)
        else I (i + 1) acc) ∧ (∀ acc, I ds.length acc → C acc)) :
    wpO K Γ (tLc2 wi g tt wi1 g1 tt1 te us us1) ss C := fun H0 σ H τ hl I Q q =>
  h H0 σ H τ hl I _ fun J H1 ds τ1 I1 w ⟨P, p0, ps, pd⟩ => fun A hA => by
    have hlw : (wipe σ us).length = (wipeS ss us).length := by rw [wipe_length, wipeS_length, hl]
    obtain ⟨lost, into, back⟩ := blk_in (K := K) (Γ := Γ) (H0 := H0) (A := A) (T1 := τ1) (T2 := τ) (us := us) hl
    refine ⟨fun i m H' => m = ds.length - i ∧ i ≤ ds.length ∧ ∃ acc, Env K Γ H0 H' (ss.zip σ ++ (τ1 ++ ((.own acc, some (.ref A)) :: τ))) ∧ P i acc, ⟨ds.length, by simp, Nat.zero_le _, [], (I1.pushO hA (Reps.nil)).perm (pmid _ _ _ _), p0⟩, ?_⟩
    rintro i m H' ⟨rfl, hi, acc, I', p⟩
    obtain ⟨w1, w2⟩ := w H0 H' _ I' (fun q hq => List.mem_append_right _ (List.mem_append_left _ hq))
    by_cases hlt : i < ds.length
    · have hd : ds[i]? = some ds[i] := List.getElem?_eq_getElem hlt
      obtain ⟨g1', g2'⟩ := w1 i _ hd
      refine .inr ⟨g1', fun H2 => i + 1 ≤ ds.length ∧ ∃ acc, Env K Γ H0 H2 (ss.zip σ ++ (τ1 ++ ((.own acc, some (.ref A)) :: τ))) ∧ P (i + 1) acc, ?_, fun x H2 y => ?_⟩
      · rintro H2 ⟨h1, acc, I2, p2⟩
        exact ⟨ds.length - (i + 1), by omega, rfl, h1, acc, I2, p2⟩
      · have J3 := into (g2' x H2 y)
        refine ps i _ acc hd p H0 (wipe σ us) H2 _ x hlw J3 _ fun ss2 σ2 H3 hl2 e1 e2 I2 c => ⟨e1.trans (wipe_wipe σ us), ?_⟩
        refine c H0 σ2 H3 _ hl2 I2 _ fun b H4 I4 c4 => ?_
        cases b with
        | false => exact ⟨hlt, acc, back acc ss2 σ2 H4 hl2 e1 e2 I4, c4⟩
        | true =>
          refine c4 H0 σ2 H4 _ hl2 I4 _ fun J1 H5 ds1 τ2 I5 w' ⟨P1, q0, qs, qd⟩ => ?_
          have hlw2 : (wipe σ2 us1).length = (wipeS ss2 us1).length := by rw [wipe_length, wipeS_length, hl2]
          obtain ⟨lost2, into2, back2⟩ := blk_in (K := K) (Γ := Γ) (H0 := H0) (A := A) (T1 := τ2 ++ (lost ++ τ1)) (T2 := τ) (us := us1) hl2
          have as1 : ∀ acc : List D, τ2 ++ (lost ++ (τ1 ++ ((Sl.own acc, some (V.ref A)) :: τ))) = (τ2 ++ (lost ++ τ1)) ++ ((Sl.own acc, some (V.ref A)) :: τ) := fun acc => by simp only [List.append_assoc]
          rw [as1] at I5
          refine ⟨fun j k H' => k = ds1.length - j ∧ j ≤ ds1.length ∧ ∃ acc1, Env K Γ H0 H' (ss2.zip σ2 ++ ((τ2 ++ (lost ++ τ1)) ++ ((.own acc1, some (.ref A)) :: τ))) ∧ P1 j acc1, ⟨ds1.length, by simp, Nat.zero_le _, acc, I5, q0⟩, ?_⟩
          rintro j k H6 ⟨rfl, hj, acc1, I6, p1⟩
          rw [← as1] at I6
          obtain ⟨v1, v2⟩ := w' H0 H6 _ I6 (fun q hq => List.mem_append_right _ (List.mem_append_left _ hq))
          by_cases hlt1 : j < ds1.length
          · have hd1 : ds1[j]? = some ds1[j] := List.getElem?_eq_getElem hlt1
            obtain ⟨g3, g4⟩ := v1 j _ hd1
            refine .inr ⟨g3, fun H7 => j + 1 ≤ ds1.length ∧ ∃ acc1, Env K Γ H0 H7 (ss2.zip σ2 ++ ((τ2 ++ (lost ++ τ1)) ++ ((.own acc1, some (.ref A)) :: τ))) ∧ P1 (j + 1) acc1, ?_, fun x1 H7 y1 => ?_⟩
            · rintro H7 ⟨h1, acc1, I7, p2⟩
              exact ⟨ds1.length - (j + 1), by omega, rfl, h1, acc1, I7, p2⟩
            · have J7 := g4 x1 H7 y1
              rw [as1] at J7
              refine qs j _ acc1 hd1 p1 H0 (wipe σ2 us1) H7 _ x1 hlw2 (into2 J7) _ fun ss3 σ3 H8 hl3 e3 e4 I8 c8 => ⟨e3.trans (wipe_wipe σ2 us1), ?_⟩
              refine c8 H0 σ3 H8 _ hl3 I8 _ fun b1 H9 I9 c9 => ?_
              cases b1 with
              | false => exact ⟨hlt1, acc1, back2 acc1 ss3 σ3 H9 hl3 e3 e4 I9, c9⟩
              | true =>
                refine c9 H0 σ3 H9 _ hl3 I9 _ fun v d H10 I10 c10 => ?_
                rw [← List.append_assoc lost2] at I10
                obtain ⟨ws, hw, hs, I11⟩ := put_acc I10 c10.1
                rw [List.append_assoc lost2] at I11
                exact ⟨ws, hw, hs, hlt1, acc1 ++ [d], back2 (acc1 ++ [d]) ss3 σ3 _ hl3 e3 e4 I11, c10.2⟩
          · have hj' : j = ds1.length := by omega
            subst hj'
            refine .inl ⟨v2, hlt, acc1, back acc1 ss2 σ2 H6 hl2 e1 e2 ?_, qd acc1 p1⟩
            have : (ss2.zip σ2 ++ (τ2 ++ (lost ++ (τ1 ++ ((Sl.own acc1, some (V.ref A)) :: τ))))).Perm (τ2 ++ (ss2.zip σ2 ++ (lost ++ (τ1 ++ ((Sl.own acc1, some (V.ref A)) :: τ))))) := by
              rw [← List.append_assoc (ss2.zip σ2) τ2, ← List.append_assoc τ2 (ss2.zip σ2)]; exact List.perm_append_comm.append_right _
            exact (I6.perm this).dropL
    · have hi' : i = ds.length := by omega
      subst hi'
      refine .inl ⟨w2, ?_⟩
      have I3 := I'.perm (pmid _ _ _ _).symm
      have I4 : Env K Γ H0 H' ((.own acc, some (.ref A)) :: (ss.zip σ ++ τ)) := (I3.perm (by
        have : (((Sl.own acc, some (V.ref A)) :: (ss.zip σ ++ (τ1 ++ τ))) : Ps).Perm (τ1 ++ ((Sl.own acc, some (V.ref A)) :: (ss.zip σ ++ τ))) := by
          refine List.Perm.trans (List.Perm.cons _ ?_) List.perm_middle.symm
          rw [← List.append_assoc, ← List.append_assoc]; exact List.perm_append_comm.append_right _
        exact this)).dropL
      exact q A acc H' I4 (pd acc p)
end
end SQ
/-! comprehensions of two clauses -/
namespace XQ
open PySem PySem.Spec PyProof.Rows L2 SQ
variable {G : Fr → Prop}
theorem wipe_mr {σ σ' : L2.St} {us : List Nat} (h : wipe σ' us = wipe σ us) : ∀ vs : List Nat, wipe σ' (vs ++ us) = wipe σ (vs ++ us)
  | [] => h
  | v :: vs => by
    show (wipe σ' (vs ++ us)).set v none = (wipe σ (vs ++ us)).set v none
    rw [wipe_mr h vs]
theorem wipeS_mr {σ σ' : List Sl} {us : List Nat} (h : wipeS σ' us = wipeS σ us) : ∀ vs : List Nat, wipeS σ' (vs ++ us) = wipeS σ (vs ++ us)
  | [] => h
  | v :: vs => by
    show (wipeS σ' (vs ++ us)).set v .un = (wipeS σ (vs ++ us)).set v .un
    rw [wipeS_mr h vs]
theorem wpG_more {K : Fr} {Γ : Cxt} {us : List Nat} {g : TG} {d : D} {ss : List Sl} {C : List Sl → Prop} (vs : List Nat) (h : wpG K Γ us g d ss C) : wpG K Γ (vs ++ us) g d ss C := fun H0 σ H τ x hl I Q q =>
  h H0 σ H τ x hl I Q fun ss' σ' H' a e1 e2 I' c => q ss' σ' H' a (wipe_mr e1 vs) (wipeS_mr e2 vs) I' c
/-- the inner clause's items -/
def lcWb (b : D → (Option D → Prop) → Prop) : List D → List D → (List D → Prop) → Prop
  | [], acc, C => C acc
  | d :: r, acc, C => b d fun o => (o.isSome = true → acc.length < 100000) ∧ lcWb b r (acc ++ o.toList) C
theorem lcWb_mono {b b' : D → (Option D → Prop) → Prop} (hb : ∀ d C C', (∀ o, C o → C' o) → b d C → b' d C') : ∀ (ds acc : List D) (C C' : List D → Prop), (∀ x, C x → C' x) → lcWb b ds acc C → lcWb b' ds acc C'
  | [], acc, C, C', m, h => m _ h
  | d :: r, acc, C, C', m, h => hb _ _ _ (fun o h => ⟨h.1, lcWb_mono hb r _ C C' m h.2⟩) h
theorem lcWb_drop {b : D → (Option D → Prop) → Prop} {ds acc : List D} {i : Nat} {d : D} {C : List D → Prop} (hd : ds[i]? = some d) : lcWb b (ds.drop i) acc C = b d fun o => (o.isSome = true → acc.length < 100000) ∧ lcWb b (ds.drop (i + 1)) (acc ++ o.toList) C := by
  obtain ⟨h, e1⟩ := List.getElem?_eq_some_iff.mp hd
  rw [List.drop_eq_getElem_cons h, e1]; rfl
/-- the outer clause's items -/
def lc2W (b : D → List D → (List D → Prop) → Prop) : List D → List D → (List D → Prop) → Prop
  | [], acc, C => C acc
  | d :: r, acc, C => b d acc fun acc' => lc2W b r acc' C
theorem lc2W_mono {b b' : D → List D → (List D → Prop) → Prop} (hb : ∀ d acc C C', (∀ o, C o → C' o) → b d acc C → b' d acc C') : ∀ (ds acc : List D) (C C' : List D → Prop), (∀ x, C x → C' x) → lc2W b ds acc C → lc2W b' ds acc C'
  | [], acc, C, C', m, h => m _ h
  | d :: r, acc, C, C', m, h => hb _ _ _ _ (fun o h => lc2W_mono hb r _ C C' m h) h
theorem lc2W_drop {b : D → List D → (List D → Prop) → Prop} {ds acc : List D} {i : Nat} {d : D} {C : List D → Prop} (hd : ds[i]? = some d) : lc2W b (ds.drop i) acc C = b d acc fun acc' => lc2W b (ds.drop (i + 1)) acc' C := by
  obtain ⟨h, e1⟩ := List.getElem?_eq_some_iff.mp hd
  rw [List.drop_eq_getElem_cons h, e1]; rfl
def lc2T (g : XG) (t : XT G) (w1 : XI G) (g1 : XG) (t1 : XT G) (a : XE G) (B : Sc) (X : XP) (ss : List Sl) (d : D) (acc : List D) (C : List D → Prop) : Prop :=
  g.pre d (wipeS ss (g1.us ++ g.us)) fun s2 => t.pre B X s2 fun k => if k = true then w1.pre B X s2 fun ds1 => lcWb (lcT g1 t1 a B X s2) ds1 acc C else C acc
def lc2 (w : XI G) (g : XG) (t : XT G) (w1 : XI G) (g1 : XG) (t1 : XT G) (a : XE G) : XO G where
  te K E := tLc2 (w.te K E) (g.te K) (t.te K E) (w1.te K E) (g1.te K) (t1.te K E) (a.te K E) (g1.us ++ g.us) g1.us
  pre B X ss C := w.pre B X ss fun ds => lc2W (lc2T g t w1 g1 t1 a B X ss) ds [] C
  ok gg h := wpO_lc2 (us := g1.us ++ g.us) (us1 := g1.us) (wpI_mono (w.ok gg h) fun ds h => by
    refine ⟨fun i acc => lc2W (lc2T g t w1 g1 t1 a _ _ _) (ds.drop i) acc _, h, ?_, ?_⟩
    · intro i d acc hd hI
      rw [lc2W_drop hd] at hI
      refine wpG_more _ (wpG_mono (g.ok hI) fun s2 h => (t.ok gg h).mono fun k h => ?_)
      split
      · rename_i z; rw [if_pos z] at h
        refine wpI_mono (w1.ok gg h) fun ds1 h => ?_
        refine ⟨fun j acc1 => lcWb (lcT g1 t1 a _ _ _) (ds1.drop j) acc1 _, h, ?_, ?_⟩
        · intro j d1 acc1 hd1 hI1
          rw [lcWb_drop hd1] at hI1
          refine wpG_mono (g1.ok hI1) fun s3 h => (t1.ok gg h).mono fun k h => ?_
          split
          · rename_i z; rw [if_pos z] at h
            exact (a.ok gg h).mono fun y h => ⟨h.1 rfl, h.2⟩
          · rename_i z; rw [if_neg z] at h; simpa using h
        · intro acc1 hI1
          rw [List.drop_length] at hI1
          exact hI1
      · rename_i z; rw [if_neg z] at h; exact h
    · intro acc hI
      rw [List.drop_length] at hI
      exact hI)
  mono l x c h := w.mono l x (fun ds h => lc2W_mono (fun d acc C C' m h => g.mono (fun s2 h => t.mono l x (fun k h => by
    split
    · rename_i z; rw [if_pos z] at h
      refine w1.mono l x (fun ds1 h => lcWb_mono (fun d C C' m h => g1.mono (fun s3 h => t1.mono l x (fun k h => by
        split
        · rename_i z; rw [if_pos z] at h; exact a.mono l x (fun y h => m _ h) h
        · rename_i z; rw [if_neg z] at h; exact m _ h) h) h) ds1 acc _ _ m h) h
    · rename_i z; rw [if_neg z] at h; exact m _ h) h) h) ds [] _ _ c h) h
section
variable {B : Sc} {X : XP} {ss : List Sl}
@[simp] theorem lc2_pre (w : XI G) (g : XG) (t : XT G) (w1 : XI G) (g1 : XG) (t1 : XT G) (a : XE G) {C : List D → Prop} : (lc2 w g t w1 g1 t1 a).pre B X ss C = w.pre B X ss fun ds => lc2W (lc2T g t w1 g1 t1 a B X ss) ds [] C := rfl
@[simp] theorem lc2T_def {g : XG} {t : XT G} {w1 : XI G} {g1 : XG} {t1 : XT G} {a : XE G} {d : D} {acc : List D} {C : List D → Prop} : lc2T g t w1 g1 t1 a B X ss d acc C =
  g.pre d (wipeS ss (g1.us ++ g.us)) fun s2 => t.pre B X s2 fun k => if k = true then w1.pre B X s2 fun ds1 => lcWb (lcT g1 t1 a B X s2) ds1 acc C else C acc := rfl
@[simp] theorem lc2W_nil {b : D → List D → (List D → Prop) → Prop} {acc : List D} {C : List D → Prop} : lc2W b [] acc C = C acc := rfl
@[simp] theorem lcWb_nil {b : D → (Option D → Prop) → Prop} {acc : List D} {C : List D → Prop} : lcWb b [] acc C = C acc := rfl
theorem lc2W_cons {b : D → List D → (List D → Prop) → Prop} {d : D} {r acc : List D} {C : List D → Prop} : lc2W b (d :: r) acc C = b d acc fun acc' => lc2W b r acc' C := rfl
theorem lcWb_cons {b : D → (Option D → Prop) → Prop} {d : D} {r acc : List D} {C : List D → Prop} : lcWb b (d :: r) acc C = b d fun o => (o.isSome = true → acc.length < 100000) ∧ lcWb b r (acc ++ o.toList) C := rfl
end
end XQ
/-! the ends of own classes -/
namespace SQ
open PySem PySem.Spec PyProof.Rows L2
/-- an __init__ stands there -/
structure InitF (K : PySem.W.Frag) (mg : Str → Option Value) (y qual : Str) (st : Stmt) (C : Addr) : Prop where
  ex : ∃ (f : Addr) (fd : FuncData), Fun K "__init__" qual st f fd ∧ Mk K C f ∧ mg y = some (.ref C)
/-- a property's getter stands there -/
structure PropF (K : PySem.W.Frag) (x qual : Str) (st : Stmt) (C : Addr) : Prop where
  ex : ∃ (p g : Addr) (fd : FuncData), Fun K x qual st g fd ∧ Cls K C ∧ PropOf K C x p g ∧ Binds K fd ["self"] []
section
variable {P : Program} {w : World} {K : PySem.W.Frag} {mg : Str → Option Value} {base : Heap} {x qual : Str} {st : Stmt} {C : Addr} {N : List Str} {k : Nat} {F FI : Fn}
theorem prop_of (Df : PropF K x qual st C) (S : FnScope N ["self"] (defScope st)) (len : ∀ B ds C X, F B ds C X → ds.length = 1)
    (body : ∀ (g : Addr) (cdv : Value) (A : Around) (outer : List PySem.Env) (s : Shared) (H : Hp) (E : XK), Room k (A.deeper (envOfC qual (defScope st) s.heap.objs.size g cdv)) →
      ∃ t, PSs (cxOf CX0 P w K mg base N qual (defScope st) g cdv A outer s H E).nox (defBody st) t ∧ ∀ (Γ : Cxt) (ds : List D) (C : D → Prop), F (sc Γ) ds C Γ.X → wpS K Γ t (ss0 ds N.length) (en0 C)) : PropN P w K mg base (k + 1) C x (spF K F) := by
  obtain ⟨p, g, fd, Fd, cl, hp, hb⟩ := Df.ex
  refine ⟨p, g, fd, ["self"], Fd.ok S (fun vs H Q E h => ?_) (fun cdv A outer s H vs Q E hr h => ?_), cl, hp, hb⟩
  · obtain ⟨Γ, ds, C, _, _, r, h, _⟩ := h
    rw [← r.length, len _ _ _ _ h]; rfl
  · obtain ⟨t, ht, hw⟩ := body g cdv A outer s H E hr
    exact ⟨t, ht, run_def h fun Γ ds C _ f => hw Γ ds C f⟩
theorem init_ofS {y pv : Str} {n : Nat} {ps : List Str} (Df : InitF K mg y qual st C) (hn : ps.length = n + 1)
    (hb : ∀ (kV doc pm : Value) (an : Option Addr) (cdv ct : Value) (us rest : List Value), us.length = ps.length → bindArgs (PySem.W.fnOf "__init__" qual (defArgs st) (defBody st) (defScope st) .none kV doc pm an cdv ct) ⟨us ++ rest, []⟩ = (newTuple rest >>= fun t => pure (ps.zip us ++ [(pv, t)])))
    (S : FnScope N (ps ++ [pv]) (defScope st))
    (body : ∀ (f : Addr) (cdv : Value) (A : Around) (outer : List PySem.Env) (s : Shared) (H : Hp) (E : XK), Room k (A.deeper (envOfC qual (defScope st) s.heap.objs.size f cdv)) →
      ∃ t, PSs (cxOf (L2.CX P w) P w K mg base N qual (defScope st) f cdv A outer s H E) (defBody st) t ∧
        ∀ (Γ : Cxt) (x dx : Addr) (ds : List D) (Cc : D → Prop), ¬ Γ.S x → ¬ Γ.S dx → Γ.E = E → FI (sc Γ) ds Cc Γ.X → wpN K Γ x dx C [] [] t (ss0 (.cell x :: ds) N.length) Cc) : MakX P w K mg base (k + 1) y C (spI K C (starF n FI)) := by
  obtain ⟨f, fd, Fd, M, hm⟩ := Df.ex
  exact init_star Fd M hm hn hb S (body f)
/-- what the head finds -/
theorem initF {h : Heap} {f : Addr} {oc kV doc pm cdv ct : Value} {od an : Option Addr} {osl : Array (Option Value)} {y : Str} (X : K.In h) (G : h.Ns mainGlobals mg) (aC : PySem.W.nsIn K mainGlobals y = some (some (.ref C)))
    (a : PySem.W.findIn K (.ref C) "__init__" = some (some (.ref f))) (i : PySem.W.isFn K (.ref f) = true) (l : K.lookup f = some ⟨oc, od, .func (PySem.W.fnOf "__init__" qual (defArgs st) (defBody st) (defScope st) .none kV doc pm an cdv ct), osl⟩)
    (cd : PySem.W.codeIn K cdv qual = true) (kp : PySem.W.keepIn K (.ref f) = true) (mk : PySem.W.makesIn K C = true) (kc : PySem.W.keepIn K (.ref C) = true) : InitF K mg y qual st C :=
  ⟨f, _, fun_mk l cd kp, ⟨mk, a, i, kc⟩, PySem.W.mg_of X G aC⟩
theorem propF {f p : Addr} {oc kV doc pm cdv ct : Value} {od an : Option Addr} {osl : Array (Option Value)} {rest : List Value} (cl : Cls K C) (at_ : PySem.W.findIn K (.ref C) x = some (some (.ref p)))
    (get : PySem.W.specialIn K (.ref p) "__get__" = some (some (.builtin "property.__get__"))) (tak : PySem.W.takesIn K (.ref p) = some true) (rec_ : PySem.W.recIn K p "property" = some (.ref f :: rest))
    (l : K.lookup f = some ⟨oc, od, .func (PySem.W.fnOf x qual (defArgs st) (defBody st) (defScope st) .none kV doc pm an cdv ct), osl⟩) (cd : PySem.W.codeIn K cdv qual = true) (kp : PySem.W.keepIn K (.ref f) = true)
    (b : ∀ (kV doc pm : Value) (an : Option Addr) (cdv ct : Value) (us : List Value), us.length = ["self"].length → bindArgs (PySem.W.fnOf x qual (defArgs st) (defBody st) (defScope st) .none kV doc pm an cdv ct) ⟨us, []⟩ = pure ((["self"] : List Str).zip us)) : PropF K x qual st C := by
  have F := fun_mk (st := st) l cd kp
  exact ⟨p, f, _, F, cl, ⟨at_, get, tak, rest, rec_⟩, F.binds b⟩
end
end SQ
/-! a def's own list of own lists -/
namespace SQ
open PySem PySem.Spec PyProof.Rows L2
abbrev Zs := List (Addr × List D)
def innP (zs : Zs) : Ps := zs.map fun z => (.own z.2, some (.ref z.1))
section
variable (K : PySem.W.Frag) (Γ : Cxt)
def wpZ (t : TS) (ss : List Sl) (zs : Zs) (e : List Sl → Zs → Prop) : Prop := ∀ H0 σ H τ D, σ.length = ss.length → Env K Γ H0 H (ss.zip σ ++ (innP zs ++ τ)) →
  (∀ ss' zs' σ' H', σ'.length = ss'.length → Env K Γ H0 H' (ss'.zip σ' ++ (innP zs' ++ τ)) → e ss' zs' → D.nx σ' H') → t D σ H
end
section
variable {K : PySem.W.Frag} {Γ : Cxt} {H0 H : Hp} {τ τ1 : Ps} {ss : List Sl} {σ : L2.St} {wi : TI} {g : TG} {tt : TT} {te : TE} {us : List Nat} {zs : Zs} {e e' : List Sl → Zs → Prop} {t t1 t2 : TS} {A : Addr} {i : Nat}
end
end SQ
/-! methods of own classes -/
namespace SQ
open PySem PySem.Spec PyProof.Rows L2
theorem ins_lookup {m : Str} : ∀ {ns : List Str} {fs : List (Str × V)}, fs.map (·.1) = ns → m ∉ ns → fs.lookup m = none
  | _, [], _, _ => rfl
  | [], (g, y) :: fs, e, _ => by cases e
  | n :: ns, (g, y) :: fs, e, h => by
    simp only [List.mem_cons, not_or] at h
    have eg : g = n := (List.cons.inj e).1
    subst eg
    rw [List.lookup, show (m == g) = false by simpa using h.1]
    exact ins_lookup (List.cons.inj e).2 h.2
section
variable {K : PySem.W.Frag} {Γ : Cxt} {H0 H H' : Hp} {τ ps qs : Ps} {ss : List Sl} {σ : L2.St} {e : En} {te tb : TE} {ta : TA} {Cl x dx : Addr} {C : D → Prop} {fs : List (Str × V)} {m : Str}
theorem wpE_methG {X' : Exc → Prop} {E' : XK} (hX : ∀ x, X' x → Γ.X x ∧ Γ.E = E') {F : Fn} (mono : ∀ B B' ds C X, Sc.le B B' → F B ds C X → F B' ds C X)
    (h : wpE K Γ te ss fun y => ∃ ns es, y = .ins Cl ns es ∧ m ∉ ns ∧ wpA K Γ ta ss fun ds => F (sc Γ) (y :: ds) C X') : wpE K Γ (tMethR Cl m (spF K F) E' te ta) ss C := fun H0 σ H τ hl I Q q =>
  h H0 σ H τ hl I _ fun y dy H1 J1 c => by
    obtain ⟨ns, es, rfl, hm, h1⟩ := c
    have rv := J1.val List.mem_cons_self
    obtain ⟨a, dx, fs, rfl, n, hi, e1, re⟩ := rv
    refine ⟨a, dx, fs, rfl, hi, ins_lookup e1 hm, ?_⟩
    refine h1 H0 σ H1 ((.val (.ins Cl ns es), some (.ref a)) :: τ) hl (J1.perm List.perm_middle.symm) _ fun vs ds H2 hd J2 hF => ?_
    have J3 : Env K Γ H0 H2 (pile (.ins Cl ns es :: ds) (.ref a :: vs) ++ (ss.zip σ ++ τ)) := J2.perm (by
      rw [pile_cons]
      have : (pile ds vs ++ (ss.zip σ ++ (Sl.val (.ins Cl ns es), some (V.ref a)) :: τ)).Perm ((Sl.val (.ins Cl ns es), some (V.ref a)) :: (pile ds vs ++ (ss.zip σ ++ τ))) := by
        rw [← List.append_assoc, ← List.append_assoc]; exact List.perm_middle
      exact this)
    have J := J3.dropL
    refine ⟨{ Γ.sub (ss.zip σ ++ τ) H2 with X := X', E := E' }, .ins Cl ns es :: ds, C, ⟨J.subOk.al, J.subOk.st⟩, J.subW, J3.piled (by simp [hd]), mono _ _ _ _ _ (Sc.sub J) hF, fun v d H3 r w x c => q v d H3 ((J.back r w).push x) c, fun exc cls d H3 r w y z => ?_⟩
    have J4 := J.back r w
    rw [← (hX exc z).2]
    refine J4.thr exc cls d H3 J4.rel J4.w ?_ (hX exc z).1
    refine ⟨y.1, y.2.imp id ?_⟩
    rintro ⟨dd, fs, e1, e2, e3, e4⟩
    exact ⟨dd, fs, e1, e2, e3, e4.less fun a z => .inl z⟩
end
/-- a method is called -/
structure MethX (P : Program) (w : World) (K : PySem.W.Frag) (mg : Str → Option Value) (base : Heap) (k : Nat) (C : Addr) (m : Str) (sp : Sp) : Prop where
  ex : ∃ f : Addr, FnR P w K mg base (L2.CX P w) k f sp ∧ Cls K C ∧ Meth K C m f
/-- a method stands there -/
structure MethF (K : PySem.W.Frag) (x qual : Str) (st : Stmt) (C : Addr) : Prop where
  ex : ∃ (f : Addr) (fd : FuncData), Fun K x qual st f fd ∧ Cls K C ∧ Meth K C x f
section
variable {X : Cx} {k j : Nat} {C : Addr} {m : Str} {sp : Sp} {o e : Expr} {es : List Expr} {t : TA} {ta : TE} {apos pos : Pos} {pl : Sem Bool}
end
section
variable {P : Program} {w : World} {K : PySem.W.Frag} {mg : Str → Option Value} {base : Heap} {x qual : Str} {st : Stmt} {C : Addr} {N ps : List Str} {k : Nat} {F : Fn}
end
end SQ
/-! x in o, o of an own class with __contains__ -/
namespace SQ
open PySem PySem.Spec PyProof.Rows L2
def rInO (C : Addr) (sp : Sp) : R2 := fun x y H Q => ∃ a dx fs, y = .ref a ∧ H a = some (.ins C dx fs) ∧ sp [.ref a, x] H (fun z H' => ∃ b, z = .bl b ∧ Q (.bl b) H') E0
section
variable {X : Cx} {k j : Nat} {C : Addr} {sp : Sp}
end
section
variable {K : PySem.W.Frag} {Γ : Cxt} {H0 H H' : Hp} {τ ps qs : Ps} {ss : List Sl} {σ : L2.St} {ta tb : TE} {Cl : Addr} {C : D → Prop}
theorem wpE_inO {F : Fn} (mono : ∀ B B' ds C X, Sc.le B B' → F B ds C X → F B' ds C X)
    (h : wpE K Γ ta ss fun d => wpE K Γ tb ss fun y => ∃ ns es, y = .ins Cl ns es ∧ F (sc Γ) [y, d] (fun z => ∃ b, z = .bl b ∧ C (.bl b)) fun _ => False) : wpE K Γ (tOp (rInO Cl (spF K F)) ta tb) ss C := fun H0 σ H τ hl I Q q =>
  h H0 σ H τ hl I _ fun x d H1 J1 h1 => h1 H0 σ H1 ((.val d, some x) :: τ) hl (J1.perm List.perm_middle.symm) _ fun y dy H2 J2 c => by
    obtain ⟨ns, es, rfl, hF⟩ := c
    have J3 : Env K Γ H0 H2 (pile [.ins Cl ns es, d] [y, x] ++ (ss.zip σ ++ τ)) := J2.perm (List.Perm.cons _ List.perm_middle)
    have rv := J2.val List.mem_cons_self
    obtain ⟨a, dx, fs, rfl, n, hi, e1, re⟩ := rv
    have J := J3.dropL
    refine ⟨a, dx, fs, rfl, hi, { Γ.sub (ss.zip σ ++ τ) H2 with X := fun _ => False, E := E0 }, [.ins Cl ns es, d], fun z => ∃ b, z = .bl b ∧ C (.bl b), ⟨J.subOk.al, J.subOk.st⟩, J.subW, J3.piled rfl, mono _ _ _ _ _ (Sc.sub J) hF, fun v z H3 r w x c => ?_, fun exc cls d H3 r w y z => z.elim⟩
    obtain ⟨b, rfl, c⟩ := c
    have ev : v = .bl b := x
    exact ⟨b, ev, q (.bl b) (.bl b) H3 ((J.back r w).push (d := .bl b) (v := .bl b) rfl) c⟩
end
end SQ
/-! zip of a list of tuples: the iterator is made -/
namespace SQ
open PySem PySem.Spec PyProof.Rows L2
theorem typeCall_zipN : ∀ ls : List Value, ls.length ≤ 16 → checkTypeCall "zip" ⟨ls, []⟩ = pure ()
  | [], _ => by kernel_rfl
  | [a0], _ => by kernel_rfl
  | [a0, a1], _ => by kernel_rfl
  | [a0, a1, a2], _ => by kernel_rfl
  | [a0, a1, a2, a3], _ => by kernel_rfl
  | [a0, a1, a2, a3, a4], _ => by kernel_rfl
  | [a0, a1, a2, a3, a4, a5], _ => by kernel_rfl
  | [a0, a1, a2, a3, a4, a5, a6], _ => by kernel_rfl
  | [a0, a1, a2, a3, a4, a5, a6, a7], _ => by kernel_rfl
  | [a0, a1, a2, a3, a4, a5, a6, a7, a8], _ => by kernel_rfl
  | [a0, a1, a2, a3, a4, a5, a6, a7, a8, a9], _ => by kernel_rfl
  | [a0, a1, a2, a3, a4, a5, a6, a7, a8, a9, a10], _ => by kernel_rfl
  | [a0, a1, a2, a3, a4, a5, a6, a7, a8, a9, a10, a11], _ => by kernel_rfl
  | [a0, a1, a2, a3, a4, a5, a6, a7, a8, a9, a10, a11, a12], _ => by kernel_rfl
  | [a0, a1, a2, a3, a4, a5, a6, a7, a8, a9, a10, a11, a12, a13], _ => by kernel_rfl
  | [a0, a1, a2, a3, a4, a5, a6, a7, a8, a9, a10, a11, a12, a13, a14], _ => by kernel_rfl
  | [a0, a1, a2, a3, a4, a5, a6, a7, a8, a9, a10, a11, a12, a13, a14, a15], _ => by kernel_rfl
  | _ :: _ :: _ :: _ :: _ :: _ :: _ :: _ :: _ :: _ :: _ :: _ :: _ :: _ :: _ :: _ :: _ :: _, h => by simp only [List.length_cons] at h; omega
theorem newCall_zipN : ∀ ls : List Value, ls.length ≤ 16 → checkBuiltinCall "zip.__new__" ⟨.type "zip" :: ls, []⟩ = pure ()
  | [], _ => by kernel_rfl
  | [a0], _ => by kernel_rfl
  | [a0, a1], _ => by kernel_rfl
  | [a0, a1, a2], _ => by kernel_rfl
  | [a0, a1, a2, a3], _ => by kernel_rfl
  | [a0, a1, a2, a3, a4], _ => by kernel_rfl
  | [a0, a1, a2, a3, a4, a5], _ => by kernel_rfl
  | [a0, a1, a2, a3, a4, a5, a6], _ => by kernel_rfl
  | [a0, a1, a2, a3, a4, a5, a6, a7], _ => by kernel_rfl
  | [a0, a1, a2, a3, a4, a5, a6, a7, a8], _ => by kernel_rfl
  | [a0, a1, a2, a3, a4, a5, a6, a7, a8, a9], _ => by kernel_rfl
  | [a0, a1, a2, a3, a4, a5, a6, a7, a8, a9, a10], _ => by kernel_rfl
  | [a0, a1, a2, a3, a4, a5, a6, a7, a8, a9, a10, a11], _ => by kernel_rfl
  | [a0, a1, a2, a3, a4, a5, a6, a7, a8, a9, a10, a11, a12], _ => by kernel_rfl
  | [a0, a1, a2, a3, a4, a5, a6, a7, a8, a9, a10, a11, a12, a13], _ => by kernel_rfl
  | [a0, a1, a2, a3, a4, a5, a6, a7, a8, a9, a10, a11, a12, a13, a14], _ => by kernel_rfl
  | [a0, a1, a2, a3, a4, a5, a6, a7, a8, a9, a10, a11, a12, a13, a14, a15], _ => by kernel_rfl
  | _ :: _ :: _ :: _ :: _ :: _ :: _ :: _ :: _ :: _ :: _ :: _ :: _ :: _ :: _ :: _ :: _ :: _, h => by simp only [List.length_cons] at h; omega
theorem args_initN (obj : Value) : ∀ ls : List Value, ls.length ≤ 16 → argsOk "object.__init__" ⟨obj :: ls, []⟩ := by
  intro ls h
  unfold argsOk; rw [signature?_of (id := "object.__init__") (n := ['_', '_', 't', 'i', 'n', 'i', '_', '_']) (o := ['t', 'c', 'e', 'j', 'b', 'o']) (by kernel_rfl) F.owner_object]
  match ls, h with
  | [], _ => kernel_rfl
  | [a0], _ => kernel_rfl
  | [a0, a1], _ => kernel_rfl
  | [a0, a1, a2], _ => kernel_rfl
  | [a0, a1, a2, a3], _ => kernel_rfl
  | [a0, a1, a2, a3, a4], _ => kernel_rfl
  | [a0, a1, a2, a3, a4, a5], _ => kernel_rfl
  | [a0, a1, a2, a3, a4, a5, a6], _ => kernel_rfl
  | [a0, a1, a2, a3, a4, a5, a6, a7], _ => kernel_rfl
  | [a0, a1, a2, a3, a4, a5, a6, a7, a8], _ => kernel_rfl
  | [a0, a1, a2, a3, a4, a5, a6, a7, a8, a9], _ => kernel_rfl
  | [a0, a1, a2, a3, a4, a5, a6, a7, a8, a9, a10], _ => kernel_rfl
  | [a0, a1, a2, a3, a4, a5, a6, a7, a8, a9, a10, a11], _ => kernel_rfl
  | [a0, a1, a2, a3, a4, a5, a6, a7, a8, a9, a10, a11, a12], _ => kernel_rfl
  | [a0, a1, a2, a3, a4, a5, a6, a7, a8, a9, a10, a11, a12, a13], _ => kernel_rfl
  | [a0, a1, a2, a3, a4, a5, a6, a7, a8, a9, a10, a11, a12, a13, a14], _ => kernel_rfl
  | [a0, a1, a2, a3, a4, a5, a6, a7, a8, a9, a10, a11, a12, a13, a14, a15], _ => kernel_rfl
  | _ :: _ :: _ :: _ :: _ :: _ :: _ :: _ :: _ :: _ :: _ :: _ :: _ :: _ :: _ :: _ :: _ :: _, h => simp only [List.length_cons] at h; omega
end SQ
/-! zip of many tuples: made -/
namespace SQ
open PySem PySem.Spec PyProof.Rows L2
section
variable {prog : Program} {w : World} {A : Around} {E : Value → Shared → Prop}
theorem wpAny_iterAllN (ls : List Addr) (s : Shared) (Q : List Value → Shared → Prop) (ht : ∀ l ∈ ls, ∃ xs, s.heap.IsTuple l xs)
    (h : ∀ h', h'.objs.size = s.heap.objs.size + ls.length → (∀ c o, s.heap.get? c = some o → h'.get? c = some o) → (∀ k l, ls[k]? = some l → h'.get? (s.heap.objs.size + k) = some { cls := .type "tuple_iterator", data := .fields #[.ref l, .int 0 0] }) →
      Q ((List.range ls.length).map fun k => Value.ref (s.heap.objs.size + k)) { s with heap := h' }) : wpAny (model prog w) A (Builtin.SmallTypes.iterAll (ls.map Value.ref)) Q E s := by
  unfold Builtin.SmallTypes.iterAll
  refine wpAny_bind ?_
  have key : ∀ (r : List Addr) (its : Array Value) (s1 : Shared), (∀ l ∈ r, ∃ xs, s1.heap.IsTuple l xs) →
      (∀ h', h'.objs.size = s1.heap.objs.size + r.length → (∀ c o, s1.heap.get? c = some o → h'.get? c = some o) → (∀ k l, r[k]? = some l → h'.get? (s1.heap.objs.size + k) = some { cls := .type "tuple_iterator", data := .fields #[.ref l, .int 0 0] }) →
        Q (its.toList ++ (List.range r.length).map fun k => Value.ref (s1.heap.objs.size + k)) { s1 with heap := h' }) →
      wpAny (model prog w) A (forIn (r.map Value.ref) its fun x r => do
        let v ← holding r.toList (pyIter x)
        pure (ForInStep.yield (r.push v))) (fun its s' => wpAny (model prog w) A (pure its.toList) Q E s') E s1 := by
    intro r
    induction r with
    | nil =>
      intro its s1 _ k
      simp only [List.map_nil, List.forIn_nil]
      refine wpAny_pure (wpAny_pure ?_)
      have := k s1.heap rfl (fun _ _ e => e) (fun k l e => by cases e)
      simpa using this
    | cons l r ih =>
      intro its s1 ht1 k
      simp only [List.map_cons, List.forIn_cons]
      refine wpAny_bind (wpAny_bind (wpAny_holding ?_))
      obtain ⟨xs, hx⟩ := ht1 l List.mem_cons_self
      refine wpAny_pyIter_tuple hx ?_
      refine wpAny_pure ?_
      refine ih _ _ (fun l' m => ?_) fun h' e1 e2 e3 => ?_
      · obtain ⟨ys, hy⟩ := ht1 l' (List.mem_cons_of_mem _ m)
        exact ⟨ys, hy.push _⟩
      · have e1' : h'.objs.size = s1.heap.objs.size + 1 + r.length := by rw [e1, Heap.size_push]
        have := k h' (by rw [e1', List.length_cons]; omega) (fun c o q => e2 c o (Heap.get?_push_of_some _ q)) (fun j l' q => ?_)
        · rw [List.length_cons, List.range_succ_eq_map, List.map_cons, List.map_map] at this
          have e : (List.range r.length).map (fun k => Value.ref ((s1.heap.push { cls := .type "tuple_iterator", data := .fields #[.ref l, .int 0 0] }).objs.size + k)) = (List.range r.length).map ((fun k => Value.ref (s1.heap.objs.size + k)) ∘ Nat.succ) := by
            refine List.map_congr_left fun j _ => ?_
            simp only [Function.comp, Heap.size_push]
            rw [show s1.heap.objs.size + 1 + j = s1.heap.objs.size + j.succ by omega]
          rw [Array.toList_push, List.append_assoc, e]
          exact this
        · cases j with
          | zero =>
            cases q
            exact e2 _ _ (Heap.get?_push_size _ rfl)
          | succ j =>
            have := e3 j l' q
            rw [Heap.size_push] at this
            rw [show s1.heap.objs.size + (j + 1) = s1.heap.objs.size + 1 + j by omega]
            exact this
  refine key ls #[] s ht fun h' e1 e2 e3 => ?_
  simpa using h h' e1 e2 e3
end
end SQ
namespace SQ
open PySem PySem.Spec PyProof.Rows L2 RZ
abbrev itrs (m n : Nat) : List Value := (List.range n).map fun k => Value.ref (m + k)
/-- a tuple as it is made -/
abbrev IsTupL (h : Heap) (T : Addr) (vs : List Value) : Prop := h.get? T = some { cls := .type "tuple", data := .seq vs.toArray }
structure ZipNew (h h' : Heap) (ls : List Addr) : Prop where
  z : IsZip h' (h.objs.size + ls.length + 2) (h.objs.size + ls.length) (h.objs.size + ls.length + 1) .none
  ti : IsTupL h' (h.objs.size + ls.length) (itrs h.objs.size ls.length)
  to : IsTupL h' (h.objs.size + ls.length + 1) ((itrs h.objs.size ls.length).map fun _ => .none)
  it : ∀ k l, ls[k]? = some l → h'.get? (h.objs.size + k) = some { cls := .type "tuple_iterator", data := .fields #[.ref l, .int 0 0] }
  sz : h'.objs.size = h.objs.size + ls.length + 3
  ex : ∀ c o, h.get? c = some o → h'.get? c = some o
theorem meets_zipN_new (ls : List Addr) (hn : ls.length ≤ 16) :
    Meets (Builtin.«zip.__new__» ⟨.type "zip" :: ls.map Value.ref, []⟩) (fun _ R s => (∀ l ∈ ls, ∃ xs, s.heap.IsTuple l xs) ∧
      ∀ h', ZipNew s.heap h' ls → R (.ok (.ret (.ref (s.heap.objs.size + ls.length + 2)))) { s with heap := h' }) :=
  .of_wp fun prog w A R s h => by
    obtain ⟨hp, g, d, tk, os⟩ := s; obtain ⟨ht, h⟩ := h
    have hsub := sub_zip
    wp_walk using wpAny_iterAllN ls
    · exact ht
    intro h1 s1 x1 i1
    have hn2 : ls.length ≤ sizeLine := Nat.le_trans hn (by decide)
    refine wpAny_bind (wpAny_newTuple ?_ (by simpa using hn2))
    refine wpAny_bind (wpAny_newTuple ?_ (by simpa using hn2))
    wp_walk
    refine ⟨_, rfl, ?_⟩
    have s1' : h1.objs.size = hp.objs.size + ls.length := s1
    have z2 : ∀ o, (h1.push o).objs.size = hp.objs.size + ls.length + 1 := fun o => by rw [Heap.size_push, s1']
    have z3 : ∀ o o', ((h1.push o).push o').objs.size = hp.objs.size + ls.length + 2 := fun o o' => by rw [Heap.size_push, z2]
    have fin := h (((h1.push { cls := .type "tuple", data := .seq (itrs hp.objs.size ls.length).toArray }).push { cls := .type "tuple", data := .seq ((itrs hp.objs.size ls.length).map fun _ => Value.none).toArray }).push
      { cls := .type "zip", data := .fields #[.none, .bool false, .bool false, .ref (hp.objs.size + ls.length), .ref (hp.objs.size + ls.length + 1)] }) ?_
    · show R (.ok (.ret (.ref ((h1.push _).push _).objs.size))) ⟨((h1.push _).push _).push _, g, d, tk, os⟩
      rw [z3]
      have e1 : Value.ref h1.objs.size = Value.ref (hp.objs.size + ls.length) := by rw [s1']
      have e2 : ∀ o, Value.ref (h1.push o).objs.size = Value.ref (hp.objs.size + ls.length + 1) := fun o => by rw [z2]
      rw [e1, e2]
      exact fin
    · refine ⟨?_, ?_, ?_, fun k l e => ?_, ?_, fun c o e => ?_⟩
      · have := Heap.get?_push_size ((h1.push { cls := .type "tuple", data := .seq (itrs hp.objs.size ls.length).toArray }).push { cls := .type "tuple", data := .seq ((itrs hp.objs.size ls.length).map fun _ => Value.none).toArray }) (o := { cls := .type "zip", data := .fields #[.none, .bool false, .bool false, .ref (hp.objs.size + ls.length), .ref (hp.objs.size + ls.length + 1)] }) rfl
        rw [z3] at this
        exact this
      · have := Heap.get?_push_of_some { cls := .type "zip", data := .fields #[.none, .bool false, .bool false, .ref (hp.objs.size + ls.length), .ref (hp.objs.size + ls.length + 1)] } (Heap.get?_push_of_some { cls := .type "tuple", data := .seq ((itrs hp.objs.size ls.length).map fun _ => Value.none).toArray } (Heap.get?_push_size h1 (o := { cls := .type "tuple", data := .seq (itrs hp.objs.size ls.length).toArray }) rfl))
        rw [s1'] at this
        exact this
      · have := Heap.get?_push_of_some { cls := .type "zip", data := .fields #[.none, .bool false, .bool false, .ref (hp.objs.size + ls.length), .ref (hp.objs.size + ls.length + 1)] } (Heap.get?_push_size (h1.push { cls := .type "tuple", data := .seq (itrs hp.objs.size ls.length).toArray }) (o := { cls := .type "tuple", data := .seq ((itrs hp.objs.size ls.length).map fun _ => Value.none).toArray }) rfl)
        rw [z2] at this
        exact this
      · exact Heap.get?_push_of_some _ (Heap.get?_push_of_some _ (Heap.get?_push_of_some _ (i1 k l e)))
      · rw [Heap.size_push, z3]
      · exact Heap.get?_push_of_some _ (Heap.get?_push_of_some _ (Heap.get?_push_of_some _ (x1 c o e)))
theorem call_zipN {prog : Program} {w : World} {A : Around} {E : Value → Shared → Prop} {s : Shared} {ls : List Addr} {Q : Value → Shared → Prop} (hn : ls.length ≤ 16) (ht : ∀ l ∈ ls, ∃ xs, s.heap.IsTuple l xs)
    (h : ∀ h', ZipNew s.heap h' ls → Q (.ref (s.heap.objs.size + ls.length + 2)) { s with heap := h' }) : wpAny (model prog w) A (call (.type "zip") (ls.map Value.ref)) Q E s := by
  have hl : (ls.map Value.ref).length ≤ 16 := by rw [List.length_map]; exact hn
  exact callType_new F.called_zip (by decide) (typeCall_zipN _ hl) (newCall_zipN _ hl) (fun obj => args_initN obj _ hl) F.entry_zip_new (meets_zipN_new ls hn) ⟨ht, fun h' z => ⟨⟨_, z.z, rfl⟩, h h' z⟩⟩
end SQ
/-! zip of many tuples: a turn -/
namespace SQ
open PySem PySem.Spec PyProof.Rows L2 RZ
abbrev IsZipF (h : Heap) (z TI TO : Addr) (F0 : Value) (f : Bool) : Prop :=
  h.get? z = some { cls := .type "zip", dict := none, data := .fields #[F0, .bool f, .bool false, .ref TI, .ref TO], slots := #[] }
structure ZSep (z TI TO : Addr) (is ls : List Addr) : Prop where
  TIz : TI ≠ z
  TOz : TO ≠ z
  TITO : TI ≠ TO
  zi : z ∉ is
  TIi : TI ∉ is
  TOi : TO ∉ is
  nd : is.Nodup
  len : is.length = ls.length
  lz : z ∉ ls
  lTO : TO ∉ ls
  li : ∀ a ∈ is, a ∉ ls
theorem forIn_inv {α β : Type} {M : Model} {A : Around} {E : Value → Shared → Prop} {s : Shared} {body : α → β → Sem (ForInStep β)} {b0 : β} {Q : β → Shared → Prop} {xs : List α} (Inv : Nat → Shared → Prop)
    (step : ∀ k x, xs[k]? = some x → ∀ s, Inv k s → ∀ Q' : ForInStep β → Shared → Prop, (∀ s', Inv (k + 1) s' → Q' (.yield b0) s') → wpAny M A (body x b0) Q' E s) (h0 : Inv 0 s) (fin : ∀ s', Inv xs.length s' → Q b0 s') : wpAny M A (forIn xs b0 body) Q E s := by
  have key : ∀ (r : List α) (k : Nat) (s : Shared), k + r.length = xs.length → (∀ j, r[j]? = xs[k + j]?) → Inv k s → wpAny M A (forIn r b0 body) Q E s := by
    intro r
    induction r with
    | nil =>
      intro k s hr _ hi
      simp only [List.forIn_nil]
      have hk : k = xs.length := by simpa using hr
      subst hk
      exact wpAny_pure (fin _ hi)
    | cons x r ih =>
      intro k s hr hx hi
      simp only [List.forIn_cons]
      refine wpAny_bind (step k x (by have := hx 0; simpa using this.symm) s hi _ fun s' hi' => ?_)
      refine ih (k + 1) s' (by simp at hr; omega) (fun j => ?_) hi'
      have := hx (j + 1)
      rw [show k + 1 + j = k + (j + 1) by omega]
      simpa using this
  exact key xs 0 s (by simp) (fun j => by simp) h0
section
variable {prog : Program} {w : World} {A : Around} {E : Value → Shared → Prop} {s : Shared} {z TI TO : Addr} {is ls : List Addr} {i : Nat} {F0 : Value} {f : Bool}
theorem updateSeq_L {T : Addr} {x : Value} {k : Nat} {vs : List Value} {Q : Unit → Shared → Prop} (hT : IsTupL s.heap T vs) (hv : vs.length ≤ 16)
    (h : ∀ h', IsTupL h' T (vs.set k x) → Heap.SameBut T s.heap h' → Q () { s with heap := h' }) :
    wpAny (model prog w) A (updateSeq T (·.setIfInBounds k x)) Q E s := by
  refine wpAny_updateSeq hT rfl (h _ ?_ (Heap.SameBut.update ..)) (by simp; exact Nat.le_trans hv (by decide)) (by simp; exact Nat.le_trans hv (by decide))
  unfold IsTupL
  rw [Heap.get?_update_self _ hT rfl]
  simp [Obj.mapSeq]
/-- what a turn needs and leaves -/
structure ZIt (h : Heap) (is ls : List Addr) (c : Nat → Nat) : Prop where
  it : ∀ (k : Nat) (a l : Addr), is[k]? = some a → ls[k]? = some l → h.IsTupleIter a l (c k)
structure ZFast (hp : Heap) (z TI TO : Addr) (is ls : List Addr) (i : Nat) (f : Bool) (X : List (List Value)) (k : Nat) (h : Heap) : Prop where
  zz : IsZipF h z TI TO .ellipsis f
  tt : ∃ vs, IsTupL h TO vs ∧ vs.length = is.length ∧ ∀ (j : Nat) (x : List Value) (u : Value), j < k → X[j]? = some x → vs[j]? = some u → x[i]? = some u
  it : ZIt h is ls fun j => if j < k then i + 1 else i
  sz : h.objs.size = hp.objs.size
  ex : ∀ c o, c ≠ z → c ≠ TO → c ∉ is → hp.get? c = some o → h.get? c = some o
theorem zipN_next_fast {Q : Value → Shared → Prop} {vs : List Value} {X : List (List Value)} (S : ZSep z TI TO is ls) (hne : is ≠ []) (h16 : is.length ≤ 16) (hz : IsZipF s.heap z TI TO F0 f) (hfree : ∀ Q' : Bool → Shared → Prop, Q' true s → wpAny (model prog w) A (Builtin.SmallTypes.ownedTupleIsFree (.ref z)) Q' E s)
    (hTI : IsTupL s.heap TI (is.map Value.ref)) (hTO : IsTupL s.heap TO vs) (hv : vs.length = is.length) (hit : ZIt s.heap is ls fun _ => i) (hX : X.length = ls.length) (ht : ∀ (k : Nat) (l : Addr) (x : List Value), ls[k]? = some l → X[k]? = some x → s.heap.IsTuple l x.toArray) (hlt : ∀ x ∈ X, i < x.length)
    (hQ : ∀ (h' : Heap) (us : List Value), us.length = is.length → (∀ (k : Nat) (x : List Value) (u : Value), X[k]? = some x → us[k]? = some u → x[i]? = some u) → (∃ F1 f1, IsZipF h' z TI TO F1 f1 ∧ F1 = rawInt s.heap.objs.size) → IsTupL h' TO us → (ZIt h' is ls fun _ => i + 1) → IsTupL h' s.heap.objs.size us → h'.objs.size = s.heap.objs.size + 1 →
      (∀ c o, c ≠ z → c ≠ TO → c ∉ is → s.heap.get? c = some o → h'.get? c = some o) → Q (.ref s.heap.objs.size) { s with heap := h' }) :
    wpAny (model prog w) A (Builtin.«zip.__next__» ⟨[.ref z], []⟩) (fun fin s' => ∃ v, fin = .done (.ret v) ∧ Q v s') E s := by
  obtain ⟨hp, g, d, tk0, os⟩ := s
  show wpAny _ _ (field (.ref z) 2 >>= _) _ _ _
  refine wpAny_bind (wpAny_field hz rfl (x := .bool false) rfl ?_)
  show wpAny _ _ (field (.ref z) 3 >>= _) _ _ _
  refine wpAny_bind (wpAny_field hz rfl (x := .ref TI) rfl ?_)
  refine wpAny_bind (wpAny_seqItems hTI rfl ?_)
  have hemp : (is.map Value.ref).toArray.isEmpty = false := by
    cases is with
    | nil => exact absurd rfl hne
    | cons a r => simp
  simp only [hemp, Bool.false_eq_true, if_false]
  refine wpAny_bind (hfree _ ?_)
  simp only [if_true]
  refine wpAny_bind (wpAny_rule ?_)
  refine wpAny_bind (wpAny_field hz rfl (x := .ref TO) rfl ?_)
  refine wpAny_bind (wpAny_setField_rec hz (by simp) fun g0 hz0 hs0 => ?_)
  replace hz0 : IsZipF g0 z TI TO .ellipsis f := hz0
  replace hs0 : Heap.SameBut z hp g0 := hs0
  replace hTO : IsTupL hp TO vs := hTO
  replace hit : ZIt hp is ls fun _ => i := hit
  have ilen := S.len
  refine wpAny_bind (forIn_inv (fun k s' => ∃ h, s' = ⟨h, g, d, tk0, os⟩ ∧ ZFast hp z TI TO is ls i f X k h) (fun k x hx0 s1 hs Q' q => ?_) ?_ fun s' hs => ?_)
  · obtain ⟨h, rfl, F⟩ := hs
    rw [List.getElem?_zipIdx, List.getElem?_map] at hx0
    obtain ⟨va, hva, ex⟩ := Option.map_eq_some_iff.mp hx0
    clear hx0
    obtain ⟨a, ha, rfl⟩ := Option.map_eq_some_iff.mp hva
    subst ex
    have ka : k < is.length := (List.getElem?_eq_some_iff.mp ha).1
    obtain ⟨l, hl⟩ : ∃ l, ls[k]? = some l := ⟨ls[k]'(by omega), List.getElem?_eq_getElem (by omega)⟩
    obtain ⟨xk, hxk⟩ : ∃ x, X[k]? = some x := ⟨X[k]'(by omega), List.getElem?_eq_getElem (by omega)⟩
    have hi := hlt xk (List.mem_of_getElem? hxk)
    have ai : a ∈ is := List.mem_of_getElem? ha
    have lm : l ∈ ls := List.mem_of_getElem? hl
    have tl : h.IsTuple l xk.toArray := (ht k l xk hl hxk).at fun o e => F.ex l o (fun e' => S.lz (e' ▸ lm)) (fun e' => S.lTO (e' ▸ lm)) (fun m => S.li l m lm) e
    have il : h.IsTupleIter a l i := by
      have := F.it.it k a l ha hl
      simpa using this
    obtain ⟨vs1, t1, v1, p1⟩ := F.tt
    refine wpAny_bind (wpAny_onRaise ?_)
    show wpAny _ _ (Builtin.SmallTypes.nextOf (.ref a) >>= _) _ _ ⟨h, g, d, tk0, os⟩
    refine wpAny_bind (wpAny_nextOf_tuple_item il tl (x := xk[i]) (by simp [hi]) fun h2 i2 s2 => wpAny_pure ?_)
    replace s2 : Heap.SameBut a h h2 := s2
    have aTO : TO ≠ a := fun e => S.TOi (e ▸ ai)
    have t2 : IsTupL h2 TO vs1 := s2.extBut _ _ aTO t1
    refine wpAny_bind (wpAny_seqItems (s := ⟨h2, g, d, tk0, os⟩) t2 rfl ?_)
    refine wpAny_bind (updateSeq_L (s := ⟨h2, g, d, tk0, os⟩) t2 (by omega) fun h3 t3 s3 => ?_)
    replace s3 : Heap.SameBut TO h2 h3 := s3
    refine wpAny_bind (wpAny_letGo (wpAny_pure (q _ ⟨h3, rfl, ?_⟩)))
    simp only [Nat.zero_add] at t3
    have up : ∀ c o, c ≠ a → c ≠ TO → h.get? c = some o → h3.get? c = some o := fun c o c1 c2 e => s3.extBut _ _ c2 (s2.extBut _ _ c1 e)
    refine ⟨up _ _ (fun e => S.zi (e ▸ ai)) S.TOz.symm F.zz, ⟨_, t3, by simpa using v1, fun j x u hj hx hu => ?_⟩, ⟨fun j b m hb hm => ?_⟩, by rw [s3.1, s2.1, F.sz], fun c o c1 c2 c3 e => up c o (fun e' => c3 (e' ▸ ai)) c2 (F.ex c o c1 c2 c3 e)⟩
    · by_cases e : j = k
      · subst e
        rw [hxk] at hx
        cases hx
        rw [List.getElem?_set_self (by omega)] at hu
        cases hu
        exact List.getElem?_eq_getElem hi
      · rw [List.getElem?_set_ne (fun q => e q.symm)] at hu
        exact p1 j x u (by omega) hx hu
    · by_cases e : j = k
      · subst e
        rw [ha] at hb; cases hb
        rw [hl] at hm; cases hm
        simp only [Nat.lt_succ_self, if_true]
        exact i2.at fun o q => s3.extBut _ _ aTO.symm q
      · have old := F.it.it j b m hb hm
        have hba : b ≠ a := fun q => by
          subst q
          have hj : j < is.length := (List.getElem?_eq_some_iff.mp hb).1
          have := (List.getElem?_inj hj S.nd).mp (hb.trans ha.symm)
          exact e this
        have : (if j < k then i + 1 else i) = (if j < k + 1 then i + 1 else i) := by
          by_cases c : j < k
          · rw [if_pos c, if_pos (by omega)]
          · rw [if_neg c, if_neg (by omega)]
        rw [← this]
        exact old.at fun o q => up b o hba (fun q' => S.TOi (q' ▸ List.mem_of_getElem? hb)) q
  · refine ⟨g0, rfl, hz0, ⟨vs, hs0.extBut _ _ S.TOz hTO, hv, fun j x u hj => by omega⟩, ⟨fun j b m hb hm => ?_⟩, hs0.1, fun c o c1 c2 c3 e => hs0.extBut _ _ c1 e⟩
    rw [if_neg (by omega)]
    exact (hit.it j b m hb hm).at fun o q => hs0.extBut _ _ (fun q' => S.zi (q' ▸ List.mem_of_getElem? hb)) q
  · obtain ⟨h, rfl, F⟩ := hs
    obtain ⟨us, t1, v1, p1⟩ := F.tt
    have t1' : IsTupL h TO us := t1
    dsimp only
    refine wpAny_bind (wpAny_seqItems (s := ⟨h, g, d, tk0, os⟩) t1 rfl ?_)
    refine wpAny_bind (wpAny_newTuple ?_ (by simpa [v1] using Nat.le_trans h16 (by decide)))
    have hsz : h.objs.size = hp.objs.size := F.sz
    have hzz := F.zz
    have hzlt : z < h.objs.size := Heap.lt_size hzz
    show wpAny _ _ (Builtin.SmallTypes.ownedTupleHandOut (.ref z) (.ref h.objs.size) >>= _) _ _ ⟨h.push { cls := .type "tuple", data := .seq us.toArray }, g, d, tk0, os⟩
    refine wpAny_bind ?_
    unfold Builtin.SmallTypes.ownedTupleHandOut
    have hz₆ : IsZipF (h.push { cls := .type "tuple", data := .seq us.toArray }) z TI TO .ellipsis f := Heap.get?_push_of_some _ hzz
    refine wpAny_bind (wpAny_setField_rec hz₆ (by simp) fun h₇ hz₇ hs₇ => ?_)
    replace hz₇ : IsZipF h₇ z TI TO (rawInt h.objs.size) f := hz₇
    refine wpAny_setField_rec hz₇ (by simp) fun h₈ hz₈ hs₈ => ?_
    replace hz₈ : IsZipF h₈ z TI TO (rawInt h.objs.size) false := hz₈
    replace hs₇ : Heap.SameBut z (h.push { cls := .type "tuple", data := .seq us.toArray }) h₇ := hs₇
    replace hs₈ : Heap.SameBut z h₇ h₈ := hs₈
    have up : ∀ c o, c ≠ z → h.get? c = some o → h₈.get? c = some o := fun c o c1 e => hs₈.extBut _ _ c1 (hs₇.extBut _ _ c1 (Heap.get?_push_of_some _ e))
    have hT₈ : IsTupL h₈ h.objs.size us := hs₈.extBut _ _ (Nat.ne_of_gt hzlt) (hs₇.extBut _ _ (Nat.ne_of_gt hzlt) (Heap.get?_push_size _ rfl))
    have hz8 : h₈.objs.size = h.objs.size + 1 := by rw [hs₈.1, hs₇.1, Heap.size_push]
    rw [hsz] at hz₈ hT₈ hz8
    refine wpAny_pure ⟨_, rfl, ?_⟩
    show Q (.ref h.objs.size) ⟨h₈, g, d, tk0, os⟩
    rw [hsz]
    refine hQ h₈ us v1 (fun k x u hx hu => p1 k x u ?_ hx hu) ⟨_, false, hz₈, rfl⟩ (up _ _ S.TOz t1) ⟨fun j b m hb hm => ?_⟩ hT₈ hz8 fun c o c1 c2 c3 e => up c o c1 (F.ex c o c1 c2 c3 e)
    · have := (List.getElem?_eq_some_iff.mp hx).1
      simp; omega
    · have := F.it.it j b m hb hm
      have hj : j < is.length := (List.getElem?_eq_some_iff.mp hb).1
      rw [if_pos (by simpa using hj)] at this
      exact this.at fun o q => up b o (fun q' => S.zi (q' ▸ List.mem_of_getElem? hb)) q
end
end SQ
/-! zip of many tuples: a turn while the tuple is out; the end -/
namespace SQ
open PySem PySem.Spec PyProof.Rows L2 RZ
theorem forIn_invS {α β : Type} {M : Model} {A : Around} {E : Value → Shared → Prop} {s : Shared} {body : α → β → Sem (ForInStep β)} {b0 : β} {Q : β → Shared → Prop} {xs : List α} (Inv : Nat → β → Shared → Prop)
    (step : ∀ k x, xs[k]? = some x → ∀ b s, Inv k b s → ∀ Q' : ForInStep β → Shared → Prop, (∀ b' s', Inv (k + 1) b' s' → Q' (.yield b') s') → wpAny M A (body x b) Q' E s) (h0 : Inv 0 b0 s) (fin : ∀ b' s', Inv xs.length b' s' → Q b' s') : wpAny M A (forIn xs b0 body) Q E s := by
  have key : ∀ (r : List α) (k : Nat) (b : β) (s : Shared), k + r.length = xs.length → (∀ j, r[j]? = xs[k + j]?) → Inv k b s → wpAny M A (forIn r b body) Q E s := by
    intro r
    induction r with
    | nil =>
      intro k b s hr _ hi
      simp only [List.forIn_nil]
      have hk : k = xs.length := by simpa using hr
      subst hk
      exact wpAny_pure (fin _ _ hi)
    | cons x r ih =>
      intro k b s hr hx hi
      simp only [List.forIn_cons]
      refine wpAny_bind (step k x (by have := hx 0; simpa using this.symm) b s hi _ fun b' s' hi' => ?_)
      refine ih (k + 1) b' s' (by simp at hr; omega) (fun j => ?_) hi'
      have := hx (j + 1)
      rw [show k + 1 + j = k + (j + 1) by omega]
      simpa using this
  exact key xs 0 b0 s (by simp) (fun j => by simp) h0
section
variable {prog : Program} {w : World} {A : Around} {E : Value → Shared → Prop} {s : Shared} {z TI TO : Addr} {is ls : List Addr} {i : Nat} {F0 : Value} {f : Bool}
theorem alive_is {a : Addr} {Q : Option Obj → Shared → Prop} (h : Q (s.heap.get? a) s) : wpAny (model prog w) A (loadIfAlive a) Q E s := fun _ _ _ => h
/-- the tuple is free, or known to be out -/
theorem freeF {Q : Bool → Shared → Prop} (hz : IsZipF s.heap z TI TO F0 f) (hF : F0 = .none ∨ ∃ T : Nat, F0 = rawInt T) (h1 : Q true s) (h2 : ∀ h', IsZipF h' z TI TO F0 true → Heap.SameBut z s.heap h' → Q false { s with heap := h' }) :
    wpAny (model prog w) A (Builtin.SmallTypes.ownedTupleIsFree (.ref z)) Q E s := by
  unfold Builtin.SmallTypes.ownedTupleIsFree
  rcases hF with rfl | ⟨T, rfl⟩
  · exact wpAny_bind (wpAny_field hz rfl (x := .none) rfl (wpAny_pure h1))
  · refine wpAny_bind (wpAny_field hz rfl (x := rawInt T) rfl ?_)
    show wpAny _ _ (loadIfAlive ((T : Int).toNat) >>= _) _ _ _
    rw [Int.toNat_natCast]
    refine wpAny_bind (alive_is ?_)
    cases s.heap.get? T with
    | none =>
      simp only [Option.isNone_none, if_true]
      exact wpAny_pure h1
    | some o =>
      simp only [Option.isNone_some, Bool.false_eq_true, if_false]
      refine wpAny_bind (wpAny_field hz rfl (x := .bool f) rfl ?_)
      cases f with
      | true =>
        rw [if_neg (show ¬ ((Value.bool true != Value.bool true) = true) from Bool.false_ne_true)]
        exact wpAny_pure (h2 s.heap hz (Heap.SameBut.refl _ _))
      | false =>
        rw [if_pos (show (Value.bool false != Value.bool true) = true from rfl)]
        exact wpAny_bind (wpAny_setField_rec hz (by simp) fun h₁ hz₁ hs₁ => wpAny_pure (h2 h₁ hz₁ hs₁))
structure ZSlow (hp : Heap) (z TI TO : Addr) (is ls : List Addr) (i : Nat) (F0 : Value) (X : List (List Value)) (k : Nat) (us : Array Value) (h : Heap) : Prop where
  zz : IsZipF h z TI TO F0 true
  ul : us.size = k
  uv : ∀ (j : Nat) (x : List Value) (u : Value), X[j]? = some x → us[j]? = some u → x[i]? = some u
  it : ZIt h is ls fun j => if j < k then i + 1 else i
  sz : h.objs.size = hp.objs.size
  ex : ∀ c o, c ≠ z → c ∉ is → hp.get? c = some o → h.get? c = some o
theorem zipN_next_item {Q : Value → Shared → Prop} {vs : List Value} {X : List (List Value)} (S : ZSep z TI TO is ls) (hne : is ≠ []) (h16 : is.length ≤ 16) (hz : IsZipF s.heap z TI TO F0 f) (hF : F0 = .none ∨ ∃ T : Nat, F0 = rawInt T)
    (hTI : IsTupL s.heap TI (is.map Value.ref)) (hTO : IsTupL s.heap TO vs) (hv : vs.length = is.length) (hit : ZIt s.heap is ls fun _ => i) (hX : X.length = ls.length) (ht : ∀ (k : Nat) (l : Addr) (x : List Value), ls[k]? = some l → X[k]? = some x → s.heap.IsTuple l x.toArray) (hlt : ∀ x ∈ X, i < x.length)
    (hQ : ∀ (h' : Heap) (us vs' : List Value), us.length = is.length → (∀ (k : Nat) (x : List Value) (u : Value), X[k]? = some x → us[k]? = some u → x[i]? = some u) → (∃ F1 f1, IsZipF h' z TI TO F1 f1 ∧ (F1 = .none ∨ ∃ T : Nat, F1 = rawInt T)) → IsTupL h' TO vs' → vs'.length = is.length → (ZIt h' is ls fun _ => i + 1) → IsTupL h' s.heap.objs.size us → h'.objs.size = s.heap.objs.size + 1 →
      (∀ c o, c ≠ z → c ≠ TO → c ∉ is → s.heap.get? c = some o → h'.get? c = some o) → Q (.ref s.heap.objs.size) { s with heap := h' }) :
    wpAny (model prog w) A (Builtin.«zip.__next__» ⟨[.ref z], []⟩) (fun fin s' => ∃ v, fin = .done (.ret v) ∧ Q v s') E s := by
  obtain ⟨hp, g, d, tk0, os⟩ := s
  by_cases free : ∀ Q' : Bool → Shared → Prop, Q' true ⟨hp, g, d, tk0, os⟩ → wpAny (model prog w) A (Builtin.SmallTypes.ownedTupleIsFree (.ref z)) Q' E ⟨hp, g, d, tk0, os⟩
  · exact zipN_next_fast S hne h16 hz free hTI hTO hv hit hX ht hlt fun h' us a1 a2 ⟨F1, f1, a3, a3'⟩ a4 a5 a6 a7 a8 => hQ h' us us a1 a2 ⟨F1, f1, a3, .inr ⟨_, a3'⟩⟩ a4 a1 a5 a6 a7 a8
  have held : ∀ Q' : Bool → Shared → Prop, (∀ h', IsZipF h' z TI TO F0 true → Heap.SameBut z hp h' → Q' false ⟨h', g, d, tk0, os⟩) → wpAny (model prog w) A (Builtin.SmallTypes.ownedTupleIsFree (.ref z)) Q' E ⟨hp, g, d, tk0, os⟩ := by
    intro Q' hq
    rcases hF with rfl | ⟨T, rfl⟩
    · exact absurd (fun Q'' h => freeF hz (.inl rfl) h fun h' a b => absurd h (fun _ => free fun Q3 h3 => by
        unfold Builtin.SmallTypes.ownedTupleIsFree
        exact wpAny_bind (wpAny_field hz rfl (x := .none) rfl (wpAny_pure h3)))) free
    · unfold Builtin.SmallTypes.ownedTupleIsFree
      refine wpAny_bind (wpAny_field hz rfl (x := rawInt T) rfl ?_)
      show wpAny _ _ (loadIfAlive ((T : Int).toNat) >>= _) _ _ _
      rw [Int.toNat_natCast]
      refine wpAny_bind (alive_is ?_)
      cases hT : (Shared.heap ⟨hp, g, d, tk0, os⟩).get? T with
      | none =>
        refine absurd (fun Q'' h => ?_) free
        unfold Builtin.SmallTypes.ownedTupleIsFree
        refine wpAny_bind (wpAny_field hz rfl (x := rawInt T) rfl ?_)
        show wpAny _ _ (loadIfAlive ((T : Int).toNat) >>= _) _ _ _
        rw [Int.toNat_natCast]
        refine wpAny_bind (alive_is ?_)
        rw [hT]
        simp only [Option.isNone_none, if_true]
        exact wpAny_pure h
      | some o =>
        simp only [Option.isNone_some, Bool.false_eq_true, if_false]
        refine wpAny_bind (wpAny_field hz rfl (x := .bool f) rfl ?_)
        cases f with
        | true =>
          rw [if_neg (show ¬ ((Value.bool true != Value.bool true) = true) from Bool.false_ne_true)]
          exact wpAny_pure (hq hp hz (Heap.SameBut.refl _ _))
        | false =>
          rw [if_pos (show (Value.bool false != Value.bool true) = true from rfl)]
          exact wpAny_bind (wpAny_setField_rec hz (by simp) fun h₁ hz₁ hs₁ => wpAny_pure (hq h₁ hz₁ hs₁))
  show wpAny _ _ (field (.ref z) 2 >>= _) _ _ _
  refine wpAny_bind (wpAny_field hz rfl (x := .bool false) rfl ?_)
  show wpAny _ _ (field (.ref z) 3 >>= _) _ _ _
  refine wpAny_bind (wpAny_field hz rfl (x := .ref TI) rfl ?_)
  refine wpAny_bind (wpAny_seqItems hTI rfl ?_)
  have hemp : (is.map Value.ref).toArray.isEmpty = false := by
    cases is with
    | nil => exact absurd rfl hne
    | cons a r => simp
  simp only [hemp, Bool.false_eq_true, if_false]
  refine wpAny_bind (held _ fun g0 hz0 hs0 => ?_)
  simp only [Bool.false_eq_true, if_false]
  refine wpAny_bind ?_
  rw [← Array.forIn_toList]
  have ilen := S.len
  replace hTO : IsTupL hp TO vs := hTO
  replace hit : ZIt hp is ls fun _ => i := hit
  refine forIn_invS (fun k b s' => ∃ us h, b = (none, us) ∧ s' = ⟨h, g, d, tk0, os⟩ ∧ ZSlow hp z TI TO is ls i F0 X k us h) (fun k x hx0 b s1 hs Q' q => ?_) ?_ fun b' s' hs => ?_
  · obtain ⟨us, h, rfl, rfl, F⟩ := hs
    rw [List.getElem?_map] at hx0
    obtain ⟨a, ha, rfl⟩ := Option.map_eq_some_iff.mp hx0
    clear hx0
    have ka : k < is.length := (List.getElem?_eq_some_iff.mp ha).1
    obtain ⟨l, hl⟩ : ∃ l, ls[k]? = some l := ⟨ls[k]'(by omega), List.getElem?_eq_getElem (by omega)⟩
    obtain ⟨xk, hxk⟩ : ∃ x, X[k]? = some x := ⟨X[k]'(by omega), List.getElem?_eq_getElem (by omega)⟩
    have hi := hlt xk (List.mem_of_getElem? hxk)
    have ai : a ∈ is := List.mem_of_getElem? ha
    have lm : l ∈ ls := List.mem_of_getElem? hl
    have tl : h.IsTuple l xk.toArray := (ht k l xk hl hxk).at fun o e => F.ex l o (fun e' => S.lz (e' ▸ lm)) (fun m => S.li l m lm) e
    have il : h.IsTupleIter a l i := by
      have := F.it.it k a l ha hl
      simpa using this
    refine wpAny_bind (wpAny_holding ?_)
    show wpAny _ _ (Builtin.SmallTypes.nextOf (.ref a) >>= _) _ _ ⟨h, g, d, tk0, os⟩
    refine wpAny_bind (wpAny_nextOf_tuple_item il tl (x := xk[i]) (by simp [hi]) fun h2 i2 s2 => wpAny_pure ?_)
    replace s2 : Heap.SameBut a h h2 := s2
    refine wpAny_pure (q _ _ ⟨_, h2, rfl, rfl, ?_⟩)
    refine ⟨s2.extBut _ _ (fun e => S.zi (e ▸ ai)) F.zz, by simp [F.ul], fun j x u hx hu => ?_, ⟨fun j b m hb hm => ?_⟩, by rw [s2.1, F.sz], fun c o c1 c3 e => s2.extBut _ _ (fun e' => c3 (e' ▸ ai)) (F.ex c o c1 c3 e)⟩
    · have fu := F.ul
      rw [Array.getElem?_push] at hu
      split at hu
      · rename_i e
        rw [fu] at e
        subst e
        rw [hxk] at hx
        cases hx; cases hu
        exact List.getElem?_eq_getElem hi
      · exact F.uv j x u hx hu
    · by_cases e : j = k
      · subst e
        rw [ha] at hb; cases hb
        rw [hl] at hm; cases hm
        simp only [Nat.lt_succ_self, if_true]
        exact i2
      · have old := F.it.it j b m hb hm
        have hba : b ≠ a := fun q => by
          subst q
          have hj : j < is.length := (List.getElem?_eq_some_iff.mp hb).1
          have := (List.getElem?_inj hj S.nd).mp (hb.trans ha.symm)
          exact e this
        have : (if j < k then i + 1 else i) = (if j < k + 1 then i + 1 else i) := by
          by_cases c : j < k
          · rw [if_pos c, if_pos (by omega)]
          · rw [if_neg c, if_neg (by omega)]
        rw [← this]
        exact old.at fun o q => s2.extBut _ _ hba q
  · refine ⟨#[], g0, rfl, rfl, hz0, rfl, fun j x u _ hu => by simp at hu, ⟨fun j b m hb hm => ?_⟩, hs0.1, fun c o c1 c3 e => hs0.extBut _ _ c1 e⟩
    rw [if_neg (by omega)]
    exact (hit.it j b m hb hm).at fun o q => hs0.extBut _ _ (fun q' => S.zi (q' ▸ List.mem_of_getElem? hb)) q
  · obtain ⟨us, h, rfl, rfl, F⟩ := hs
    dsimp only
    have fu : us.size = is.length := by rw [F.ul]; simp
    refine wpAny_bind (wpAny_newTuple ?_ (by rw [Array.length_toList, fu]; exact Nat.le_trans h16 (by decide)))
    have hsz : h.objs.size = hp.objs.size := F.sz
    refine wpAny_pure ⟨_, rfl, ?_⟩
    show Q (.ref h.objs.size) ⟨h.push { cls := .type "tuple", data := .seq us.toList.toArray }, g, d, tk0, os⟩
    rw [hsz]
    refine hQ _ us.toList vs (by simp [fu]) (fun k x u hx hu => F.uv k x u hx (by simpa using hu)) ⟨F0, true, Heap.get?_push_of_some _ F.zz, hF⟩ (Heap.get?_push_of_some _ (F.ex _ _ S.TOz S.TOi hTO)) hv ⟨fun j b m hb hm => ?_⟩ ?_ (by rw [Heap.size_push, hsz]) fun c o c1 c2 c3 e => Heap.get?_push_of_some _ (F.ex c o c1 c3 e)
    · have := F.it.it j b m hb hm
      have hj : j < is.length := (List.getElem?_eq_some_iff.mp hb).1
      rw [if_pos (by simpa using hj)] at this
      exact this.at fun o q => Heap.get?_push_of_some _ q
    · have := Heap.get?_push_size h (o := { cls := .type "tuple", data := .seq us.toList.toArray }) rfl
      show _ = _
      rw [← hsz]
      exact this
end
end SQ
namespace SQ
open PySem PySem.Spec PyProof.Rows L2 RZ
section
variable {prog : Program} {w : World} {A : Around} {E : Value → Shared → Prop} {s : Shared} {z TI TO : Addr} {is ls : List Addr} {i : Nat} {F0 : Value} {f : Bool}
theorem zipN_next_end {Q : PySem.Fin → Shared → Prop} {vs : List Value} {X : List (List Value)} (hh : A.handled = none) (S : ZSep z TI TO is ls) (hne : is ≠ []) (hz : IsZipF s.heap z TI TO F0 f) (hF : F0 = .none ∨ ∃ T : Nat, F0 = rawInt T)
    (hTI : IsTupL s.heap TI (is.map Value.ref)) (hTO : IsTupL s.heap TO vs) (hit : ZIt s.heap is ls fun _ => i) (hX : X.length = ls.length) (ht : ∀ (k : Nat) (l : Addr) (x : List Value), ls[k]? = some l → X[k]? = some x → s.heap.IsTuple l x.toArray) (hlt : ∀ x ∈ X, x.length ≤ i)
    (hE : ∀ h' e, (∀ c o, c ≠ z → c ≠ TO → c ∉ is → s.heap.get? c = some o → h'.get? c = some o) → (∃ o, h'.get? e = some o ∧ o.cls = .type "StopIteration") → E (.ref e) { s with heap := h' }) :
    wpAny (model prog w) A (Builtin.«zip.__next__» ⟨[.ref z], []⟩) Q E s := by
  obtain ⟨hp, g, d, tk0, os⟩ := s
  have ilen := S.len
  cases is with
  | nil => exact absurd rfl hne
  | cons a r =>
  cases ls with
  | nil => cases ilen
  | cons l lr =>
  cases X with
  | nil => cases hX
  | cons x Xr =>
  have az : z ≠ a := fun e => S.zi (e ▸ List.mem_cons_self)
  have aTO : TO ≠ a := fun e => S.TOi (e ▸ List.mem_cons_self)
  have lz : l ≠ z := fun e => S.lz (e ▸ List.mem_cons_self)
  have la : l ≠ a := fun e => S.li a List.mem_cons_self (e ▸ List.mem_cons_self)
  have tl : hp.IsTuple l x.toArray := ht 0 l x rfl rfl
  have il : hp.IsTupleIter a l i := hit.it 0 a l rfl rfl
  have xe : x.toArray[i]? = none := by have := hlt x List.mem_cons_self; simpa using this
  show wpAny _ _ (field (.ref z) 2 >>= _) _ _ _
  refine wpAny_bind (wpAny_field hz rfl (x := .bool false) rfl ?_)
  show wpAny _ _ (field (.ref z) 3 >>= _) _ _ _
  refine wpAny_bind (wpAny_field hz rfl (x := .ref TI) rfl ?_)
  refine wpAny_bind (wpAny_seqItems hTI rfl ?_)
  have hemp : ((a :: r).map Value.ref).toArray.isEmpty = false := by simp
  simp only [hemp, Bool.false_eq_true, if_false]
  refine wpAny_bind (freeF hz hF ?_ fun h₁ hz₁ hs₁ => ?_)
  · simp only [if_true]
    refine wpAny_bind (wpAny_rule ?_)
    refine wpAny_bind (wpAny_field hz rfl (x := .ref TO) rfl ?_)
    refine wpAny_bind (wpAny_setField_rec hz (by simp) fun g0 hz0 hs0 => ?_)
    replace hz0 : IsZipF g0 z TI TO .ellipsis f := hz0
    replace hs0 : Heap.SameBut z hp g0 := hs0
    refine wpAny_bind ?_
    simp only [List.map_cons, List.zipIdx_cons, List.forIn_cons]
    refine wpAny_bind (wpAny_bind (wpAny_onRaise ?_))
    show wpAny _ _ (Builtin.SmallTypes.nextOf (.ref a) >>= _) _ _ ⟨g0, g, d, tk0, os⟩
    refine wpAny_bind (wpAny_nextOf_tuple_end (s := ⟨g0, g, d, tk0, os⟩) hh (il.at fun o q => hs0.extBut _ _ az.symm q) (tl.at fun o q => hs0.extBut _ _ lz q) xe fun q e hq he => ?_)
    replace hq : Heap.ExtBut a g0 q := hq
    obtain ⟨oe, hoe, hce⟩ := he
    replace hoe : q.get? e = some oe := hoe
    have hzq : IsZipF q z TI TO .ellipsis f := hq _ _ az hz0
    have hez : e ≠ z := fun x => by subst x; rw [hzq] at hoe; cases hoe; simp at hce
    refine wpAny_setField_rec (s := ⟨q, g, d, tk0, os⟩) hzq (by simp) fun q' _ hq' => ?_
    replace hq' : Heap.SameBut z q q' := hq'
    exact hE q' e (fun c o cz cT c1 x => hq'.extBut _ _ cz (hq _ _ (fun e' => c1 (e' ▸ List.mem_cons_self)) (hs0.extBut _ _ cz x))) ⟨oe, hq'.extBut _ _ hez hoe, hce⟩
  · simp only [Bool.false_eq_true, if_false]
    replace hs₁ : Heap.SameBut z hp h₁ := hs₁
    refine wpAny_bind ?_
    rw [← Array.forIn_toList]
    simp only [List.map_cons, List.forIn_cons]
    refine wpAny_bind (wpAny_bind (wpAny_holding ?_))
    show wpAny _ _ (Builtin.SmallTypes.nextOf (.ref a) >>= _) _ _ ⟨h₁, g, d, tk0, os⟩
    refine wpAny_bind (wpAny_nextOf_tuple_end (s := ⟨h₁, g, d, tk0, os⟩) hh (il.at fun o q => hs₁.extBut _ _ az.symm q) (tl.at fun o q => hs₁.extBut _ _ lz q) xe fun q e hq he => ?_)
    exact hE q e (fun c o cz cT c1 x => hq _ _ (fun e' => c1 (e' ▸ List.mem_cons_self)) (hs₁.extBut _ _ cz x)) he
/-- the state of such an iterator -/
structure ZipSt (h : Heap) (z TI TO : Addr) (is ls : List Addr) (i : Nat) : Prop where
  zz : ∃ F0 f, IsZipF h z TI TO F0 f ∧ (F0 = .none ∨ ∃ T : Nat, F0 = rawInt T)
  ti : IsTupL h TI (is.map Value.ref)
  to : ∃ vs, IsTupL h TO vs ∧ vs.length = is.length
  it : ZIt h is ls fun _ => i
theorem pyNext_zipN_item {Q : Option Value → Shared → Prop} {X : List (List Value)} (S : ZSep z TI TO is ls) (hne : is ≠ []) (h16 : is.length ≤ 16) (st : ZipSt s.heap z TI TO is ls i) (hX : X.length = ls.length) (ht : ∀ (k : Nat) (l : Addr) (x : List Value), ls[k]? = some l → X[k]? = some x → s.heap.IsTuple l x.toArray) (hlt : ∀ x ∈ X, i < x.length)
    (hQ : ∀ (h' : Heap) (us : List Value), us.length = is.length → (∀ (k : Nat) (x : List Value) (u : Value), X[k]? = some x → us[k]? = some u → x[i]? = some u) → ZipSt h' z TI TO is ls (i + 1) → IsTupL h' s.heap.objs.size us → h'.objs.size = s.heap.objs.size + 1 →
      (∀ c o, c ≠ z → c ≠ TO → c ∉ is → s.heap.get? c = some o → h'.get? c = some o) → Q (some (.ref s.heap.objs.size)) { s with heap := h' }) : wpAny (model prog w) A (pyNext (.ref z)) Q E s := by
  obtain ⟨F0, f, hz, hF⟩ := st.zz
  obtain ⟨vs, hTO, hv⟩ := st.to
  have hT : s.TypeIs (.ref z) "zip" := ⟨_, hz, rfl⟩
  unfold pyNext
  exact wpAny_bind (wpAny_attempt (wpAny_callSpecial?_slot (name := Str.ofString "__next__") hT F.slot_zip_next
    (wpAny_call_entry F.slot_zip_next hT F.entry_zip_next
      (zipN_next_item S hne h16 hz hF st.ti hTO hv st.it hX ht hlt fun h' us vs' a1 a2 a3 a4 a5 a6 a7 a8 a9 => wpAny_pure (hQ h' us a1 a2 ⟨a3, a9 _ _ S.TIz S.TITO S.TIi st.ti, ⟨vs', a4, a5⟩, a6⟩ a7 a8 a9)) (F.args_zip_next_1 _))))
theorem pyNext_zipN_end {Q : Option Value → Shared → Prop} {X : List (List Value)} (hh : A.in1.handled = none) (S : ZSep z TI TO is ls) (hne : is ≠ []) (st : ZipSt s.heap z TI TO is ls i) (hX : X.length = ls.length) (ht : ∀ (k : Nat) (l : Addr) (x : List Value), ls[k]? = some l → X[k]? = some x → s.heap.IsTuple l x.toArray) (hlt : ∀ x ∈ X, x.length ≤ i)
    (hQ : ∀ h', (∀ c o, c ≠ z → c ≠ TO → c ∉ is → s.heap.get? c = some o → h'.get? c = some o) → Q none { s with heap := h' }) : wpAny (model prog w) A (pyNext (.ref z)) Q E s := by
  obtain ⟨F0, f, hz, hF⟩ := st.zz
  obtain ⟨vs, hTO, hv⟩ := st.to
  have hT : s.TypeIs (.ref z) "zip" := ⟨_, hz, rfl⟩
  unfold pyNext
  refine wpAny_bind (wpAny_attempt (wpAny_callSpecial?_slot (name := Str.ofString "__next__") hT F.slot_zip_next
    (wpAny_call_entry F.slot_zip_next hT F.entry_zip_next (zipN_next_end hh S hne hz hF st.ti hTO st.it hX ht hlt fun h' e hk he => ?_) (F.args_zip_next_1 _))))
  obtain ⟨o, ho, hc⟩ := he
  refine wpAny_bind (wpAny_isInstance (T := "StopIteration") (b := true) ⟨o, ho, hc⟩ isSubtype_stop ?_)
  exact wpAny_pure (hQ _ hk)
end
end SQ
/-! zip( *e ) in a comprehension or a loop, the target a name -/
namespace SQ
open PySem PySem.Spec PyProof.Rows L2 RZ
def SqTs (K : PySem.W.Frag) (H : Hp) : List Addr → List (List V) → Prop
  | [], [] => True
  | l :: ls, x :: xs => SqT K H l x ∧ SqTs K H ls xs
  | _, _ => False
theorem SqTs.len {K : PySem.W.Frag} {H : Hp} : ∀ {ls : List Addr} {XS : List (List V)}, SqTs K H ls XS → XS.length = ls.length
  | [], [], _ => rfl
  | _ :: _, _ :: _, h => by simp [SqTs.len h.2]
  | [], _ :: _, h => h.elim
  | _ :: _, [], h => h.elim
/-- the items at i -/
abbrev colV (i : Nat) (XS : List (List V)) : List V := XS.filterMap (·[i]?)
/-- the tuples at ls, the items at i in a new tuple -/
def ItN (K : PySem.W.Frag) (ls : List Addr) : It :=
  ⟨fun i H => ∃ XS, SqTs K H ls XS ∧ ∀ x ∈ XS, i < x.length,
    fun i H v H' => ∃ T us, v = .ref T ∧ H T = none ∧ H' = upd H T (.tup us) ∧ ∀ XS, SqTs K H ls XS → us = colV i XS,
    fun i H => ∃ XS, SqTs K H ls XS ∧ ∀ x ∈ XS, x.length ≤ i⟩
theorem vals_of {X : Cx} {pins : List (Addr × Obj)} {σ : L2.St} {H : Hp} {s : Shared} (I : Inv X pins σ H s) : ∀ {ls : List Addr} {XS : List (List V)}, SqTs X.K H ls XS →
    ∃ W : List (List Value), W.length = ls.length ∧ (∀ (k : Nat) (l : Addr) (x : List Value), ls[k]? = some l → W[k]? = some x → s.heap.IsTuple l x.toArray) ∧ (∀ x ∈ W, ∃ y ∈ XS, y.length = x.length) ∧
      ∀ (i : Nat) (us : List Value), us.length = W.length → (∀ (k : Nat) (x : List Value) (u : Value), W[k]? = some x → us[k]? = some u → x[i]? = some u) → Vals (colV i XS) us
  | [], [], _ => ⟨[], rfl, fun k l x h => (by simp at h), fun x m => (by simp at m), fun i us h _ => (by
    have : us = [] := by simpa using h
    subst this; exact .nil)⟩
  | l :: ls, y :: ys, h => by
    obtain ⟨W, h1, h2, h3, h4⟩ := vals_of I h.2
    obtain ⟨its, rv, p, _⟩ := I.tuple h.1
    refine ⟨its :: W, by simp [h1], fun k l' x e1 e2 => ?_, fun x m => ?_, fun i us e1 e2 => ?_⟩
    · cases k with
      | zero => cases e1; cases e2; exact p
      | succ k => exact h2 k l' x e1 e2
    · rcases List.mem_cons.mp m with rfl | m
      · exact ⟨y, List.mem_cons_self, rv.length⟩
      · obtain ⟨z, a, b⟩ := h3 x m
        exact ⟨z, List.mem_cons_of_mem _ a, b⟩
    · cases us with
      | nil => cases e1
      | cons u us =>
        have hu := e2 0 its u rfl rfl
        have tl := h4 i us (by simpa using e1) fun k x u' a b => e2 (k + 1) x u' a b
        obtain ⟨hl, _⟩ := List.getElem?_eq_some_iff.mp hu
        have hy : i < y.length := by rw [rv.length]; exact hl
        obtain ⟨u2, hu2, ru⟩ := rv.get (List.getElem?_eq_getElem hy)
        rw [hu] at hu2
        cases hu2
        unfold colV
        rw [List.filterMap_cons, List.getElem?_eq_getElem hy]
        exact .cons ru tl
  | [], _ :: _, h => h.elim
  | _ :: _, [], h => h.elim
theorem SqTs.inj {X : Cx} {pins : List (Addr × Obj)} {σ : L2.St} {H : Hp} {s : Shared} (I : Inv X pins σ H s) : ∀ {ls : List Addr} {XS YS : List (List V)}, SqTs X.K H ls XS → SqTs X.K H ls YS → XS = YS
  | [], [], [], _, _ => rfl
  | l :: ls, x :: xs, y :: ys, h, g => by rw [I.tuple_inj h.1 g.1, SqTs.inj I h.2 g.2]
  | [], _ :: _, _, h, _ => h.elim
  | _ :: _, [], _, h, _ => h.elim
  | [], [], _ :: _, _, g => g.elim
  | _ :: _, _ :: _, [], _, g => g.elim
theorem pyIter_zipF {prog : Program} {w : World} {A : Around} {E : Value → Shared → Prop} {s : Shared} {z TI TO : Addr} {F0 : Value} {f : Bool} {Q : Value → Shared → Prop} (hz : IsZipF s.heap z TI TO F0 f) (h : Q (.ref z) s) : wpAny (model prog w) A (pyIter (.ref z)) Q E s := by
  have hT : s.TypeIs (.ref z) "zip" := ⟨_, hz, rfl⟩
  refine wpAny_pyIter_slot hT F.slot_zip_iter (wpAny_call_entry F.slot_zip_iter hT F.entry_zip_iter ?_ (F.args_zip_iter_1 _))
  show wpAny _ _ (ret (.ref z)) _ _ s
  exact wpAny_pure ⟨_, rfl, "zip", _, hT, F.slot_zip_next.lookup, h⟩
theorem turn_zipN {P : Program} {w : World} {K : PySem.W.Frag} {x : Str} {p : Pos} {z TI TO : Addr} {is ls : List Addr} (S : ZSep z TI TO is ls) (hne : is ≠ []) (h16 : is.length ≤ 16) :
    Turn P w K (.Name x p) (ItN K ls) (z :: TI :: TO :: is) z (fun i h => ZipSt h z TI TO is ls i) where
  mem := List.mem_cons_self
  obj := fun i h st c hc => by
    obtain ⟨F0, f, hz, _⟩ := st.zz
    obtain ⟨vs, hTO, _⟩ := st.to
    rcases List.mem_cons.mp hc with q | hc
    · rw [q]; exact ⟨_, hz, fun v q => nomatch q⟩
    rcases List.mem_cons.mp hc with q | hc
    · rw [q]; exact ⟨_, st.ti, fun v q => nomatch q⟩
    rcases List.mem_cons.mp hc with q | hc
    · rw [q]; exact ⟨_, hTO, fun v q => nomatch q⟩
    obtain ⟨k, hk⟩ := List.getElem?_of_mem hc
    have kl : k < is.length := (List.getElem?_eq_some_iff.mp hk).1
    have ln := S.len
    obtain ⟨o, e1, _, d1⟩ := st.it.it k c (ls[k]'(by omega)) hk (List.getElem?_eq_getElem (by omega))
    exact ⟨o, e1, fun v q => by rw [d1] at q; cases q⟩
  keep := fun i h h' st k => by
    obtain ⟨F0, f, hz, hF⟩ := st.zz
    obtain ⟨vs, hTO, hv⟩ := st.to
    exact ⟨⟨F0, f, k z (by simp) _ hz, hF⟩, k TI (by simp) _ st.ti, ⟨vs, k TO (by simp) _ hTO, hv⟩, ⟨fun j a l ha hl => (st.it.it j a l ha hl).at fun o q => k a (by simp [List.mem_of_getElem? ha]) o q⟩⟩
  item := by
    intro X hP hw hK hc i pins s σ H E I hf st hg
    subst hP hw hK
    obtain ⟨XS, hXS, hlt⟩ := hg
    obtain ⟨W, w1, w2, w3, w4⟩ := vals_of I hXS
    have ln := S.len
    refine pyNext_zipN_item S hne h16 st w1 w2 (fun x m => ?_) fun h' us a1 a2 a3 a4 a5 a6 => ?_
    · obtain ⟨y, ym, e⟩ := w3 x m
      rw [← e]; exact hlt y ym
    have rus : Vals (colV i XS) us := w4 i us (by rw [a1, w1, ln]) a2
    have ul : us.length ≤ sizeLine := by rw [a1]; exact Nat.le_trans h16 (by decide)
    have new : ObjOk X.prog X.w (upd H s.heap.objs.size (.tup (colV i XS))) h' s.heap.objs.size (.tup (colV i XS)) := ⟨by show (colV i XS).length ≤ sizeLine; rw [rus.length]; exact ul, us, rus, ⟨_, a4, rfl, _, rfl⟩⟩
    have I1 : Inv X pins σ (upd H s.heap.objs.size (.tup (colV i XS))) { s with heap := h' } :=
      I.turnedNew (t' := s.toks) (ch := z :: TI :: TO :: is) (fun c o hb q => a6 c o (fun e => hb (by simp [e])) (fun e => hb (by simp [e])) (fun m => hb (by simp [m])) q) hf (Nat.le_refl _) new
    refine ⟨_, rfl, wpAny_pure ⟨.ref s.heap.objs.size, _, I1, rfl, ⟨_, colV i XS, rfl, I.hok.fresh (Nat.le_refl _), rfl, fun YS hY => by rw [SqTs.inj I hY hXS]⟩, a3, fun c hcm => ?_⟩⟩
    have hlt : c < s.heap.objs.size := by
      obtain ⟨F0, f, hz, _⟩ := st.zz
      obtain ⟨vs, hTO, _⟩ := st.to
      rcases List.mem_cons.mp hcm with q | hcm
      · rw [q]; exact Heap.lt_size hz
      rcases List.mem_cons.mp hcm with q | hcm
      · rw [q]; exact Heap.lt_size st.ti
      rcases List.mem_cons.mp hcm with q | hcm
      · rw [q]; exact Heap.lt_size hTO
      obtain ⟨k, hk⟩ := List.getElem?_of_mem hcm
      have kl : k < is.length := (List.getElem?_eq_some_iff.mp hk).1
      obtain ⟨o, e1, _⟩ := st.it.it k c (ls[k]'(by omega)) hk (List.getElem?_eq_getElem (by omega))
      exact Heap.lt_size e1
    rw [upd_ne (Nat.ne_of_lt hlt)]
    exact (hf c hcm).1
  done := by
    intro X hP hw hK hc i pins s σ H E I hf st hg
    subst hP hw hK
    obtain ⟨XS, hXS, hlt⟩ := hg
    obtain ⟨W, w1, w2, w3, w4⟩ := vals_of I hXS
    refine pyNext_zipN_end (show X.A.in1.handled = none from I.ok.hd hc) S hne st w1 w2 (fun x m => ?_) fun h' a6 => ?_
    · obtain ⟨y, ym, e⟩ := w3 x m
      rw [← e]; exact hlt y ym
    exact ⟨rfl, I.turnedL (t' := s.toks) (ch := z :: TI :: TO :: is) (fun c o hb q => a6 c o (fun e => hb (by simp [e])) (fun e => hb (by simp [e])) (fun m => hb (by simp [m])) q) hf⟩
  self := fun A i s Q E st h => by
    obtain ⟨F0, f, hz, _⟩ := st.zz
    exact pyIter_zipF hz h
end SQ
namespace SQ
open PySem PySem.Spec PyProof.Rows L2 RZ
def iZipN (K : PySem.W.Frag) (te : TE) : TI := fun σ H R => te σ H fun y H1 => ∃ a ls, y = .ref a ∧ (SqT K H1 a (ls.map V.ref) ∨ SqL K H1 a (ls.map V.ref)) ∧ (∃ XS, SqTs K H1 ls XS) ∧ ls ≠ [] ∧ ls.length ≤ 16 ∧ R (ItN K ls) H1
theorem refs_of : ∀ {ls : List Addr} {us : List Value}, Vals (ls.map V.ref) us → us = ls.map Value.ref
  | [], _, .nil => rfl
  | l :: ls, _, .cons (b := u) a r => by
    have e : u = Value.ref l := a
    rw [e, refs_of r]; rfl
theorem zsep_new {m : Nat} {ls : List Addr} (hl : ∀ l : Nat, l ∈ ls → l < m) : ZSep (m + ls.length + 2) (m + ls.length) (m + ls.length + 1) ((List.range ls.length).map fun k => m + k) ls := by
  have hi : ∀ a : Nat, a ∈ (List.range ls.length).map (fun k => m + k) → m ≤ a ∧ a < m + ls.length := fun a h => by
    obtain ⟨k, hk, rfl⟩ := List.mem_map.mp h
    have := List.mem_range.mp hk
    omega
  refine ⟨?_, ?_, ?_, fun h => ?_, fun h => ?_, fun h => ?_, ?_, by simp, fun h => ?_, fun h => ?_, fun a h h2 => ?_⟩
  · show m + ls.length ≠ m + ls.length + 2; omega
  · show m + ls.length + 1 ≠ m + ls.length + 2; omega
  · show m + ls.length ≠ m + ls.length + 1; omega
  · have := hi _ h; omega
  · have := hi _ h; omega
  · have := hi _ h; omega
  · exact List.pairwise_map.mpr (List.nodup_range.imp fun {a b} h e => h (by have : m + a = m + b := e; omega))
  · have := hl _ h; omega
  · have := hl _ h; omega
  · exact absurd (hl a h2) (Nat.not_lt.mpr (hi a h).1)
theorem pi_zipN {K : PySem.W.Frag} {X : Cx} {e : Expr} {te : TE} {x : Str} {p p2 pos tpos : Pos} (hg : Gl X "zip") (hm : X.mg "zip" = none) (he : PE X e te) (hK : X.K = K := by rfl)
    (hs : starEach [.Starred e p2] X.env = [(true, eval e X.env)] := by rfl) : PI X (.Name x tpos) (.Call (.Name "zip" p) [.Starred e p2] [] pos) (iZipN K te) := by
  subst hK
  refine ⟨fun pins s σ H R I h => ?_⟩
  refine Call_ (ld_blt I hg hm PyProof.Rows.boot_zip ?_)
  rw [hs]
  refine PySem.W.ks_call rfl (P := fun _ => True) (fun h _ => ⟨.machine, .inr (.inl rfl), PySem.W.Looks.now⟩) (PySem.W.ks_lone (thn (he.run pins s σ H _ I h) fun v s1 h1 => ?_))
  obtain ⟨y, H1, I1, ry, a, ls, rfl, hsq, ⟨XS, hXS⟩, hne, h16, q⟩ := h1
  obtain rfl : v = Value.ref a := ry
  refine StX.star_any I1 hsq fun us s2 I2 r => ⟨trivial, ?_⟩
  rw [refs_of r]
  obtain ⟨W, w1, w2, _, _⟩ := vals_of I2 hXS
  have tl : ∀ l ∈ ls, ∃ xs, s2.heap.IsTuple l xs := fun l m => by
    obtain ⟨k, hk⟩ := List.getElem?_of_mem m
    have kl : k < ls.length := (List.getElem?_eq_some_iff.mp hk).1
    exact ⟨_, w2 k l (W[k]'(by omega)) hk (List.getElem?_eq_getElem (by omega))⟩
  refine call_zipN h16 tl fun h' Z => ?_
  refine wpAny_pyIter_zip Z.z ?_
  have I3 : Inv X pins σ H1 { s2 with heap := h' } := I2.kept (t' := s2.toks) Z.ex
  have S := zsep_new (m := s2.heap.objs.size) (ls := ls) fun l m => by
    obtain ⟨xs, o, ho, _⟩ := tl l m
    exact Heap.lt_size ho
  have ln : ((List.range ls.length).map fun k => s2.heap.objs.size + k).length = ls.length := by simp
  have ne2 : ((List.range ls.length).map fun k => s2.heap.objs.size + k) ≠ [] := fun e => by
    rw [e] at ln
    exact hne (List.length_eq_zero_iff.mp ln.symm)
  have st : ZipSt h' (s2.heap.objs.size + ls.length + 2) (s2.heap.objs.size + ls.length) (s2.heap.objs.size + ls.length + 1) ((List.range ls.length).map fun k => s2.heap.objs.size + k) ls 0 := by
    refine ⟨⟨.none, false, Z.z, .inl rfl⟩, ?_, ⟨_, Z.to, by simp⟩, ⟨fun k a l ha hl => ?_⟩⟩
    · rw [List.map_map]; exact Z.ti
    · rw [List.getElem?_map] at ha
      obtain ⟨j, hj, rfl⟩ := Option.map_eq_some_iff.mp ha
      obtain ⟨hk, e⟩ := List.getElem?_eq_some_iff.mp hj
      simp at e
      subst e
      exact ⟨_, Z.it k l hl, rfl, rfl⟩
  refine ⟨s2.heap.objs.size + ls.length + 2, _, _, ItN X.K ls, H1, rfl, I3, turn_zipN S ne2 (by rw [ln]; exact h16), st, fun c hcm => ?_, q⟩
  have hle : s2.heap.objs.size ≤ c := by
    rcases List.mem_cons.mp hcm with e | hcm
    · rw [e]; show s2.heap.objs.size ≤ s2.heap.objs.size + ls.length + 2; omega
    rcases List.mem_cons.mp hcm with e | hcm
    · rw [e]; show s2.heap.objs.size ≤ s2.heap.objs.size + ls.length; omega
    rcases List.mem_cons.mp hcm with e | hcm
    · rw [e]; show s2.heap.objs.size ≤ s2.heap.objs.size + ls.length + 1; omega
    obtain ⟨k, _, rfl⟩ := List.mem_map.mp hcm
    exact Nat.le_add_right _ _
  have := I2.fpOk hle (I2.hok.fresh hle)
  exact this
end SQ
namespace SQ
open PySem PySem.Spec PyProof.Rows L2 RZ
/-- the items at i of many rows -/
abbrev colD (i : Nat) (dss : List (List D)) : List D := dss.filterMap (·[i]?)
/-- the columns -/
def colsD (m : Nat) (dss : List (List D)) : List D := (List.range m).map fun i => .tup (colD i dss)
section
variable {K : PySem.W.Frag} {Γ : Cxt} {ss : List Sl} {H0 H : Hp} {ps : Ps}
theorem rows_of (I : Env K Γ H0 H ps) : ∀ {dss : List (List D)} {ls : List Addr}, dss.length = ls.length → (∀ p ∈ pile (dss.map .tup) (ls.map V.ref), p ∈ ps) →
    ∃ XS, SqTs K H ls XS ∧ (∀ i, Reps K (Out Γ ps) H (colD i dss) (colV i XS)) ∧ ∀ x ∈ XS, ∃ d ∈ dss, x.length = d.length
  | [], [], _, _ => ⟨[], trivial, fun i => rfl, fun x m => (by simp at m)⟩
  | d :: dss, l :: ls, hl, hm => by
    obtain ⟨XS, a, b, c⟩ := rows_of I (dss := dss) (ls := ls) (by simpa using hl) fun p m => hm p (List.mem_cons_of_mem _ m)
    obtain ⟨l', vs, e, h, r⟩ := I.val (d := .tup d) (v := .ref l) (hm _ List.mem_cons_self)
    cases e
    have le := r.length
    refine ⟨vs :: XS, ⟨h, a⟩, fun i => ?_, fun x m => ?_⟩
    · unfold colD colV
      rw [List.filterMap_cons, List.filterMap_cons]
      by_cases hi : i < d.length
      · obtain ⟨v, hv, rv⟩ := r.get (List.getElem?_eq_getElem hi)
        rw [hv, List.getElem?_eq_getElem hi]
        exact ⟨v, _, rfl, rv, b i⟩
      · rw [List.getElem?_eq_none (by omega), List.getElem?_eq_none (by omega)]
        exact b i
    · rcases List.mem_cons.mp m with rfl | m
      · exact ⟨d, List.mem_cons_self, le.symm⟩
      · obtain ⟨y, q1, q2⟩ := c x m
        exact ⟨y, List.mem_cons_of_mem _ q1, q2⟩
  | [], _ :: _, h, _ => by cases h
  | _ :: _, [], h, _ => by cases h
theorem walks_zipN {dss : List (List D)} {ls : List Addr} {m : Nat} (hl : dss.length = ls.length) (hm : ∀ d ∈ dss, d.length = m) : Walks K Γ (ItN K ls) (colsD m dss) (pile (dss.map .tup) (ls.map V.ref)) := fun H0 H ps I mm => by
  obtain ⟨XS, a, b, c⟩ := rows_of I hl mm
  have xl : ∀ x ∈ XS, x.length = m := fun x q => by obtain ⟨d, dm, e⟩ := c x q; rw [e, hm d dm]
  refine ⟨fun i d hd => ?_, ⟨XS, a, fun x q => by rw [xl x q]; simp [colsD]⟩⟩
  unfold colsD at hd
  rw [List.getElem?_map] at hd
  obtain ⟨j, hj, rfl⟩ := Option.map_eq_some_iff.mp hd
  obtain ⟨hi, e⟩ := List.getElem?_eq_some_iff.mp hj
  simp at e hi
  subst e
  refine ⟨⟨XS, a, fun x q => by rw [xl x q]; exact hi⟩, fun z H' y => ?_⟩
  obtain ⟨T, us, rfl, hT, rfl, y1⟩ := y
  rw [y1 XS a]
  exact I.newTup hT (b i)
theorem push_rows (I : Env K Γ H0 H ps) : ∀ {dss : List (List D)} {vs : List V}, Reps K (Out Γ ps) H (dss.map .tup) vs → ∃ ls : List Addr, vs = ls.map V.ref ∧ dss.length = ls.length ∧ (∃ XS, SqTs K H ls XS) ∧ Env K Γ H0 H (pile (dss.map .tup) (ls.map V.ref) ++ ps)
  | [], vs, r => by
    have e : vs = [] := r
    subst e
    exact ⟨[], rfl, rfl, ⟨[], trivial⟩, I⟩
  | d :: dss, vs, r => by
    obtain ⟨v, ws, rfl, r1, r2⟩ := r
    obtain ⟨ls, rfl, hl, ⟨XS, hX⟩, J⟩ := push_rows I r2
    obtain ⟨l, us, rfl, ht, rr⟩ := r1
    refine ⟨l :: ls, rfl, by simp [hl], ⟨us :: XS, ht, hX⟩, ?_⟩
    rw [List.map_cons, List.map_cons, pile_cons]
    refine J.push (d := .tup d) ⟨l, us, rfl, ht, rr.less fun a m => m.imp id fun m => ?_⟩
    rw [owned_app, owned_pile] at m
    exact m
theorem wpI_zipN {te : TE} {C : List D → Prop} (h : wpE K Γ te ss fun y => ∃ dss m, (y = .lst (dss.map .tup) ∨ y = .tup (dss.map .tup)) ∧ dss ≠ [] ∧ dss.length ≤ 16 ∧ (∀ d ∈ dss, d.length = m) ∧ C (colsD m dss)) : wpI K Γ (iZipN K te) ss C := fun H0 σ H τ hl I R k =>
  h H0 σ H τ hl I _ fun v dy H1 J c => by
    obtain ⟨dss, m, hy, hne, h16, hm, c⟩ := c
    have key : ∀ vs, Reps K (Out Γ ((.val dy, some v) :: (ss.zip σ ++ τ))) H1 (dss.map .tup) vs → ∃ ls : List Addr, vs = ls.map V.ref ∧ (∃ XS, SqTs K H1 ls XS) ∧ ls ≠ [] ∧ ls.length ≤ 16 ∧ R (ItN K ls) H1 := fun vs r => by
      obtain ⟨ls, e, ll, hX, J2⟩ := push_rows J r
      refine ⟨ls, e, hX, fun z => hne (List.length_eq_zero_iff.mp (by rw [ll, z]; rfl)), by omega, k _ H1 _ (pile (dss.map .tup) (ls.map V.ref)) ?_ (walks_zipN ll hm) c⟩
      have J3 : Env K Γ H0 H1 ((.val dy, some v) :: (pile (dss.map .tup) (ls.map V.ref) ++ (ss.zip σ ++ τ))) := J2.perm List.perm_middle
      refine J3.drop.perm ?_
      rw [← List.append_assoc, ← List.append_assoc]
      exact List.perm_append_comm.append_right _
    have rv := J.val List.mem_cons_self
    rcases hy with rfl | rfl
    · obtain ⟨a, vs, rfl, n, t, r⟩ := rv
      obtain ⟨ls, rfl, q1, q2, q3, q4⟩ := key vs r
      exact ⟨a, ls, rfl, .inr (.inl (.inl t)), q1, q2, q3, q4⟩
    · obtain ⟨a, vs, rfl, t, r⟩ := rv
      obtain ⟨ls, rfl, q1, q2, q3, q4⟩ := key vs r
      exact ⟨a, ls, rfl, .inl t, q1, q2, q3, q4⟩
end
end SQ
/-! sorted(set(e)), e a list of ints -/
namespace SQ
open PySem PySem.Spec PyProof.Rows L2
section
variable {P : Program} {w : World} {A : Around} {E : Value → Shared → Prop} {s : Shared}
/-- an empty set -/
abbrev set0 (w : World) : Obj := { cls := .type "set", dict := none, data := .set #[] 0 (.fresh 0 0 (!w.params.followText "set-order")) }
end
end SQ
namespace SQ
open PySem PySem.Spec PyProof.Rows L2
def tSortSet (K : PySem.W.Frag) (ta : TE) : TE := fun σ H Q => ta σ H fun x H1 => ∃ (l : Addr) (ns : List Int), x = V.ref l ∧ SqL K H1 l (ns.map V.int) ∧ ns.length < 64 ∧
  ∀ (out : List Int) (p : Addr), out.Pairwise (· < ·) → (∀ k : Int, k ∈ out ↔ k ∈ ns) → H1 p = none → Q (.ref p) (upd H1 p (.lst (out.map V.int)))
section
variable {K : PySem.W.Frag} {Γ : Cxt} {ss : List Sl} {H0 H : Hp} {ps : Ps}
theorem wpO_sortSet {te : TE} {C : List D → Prop} (h : wpE K Γ te ss fun y => ∃ ns : List Int, y = .lst (ns.map D.int) ∧ ns.length < 64 ∧ ∀ out : List Int, out.Pairwise (· < ·) → (∀ k : Int, k ∈ out ↔ k ∈ ns) → C (out.map D.int)) : wpO K Γ (tSortSet K te) ss C := fun H0 σ H τ hl I Q q =>
  h H0 σ H τ hl I _ fun v dy H1 J c => by
    obtain ⟨ns, rfl, h64, c⟩ := c
    obtain ⟨a, vs, rfl, n, t, r⟩ := J.val List.mem_cons_self
    have e := Reps.ints.mp r
    subst e
    exact ⟨a, ns, rfl, .inl (.inl t), h64, fun out p hs hm hp => q p (out.map D.int) _ (J.drop.pushO hp (Reps.ints.mpr rfl)) (c out hs hm)⟩
end
end SQ
/-! methods; x in o; zip of many -/
namespace XQ
open PySem PySem.Spec PyProof.Rows L2 SQ
variable {G : Fr → Prop}
def met0 (Cl : Addr) (m : Str) (f : XF) (o : XE G) (a : XA G) : XE G where
  te K E := tMethR Cl m (spF K f.F) E0 (o.te K E) (a.te K E)
  pre B X ss C := o.pre B X ss fun y => ∃ ns es, y = .ins Cl ns es ∧ m ∉ ns ∧ a.pre B X ss fun ds => f.F B (y :: ds) C fun _ => False
  ok {K Γ ss C} g h := wpE_methG (X' := fun _ => False) (E' := E0) (fun _ z => z.elim) (fun B B' ds C X m h => f.mono m (fun _ h => h) (fun _ h => h) h) ((o.ok g h).mono fun y c => by
    obtain ⟨ns, es, e, hm, h⟩ := c
    exact ⟨ns, es, e, hm, a.ok g h⟩)
  mono l x c h := o.mono l x (fun y h => by
    obtain ⟨ns, es, e, hm, h⟩ := h
    exact ⟨ns, es, e, hm, a.mono l x (fun d h => f.mono l (fun _ h => h) c h) h⟩) h
def metE (Cl : Addr) (m : Str) (f : XF) (o : XE G) (a : XA G) : XE G where
  te K E := tMethR Cl m (spF K f.F) E (o.te K E) (a.te K E)
  pre B X ss C := o.pre B X ss fun y => ∃ ns es, y = .ins Cl ns es ∧ m ∉ ns ∧ a.pre B X ss fun ds => f.F B (y :: ds) C X
  ok {K Γ ss C} g h := wpE_methG (X' := Γ.X) (E' := Γ.E) (fun _ z => ⟨z, rfl⟩) (fun B B' ds C X m h => f.mono m (fun _ h => h) (fun _ h => h) h) ((o.ok g h).mono fun y c => by
    obtain ⟨ns, es, e, hm, h⟩ := c
    exact ⟨ns, es, e, hm, a.ok g h⟩)
  mono l x c h := o.mono l x (fun y h => by
    obtain ⟨ns, es, e, hm, h⟩ := h
    exact ⟨ns, es, e, hm, a.mono l x (fun d h => f.mono l x c h) h⟩) h
def inO (Cl : Addr) (f : XF) (a o : XE G) : XE G where
  te K E := tOp (rInO Cl (spF K f.F)) (a.te K E) (o.te K E)
  pre B X ss C := a.pre B X ss fun d => o.pre B X ss fun y => ∃ ns es, y = .ins Cl ns es ∧ f.F B [y, d] (fun z => ∃ b, z = .bl b ∧ C (.bl b)) fun _ => False
  ok g h := wpE_inO (fun B B' ds C X m h => f.mono m (fun _ h => h) (fun _ h => h) h) ((a.ok g h).mono fun d c => o.ok g c)
  mono l x c h := a.mono l x (fun d h => o.mono l x (fun y h => by
    obtain ⟨ns, es, e, h⟩ := h
    exact ⟨ns, es, e, f.mono l (fun _ h => h) (fun z q => by obtain ⟨b, e, q⟩ := q; exact ⟨b, e, c _ q⟩) h⟩) h) h
def izipS (a : XE G) : XI G where
  te K E := iZipN K (a.te K E)
  pre B X ss C := a.pre B X ss fun y => ∃ dss m, (y = .lst (dss.map .tup) ∨ y = .tup (dss.map .tup)) ∧ dss ≠ [] ∧ dss.length ≤ 16 ∧ (∀ d ∈ dss, d.length = m) ∧ C (colsD m dss)
  ok g h := wpI_zipN (a.ok g h)
  mono l x c h := a.mono l x (fun d h => by
    obtain ⟨dss, m, h1, h2, h3, h4, h⟩ := h
    exact ⟨dss, m, h1, h2, h3, h4, c _ h⟩) h
def srtSet (a : XE G) : XO G where
  te K E := tSortSet K (a.te K E)
  pre B X ss C := a.pre B X ss fun y => ∃ ns : List Int, y = .lst (ns.map D.int) ∧ ns.length < 64 ∧ ∀ out : List Int, out.Pairwise (· < ·) → (∀ k : Int, k ∈ out ↔ k ∈ ns) → C (out.map D.int)
  ok g h := wpO_sortSet (a.ok g h)
  mono l x c h := a.mono l x (fun d h => by
    obtain ⟨ns, h1, h2, h3⟩ := h
    exact ⟨ns, h1, h2, fun out a b => c _ (h3 out a b)⟩) h
section
variable {B : Sc} {X : XP} {ss : List Sl} {Cl : Addr} {C : D → Prop}
@[simp] theorem srtSet_pre (a : XE G) {C : List D → Prop} : ((srtSet a) : XO G).pre B X ss C = (a.pre B X ss fun y => ∃ ns : List Int, y = .lst (ns.map D.int) ∧ ns.length < 64 ∧ ∀ out : List Int, out.Pairwise (· < ·) → (∀ k : Int, k ∈ out ↔ k ∈ ns) → C (out.map D.int)) := rfl
@[simp] theorem met0_pre (m : Str) (f : XF) (o : XE G) (a : XA G) : ((met0 Cl m f o a) : XE G).pre B X ss C = (o.pre B X ss fun y => ∃ ns es, y = .ins Cl ns es ∧ m ∉ ns ∧ a.pre B X ss fun ds => f.F B (y :: ds) C fun _ => False) := rfl
@[simp] theorem metE_pre (m : Str) (f : XF) (o : XE G) (a : XA G) : ((metE Cl m f o a) : XE G).pre B X ss C = (o.pre B X ss fun y => ∃ ns es, y = .ins Cl ns es ∧ m ∉ ns ∧ a.pre B X ss fun ds => f.F B (y :: ds) C X) := rfl
@[simp] theorem inO_pre (f : XF) (a o : XE G) : ((inO Cl f a o) : XE G).pre B X ss C = (a.pre B X ss fun d => o.pre B X ss fun y => ∃ ns es, y = .ins Cl ns es ∧ f.F B [y, d] (fun z => ∃ b, z = .bl b ∧ C (.bl b)) fun _ => False) := rfl
@[simp] theorem izipS_pre (a : XE G) {C : List D → Prop} : ((izipS a) : XI G).pre B X ss C = (a.pre B X ss fun y => ∃ dss m, (y = .lst (dss.map .tup) ∨ y = .tup (dss.map .tup)) ∧ dss ≠ [] ∧ dss.length ≤ 16 ∧ (∀ d ∈ dss, d.length = m) ∧ C (colsD m dss)) := rfl
end
end XQ
/-! try: return a() / except .., with texts; try: a() / except ..; return a constant -/
namespace SQ
open PySem PySem.Spec PyProof.Rows L2
/-- what the clauses make of an exception; F: what is handed back if they hand back nothing -/
def outsF (K : PySem.W.Frag) (n : Nat) (F : V) (l : List Cls3) : Value → Option Addr → Hp → VK → Prop := fun cls d H Q => ∀ σ : L2.St, σ.length = n → wMix K (fun _ _ _ _ => False) { nx := fun _ H' => Q F H', rt := Q } l cls d σ H
/-- a, then a constant -/
def tThen (te : TE) (F : V) : TE := fun σ H Q => te σ H fun _ H' => Q F H'
theorem gives_tryF {X : Cx} {Ng : List Str} {x a q : Str} {sg : Scope} {g : Addr} {cdg : Value} {l : List Cls3} {h0 : ExceptHandler} {hs : List ExceptHandler} {p1 p2 p3 p8 : Pos} (hN : Ng.Nodup) (hst : ∀ f : Addr, (L2.start Ng [V.ref f])[0]? = some (some (V.ref f)))
    (hh : ∀ (s : Shared) (H : Hp), Clauses (cxOf C8.CX0 X.prog X.w X.K X.mg X.base Ng x sg g cdg X.A X.stack s H C8.E0).nox (h0 :: hs) l) :
    LamX.GivesTo X Ng x sg g cdg [.Try [.Return (some (.Call (.Name a p1) [] [] p2)) p3] (h0 :: hs) [] [] p8] a q (tOut (outsF X.K Ng.length .non l)) := gives_try hN hst hh
section
variable {K : PySem.W.Frag} {S : Addr → Prop} {H : Hp} {C : D → Prop} {Q : VK} {σ : L2.St} {D0 : L2.Ends}
/-- return a constant -/
theorem suite_const {v : V} {d : D} (hD : D0.rt = Q) (r : Rep K S H d v) (q : ∀ z dd H2, Rel S H H2 → (∀ a, S a → H2 a = H a) → Rep K S H2 dd z → C dd → Q z H2) (c : C d) : tRet (tC v) D0 σ H := by
  show D0.rt v H
  rw [hD]
  exact q v d H (Rel.refl _ _) (fun _ _ => rfl) r c
/-- return text + repr(e.value) -/
theorem suite_rep {i : Nat} {a : Addr} {x fl : Str} {CN : Addr} {cls : Value} {d : Option Addr} {v0 : D} {y : Exc} (hD : D0.rt = Q) (hi : i < σ.length) (lv : Live S H) (ry : RepX K S H y cls d) (hc : y.cls = CN) (hn : y.ns = [fl]) (hd : y.ds = [v0])
    (hs : shw v0 = true) (hz : x.length + (rp v0).shown.length ≤ 2000000)
    (q : ∀ z dd H2, Rel S H H2 → (∀ a, S a → H2 a = H a) → Rep K S H2 dd z → C dd → Q z H2) (c : C (.str (x ++ (rp v0).shown))) :
    tRet (tOp (rAddA K) (tC (.str x)) (tCB (rReprA K) (tCons (tBy1 CN fl a cls d (tVar i)) tNil))) (unb i D0) (σ.set i (some (.ref a))) H := by
  obtain ⟨e1, e2⟩ := ry
  rw [hn] at e2
  rcases e2 with e2 | ⟨dd, fs, e3, e4, e5, e6⟩
  · cases e2
  obtain ⟨v, rfl⟩ : ∃ v, fs = [(fl, v)] := by
    match fs, e5 with
    | [(f, v)], e5 =>
      have : f = fl := by simpa using e5
      exact ⟨v, by rw [this]⟩
  rw [hd] at e6
  obtain ⟨v', ws, e7, rv, e8⟩ := e6
  have e7 : [v] = v' :: ws := e7
  cases e7
  refine ⟨.ref a, by simp [hi], rfl, by rw [e1, hc], dd, v, e3, e4, ?_⟩
  have rv' : Rep K S H v0 v := rv
  have e8 := e8
  refine ⟨S, v, v0, rfl, rv', hs, ?_⟩
  refine .inr (.inl ⟨x, (rp v0).shown, rfl, rfl, Nat.le_trans hz (by decide), ?_⟩)
  show D0.rt _ _
  rw [hD]
  exact q _ (.str (x ++ (rp v0).shown)) H (Rel.refl _ _) (fun _ _ => rfl) rfl c
end
end SQ
namespace SQ
open PySem PySem.Spec PyProof.Rows L2
section
variable {X : Cx} {T : List (Addr × Str)} {outs : Value → Option Addr → Hp → VK → Prop} {x a : Str} {c P : Addr} {j : Nat} {st : Stmt} {Ng : List Str} {params : Arguments} {body : Expr} {scope : Scope} {t : XK → TE} {p lpos pos : Pos} {F : V}
end
end SQ
/-! met(lambda: ..): what errors are made to -/
namespace XQ
open PySem PySem.Spec PyProof.Rows L2 SQ
/-- what a clause hands back -/
inductive Ck where
  | txt (w : Str)
  | non
  | bl (b : Bool)
  | rep (f w : Str)
abbrev Cu := XN × Ck
def Ck.cls3 (V : Ve) (K : Fr) (n : XN) : Ck → Cls3
  | .txt w => ⟨.ref (V.cls n), none, fun _ _ _ => tRet (tC (.str w))⟩
  | .non => ⟨.ref (V.cls n), none, fun _ _ _ => tRet (tC .non)⟩
  | .bl b => ⟨.ref (V.cls n), none, fun _ _ _ => tRet (tC (.bl b))⟩
  | .rep fl w => ⟨.ref (V.cls n), some 1, fun a cls d => tRet (tOp (rAddA K) (tC (.str w)) (tCB (rReprA K) (tCons (tBy1 (V.cls n) fl a cls d (tVar 1)) tNil)))⟩
def clsU (V : Ve) (K : Fr) (l : List Cu) : List Cls3 := l.map fun c => c.2.cls3 V K c.1
def Ck.out (k : Ck) (x : Exc) (C : D → Prop) : Prop := match k with
  | .txt w => C (.str w)
  | .non => C .non
  | .bl b => C (.bl b)
  | .rep fl w => match x.ns, x.ds with
    | [g], [v] => g = fl ∧ shw v = true ∧ w.length + (rp v).shown.length ≤ 2000000 ∧ C (.str (w ++ (rp v).shown))
    | _, _ => False
@[simp] theorem out_txt {w : Str} {x : Exc} {C : D → Prop} : (Ck.txt w).out x C = C (.str w) := rfl
@[simp] theorem out_non {x : Exc} {C : D → Prop} : (Ck.non).out x C = C .non := rfl
@[simp] theorem out_bl {b : Bool} {x : Exc} {C : D → Prop} : (Ck.bl b).out x C = C (.bl b) := rfl
@[simp] theorem out_rep {fl w g : Str} {c : Addr} {v : D} {C : D → Prop} : (Ck.rep fl w).out ⟨c, [g], [v]⟩ C = (g = fl ∧ shw v = true ∧ w.length + (rp v).shown.length ≤ 2000000 ∧ C (.str (w ++ (rp v).shown))) := rfl
theorem Ck.out_mono {k : Ck} {x : Exc} {C C' : D → Prop} (c : ∀ d, C d → C' d) (h : k.out x C) : k.out x C' := by
  cases k with
  | txt w => exact c _ h
  | non => exact c _ h
  | bl b => exact c _ h
  | rep fl w =>
    unfold Ck.out at h ⊢
    simp only at h ⊢
    split at h
    · exact ⟨h.1, h.2.1, h.2.2.1, c _ h.2.2.2⟩
    · exact h.elim
def oU (V : Ve) : List Cu → Exc → (D → Prop) → Prop
  | [], _, _ => False
  | (n, k) :: r, x, C => if x.cls = V.cls n then k.out x C else oU V r x C
@[simp] theorem oU_cons {V : Ve} {n : XN} {k : Ck} {r : List Cu} {x : Exc} {C : D → Prop} : oU V ((n, k) :: r) x C = if x.cls = V.cls n then k.out x C else oU V r x C := rfl
@[simp] theorem oU_nil {V : Ve} {x : Exc} {C : D → Prop} : oU V [] x C = False := rfl
theorem oU_mono {V : Ve} : ∀ {l : List Cu} {x : Exc} {C C' : D → Prop}, (∀ d, C d → C' d) → oU V l x C → oU V l x C'
  | [], _, _, _, _, h => h
  | (n, k) :: r, x, C, C', c, h => by
    rw [oU_cons] at h ⊢
    split
    · rename_i z
      rw [if_pos z] at h
      exact Ck.out_mono c h
    · rename_i z
      rw [if_neg z] at h
      exact oU_mono c h
theorem oU_in {V : Ve} : ∀ {l : List Cu} {x : Exc} {C : D → Prop}, oU V l x C → ∃ c ∈ l, x.cls = V.cls c.1
  | [], _, _, h => h.elim
  | (n, k) :: r, x, C, h => by
    rw [oU_cons] at h
    split at h
    · rename_i z; exact ⟨_, List.mem_cons_self, z⟩
    · obtain ⟨c, m, e⟩ := oU_in h; exact ⟨c, List.mem_cons_of_mem _ m, e⟩
theorem oU_ok {V : Ve} {K : Fr} {n0 : Nat} {F : L2.V} {l0 : List Cu} (hn : ∀ c ∈ l0, c.1 ∈ V.names) (h0 : ∀ c ∈ l0, (c.2.cls3 V K c.1).i ≠ none → 1 < n0) (g : Good V K) {x : Exc} {C : D → Prop} (h : oU V l0 x C) : wpX K (outsF K n0 F (clsU V K l0)) x C := fun S H cls d lv rx Q q σ hσ => by
  obtain ⟨c0, m0, e0⟩ := oU_in h
  have hm : c0.1 ∈ V.names := hn _ m0
  have ec : cls = .ref (V.cls c0.1) := by rw [← e0]; exact rx.1
  have key : ∀ l : List Cu, (∀ c ∈ l, c.1 ∈ V.names) → (∀ c ∈ l, (c.2.cls3 V K c.1).i ≠ none → 1 < n0) → oU V l x C → wMix K (fun _ _ _ _ => False) { nx := fun _ H' => Q F H', rt := Q } (clsU V K l) cls d σ H := by
    intro l
    induction l with
    | nil => intro _ _ h; exact h.elim
    | cons c r ih =>
      intro hn hk h
      obtain ⟨n, k⟩ := c
      rw [oU_cons] at h
      have e1 := g.ex c0.1 n hm (hn _ List.mem_cons_self)
      by_cases hc : c0.1 = n
      · rw [if_pos (by rw [e0, hc])] at h
        refine ⟨true, ?_, fun _ a ha => ?_, fun h => absurd h (by decide)⟩
        · rw [ec]
          cases k <;> (show PySem.W.exmOne K _ (.ref (V.cls n)) = _; rw [e1, hc]; simp)
        · cases k with
          | txt w => exact suite_const (σ := σ) (D0 := { nx := fun _ H' => Q F H', rt := Q }) (K := K) (S := S) (C := C) (Q := Q) (d := .str w) rfl rfl q h
          | non => exact suite_const (σ := σ) (D0 := { nx := fun _ H' => Q F H', rt := Q }) (K := K) (S := S) (C := C) (Q := Q) (d := .non) rfl rfl q h
          | bl b => exact suite_const (σ := σ) (D0 := { nx := fun _ H' => Q F H', rt := Q }) (K := K) (S := S) (C := C) (Q := Q) (d := .bl b) rfl rfl q h
          | rep fl w =>
            unfold Ck.out at h
            simp only at h
            split at h
            · rename_i g v hns hds
              obtain ⟨rfl, h1, h2, h⟩ := h
              have hz := hk _ List.mem_cons_self (fun z => nomatch z)
              exact suite_rep (C := C) rfl (by omega) lv rx (by rw [e0, hc]) hns hds h1 h2 q h
            · exact h.elim
      · have hne : ¬ (x.cls = V.cls n) := by rw [e0, V.cls_eq]; exact hc
        rw [if_neg hne] at h
        refine ⟨false, ?_, fun h => absurd h (by decide), fun _ => ih (fun c m => hn c (List.mem_cons_of_mem _ m)) (fun c m => hk c (List.mem_cons_of_mem _ m)) h⟩
        rw [ec]
        cases k <;> (show PySem.W.exmOne K _ (.ref (V.cls n)) = _; rw [e1]; simp [hc])
  exact key l0 hn h0 h
def named : Ck → Bool
  | .rep _ _ => true
  | _ => false
/-- met(lambda: a); n: the names of met -/
def outcU (V : Ve) (n : Nat) (l : List Cu) (hn : ∀ c ∈ l, c.1 ∈ V.names) (hk : ∀ c ∈ l, named c.2 = true → 1 < n) (a : XE (Good V)) : XE (Good V) :=
  lamX V.T0 (fun K => outsF K n .non (clsU V K l)) (fun x C => oU V l x C) (fun g h => oU_ok hn (fun c m z => hk c m (by obtain ⟨n, k⟩ := c; cases k <;> first | rfl | exact absurd rfl z)) g h) (fun c h => oU_mono c h) a
def thenV {G : Fr → Prop} (a : XE G) (v : L2.V) (d : D) (hd : ∀ (K : Fr) (S : Addr → Prop) (H : Hp), Rep K S H d v) : XE G where
  te K E := tThen (a.te K E) v
  pre B X ss C := a.pre B X ss fun _ => C d
  ok g h := fun H0 σ H τ hl I Q q => a.ok g h H0 σ H τ hl I _ fun _ _ H2 J c => q v d H2 (J.drop.push (hd _ _ _)) c
  mono l x c h := a.mono l x (fun _ h => c _ h) h
def outcE (V : Ve) (n : Nat) (l : List Cu) (hn : ∀ c ∈ l, c.1 ∈ V.names) (hk : ∀ c ∈ l, named c.2 = true → 1 < n) (v : L2.V) (d : D) (hd : ∀ (K : Fr) (S : Addr → Prop) (H : Hp), Rep K S H d v) (a : XE (Good V)) : XE (Good V) :=
  lamX V.T0 (fun K => outsF K n v (clsU V K l)) (fun x C => oU V l x C) (fun g h => oU_ok hn (fun c m z => hk c m (by obtain ⟨n, k⟩ := c; cases k <;> first | rfl | exact absurd rfl z)) g h) (fun c h => oU_mono c h) (thenV a v d hd)
@[simp] theorem outcU_pre {V : Ve} {n : Nat} {l : List Cu} {hn : ∀ c ∈ l, c.1 ∈ V.names} {hk : ∀ c ∈ l, named c.2 = true → 1 < n} {a : XE (Good V)} {B : Sc} {X : XP} {ss : List Sl} {C : D → Prop} : (outcU V n l hn hk a).pre B X ss C = (B.tb V.T0 ∧ ∀ B', Sc.le B B' → a.pre B' (fun x => oU V l x C) (deown ss) C) := rfl
@[simp] theorem outcE_pre {V : Ve} {n : Nat} {l : List Cu} {hn : ∀ c ∈ l, c.1 ∈ V.names} {hk : ∀ c ∈ l, named c.2 = true → 1 < n} {v : L2.V} {d : D} {hd : ∀ (K : Fr) (S : Addr → Prop) (H : Hp), Rep K S H d v} {a : XE (Good V)} {B : Sc} {X : XP} {ss : List Sl} {C : D → Prop} : (outcE V n l hn hk v d hd a).pre B X ss C = (B.tb V.T0 ∧ ∀ B', Sc.le B B' → a.pre B' (fun x => oU V l x fun d => C d) (deown ss) fun _ => C d) := rfl
end XQ
/-! a row of met(lambda: ..), one by one -/
namespace XQ
open PySem PySem.Spec PyProof.Rows L2 SQ
variable {V : Ve} {B : Sc} {X : XP} {ss : List Sl} {e : En}
theorem own_get {i : Nat} {xs : List D} {C : List D → Prop} (h : ss[i]? = some (.own xs)) (c : C xs) : getO ss i C := by unfold getO; rw [h]; exact c
/-- xs.append(a) -/
theorem app_step {G : Fr → Prop} {i : Nat} {a : XE G} {R : XS G} {xs : List D} (d : D) (ho : ss[i]? = some (.own xs)) (hl : xs.length < 100000) (ha : a.pre B X ss fun y => y = d) (hR : R.pre B X (ss.set i (.own (xs ++ [d]))) e) : (seq (app i a) R).pre B X ss e :=
  own_get ho ⟨hl, a.mono (le_refl _) (fun _ h => h) (fun y h => by subst h; exact hR) ha⟩
/-- xs = [a] -/
theorem one_step {G : Fr → Prop} {i : Nat} {a : XE G} {R : XS G} (d : D) (hi : i < ss.length) (ha : a.pre B X ss fun y => y = d) (hR : R.pre B X (ss.set i (.own [d])) e) : (seq (setO i (lst (acons a anil))) R).pre B X ss e :=
  ⟨hi, a.mono (le_refl _) (fun _ h => h) (fun y h => by subst h; exact ⟨by simp, hR⟩) ha⟩
theorem mt_U {n : Nat} {l : List Cu} {hn : ∀ c ∈ l, c.1 ∈ V.names} {hk : ∀ c ∈ l, named c.2 = true → 1 < n} {a : XE (Good V)} {C : D → Prop} (hT : B.tb V.T0) (h : ∀ B', Sc.le B B' → a.pre B' (fun x => oU V l x C) (deown ss) C) : (outcU V n l hn hk a).pre B X ss C := ⟨hT, h⟩
@[simp] theorem oU_eq {l : List Cu} {n : XN} {k : Ck} {c : Addr} {ns : List Str} {ds : List D} {C : D → Prop} : oU V ((n, k) :: l) ⟨c, ns, ds⟩ C = if c = V.cls n then k.out ⟨c, ns, ds⟩ C else oU V l ⟨c, ns, ds⟩ C := rfl
end XQ
/-! *xs as the last argument; instances made with it, also by cls(..); classmethods; methods without arguments -/
namespace SQ
open PySem PySem.Spec PyProof.Rows L2
section
variable {K : PySem.W.Frag} {Γ : Cxt} {H0 H H' : Hp} {τ ps qs : Ps} {ss : List Sl} {σ : L2.St} {e : En} {te tb : TE} {ta : TA} {Cl x dx : Addr} {fs : List (Str × V)} {m : Str}
theorem Env.piles : ∀ {ds : List D} {vs : List V}, Reps K (Out Γ ps) H ds vs → Env K Γ H0 H ps → Env K Γ H0 H (pile ds vs ++ ps)
  | [], vs, r, I => by
    have e : vs = [] := r
    subst e; exact I
  | d :: ds, vs, r, I => by
    obtain ⟨v, ws, rfl, a, b⟩ := r
    refine (Env.piles b I).push (a.less fun z h => h.imp id fun h => ?_)
    rw [owned_app, owned_pile] at h
    exact h
theorem wpA_star1 {C : List D → Prop} (h : wpE K Γ te ss fun d => ∃ xs, (d = .tup xs ∨ d = .lst xs) ∧ C xs) : wpA K Γ (StX.tStar K te tNil) ss C := fun H0 σ H τ hl I Q q =>
  h H0 σ H τ hl I _ fun v d H1 J c => by
    obtain ⟨xs, hd, c⟩ := c
    have rv := J.val List.mem_cons_self
    rcases hd with rfl | rfl
    · obtain ⟨a, vs, rfl, t, r⟩ := rv
      refine ⟨a, vs, rfl, .inl t, ?_⟩
      show Q (vs ++ []) H1
      rw [List.append_nil]
      exact q vs xs H1 r.length (Env.piles (r.less fun b z => z) J.drop) c
    · obtain ⟨a, vs, rfl, n, t, r⟩ := rv
      refine ⟨a, vs, rfl, .inr (.inl (.inl t)), ?_⟩
      show Q (vs ++ []) H1
      rw [List.append_nil]
      exact q vs xs H1 r.length (Env.piles (r.less fun b z => z) J.drop) c
/-- a class, by name, then what is done with it -/
def tVia (tc : TE) (C : Addr) (t : TE) : TE := fun σ H Q => tc σ H fun v H1 => v = .ref C ∧ t σ H1 Q
theorem wpE_via {C : Addr} {tc t : TE} {Cc : D → Prop} (h : wpE K Γ tc ss fun d => d = .cell C ∧ wpE K Γ t ss Cc) : wpE K Γ (tVia tc C t) ss Cc := fun H0 σ H τ hl I Q q =>
  h H0 σ H τ hl I _ fun v d H1 J c => by
    obtain ⟨e, c⟩ := c
    subst e
    exact ⟨J.val List.mem_cons_self, c H0 σ H1 τ hl J.drop Q q⟩
theorem wpE_cls {C : Addr} {Cc : D → Prop} (c : Cc (.cell C)) : wpE K Γ (tC (.ref C)) ss Cc := fun H0 σ H τ hl I Q q => q _ _ H (I.push (d := .cell C) rfl) c
theorem wpE_clmG {C : Addr} {X' : Exc → Prop} {E' : XK} {Cc : D → Prop} (hX : ∀ x, X' x → Γ.X x ∧ Γ.E = E') {F : Fn} (mono : ∀ B B' ds C X, Sc.le B B' → F B ds C X → F B' ds C X)
    (h : wpA K Γ ta ss fun ds => F (sc Γ) (.cell C :: ds) Cc X') : wpE K Γ (ClX.tCMeth C (spF K F) E' (tC (.ref C)) ta) ss Cc := fun H0 σ H τ hl I Q q => by
  refine ⟨rfl, h H0 σ H τ hl I _ fun vs ds H2 hd J2 hF => ?_⟩
  have J := J2.dropL
  refine ⟨{ Γ.sub (ss.zip σ ++ τ) H2 with X := X', E := E' }, .cell C :: ds, Cc, ⟨J.subOk.al, J.subOk.st⟩, J.subW, ⟨_, _, rfl, rfl, J2.piled hd⟩, mono _ _ _ _ _ (Sc.sub J) hF, fun v d H3 r w x c => q v d H3 ((J.back r w).push x) c, fun exc cls d H3 r w y z => ?_⟩
  have J4 := J.back r w
  rw [← (hX exc z).2]
  refine J4.thr exc cls d H3 J4.rel J4.w ?_ (hX exc z).1
  refine ⟨y.1, y.2.imp id ?_⟩
  rintro ⟨dd, fs, e1, e2, e3, e4⟩
  exact ⟨dd, fs, e1, e2, e3, e4.less fun a z => .inl z⟩
end
section
variable {X : Cx} {CX : CXT} {k j : Nat} {f C : Addr} {m x : Str} {sp : Sp} {o e : Expr} {es : List Expr} {t : TA} {ta tc te : TE} {apos p sp_ pos : Pos} {pl : Sem Bool}
theorem pe_viaS2 {E : XK} (hc : PE X (.Name x p) tc) (M : Mk X.K C f) (F : FnR X.prog X.w X.K X.mg X.base CX k f sp) (hr : Room (k + 1) X.A) (hx : Passes CX X E) (ha : PA X (e :: es) t)
    (he : starEach (e :: es) X.env = (false, eval e X.env) :: starEach es X.env) (hst : (backTo pos (starEach es X.env)).any (·.1) = true) : PE X (.Call (.Name x p) (e :: es) [] pos) (tVia tc C (StX.tMakeR C sp E t)) := by
  refine ⟨fun pins s σ H Q I h => ?_⟩
  refine wpAny_Call_Name_kw (thn (hc.run pins s σ H _ I h) fun u s1 ⟨v, H1, I1, rv, ev, q⟩ => ?_)
  subst ev
  obtain rfl : u = Value.ref C := rv
  refine PySem.W.callWith_S2 (h₀ := X.base) I.ok.mod.kin M.kp (thn (ha.run pos pins s1 σ H1 _ I1 q) fun us s2 ⟨vs, H2, I2, r, q2⟩ => ⟨I2.kIn, ?_⟩) he hst
  exact StX.run_makeR M F hr hx I2 r q2
theorem pe_vm2E {E : XK} {W : WX} {y : Str} (tk : Takes X W) (hW : ∀ cls d σ H, E cls d H → W cls d σ H) (c : MakX X.prog X.w X.K X.mg X.base k y C sp) (hr : Room j X.A) (hk : k + 1 ≤ j) (hc : PE X (.Name x p) tc) (ha : PA X (e :: es) t)
    (he : starEach (e :: es) X.env = (false, eval e X.env) :: starEach es X.env := by rfl) (hst : (backTo pos (starEach es X.env)).any (·.1) = true := by rfl) : PE X (.Call (.Name x p) (e :: es) [] pos) (tVia tc C (StX.tMakeR C sp E t)) := by
  obtain ⟨f, F, M, hm⟩ := c.ex
  exact pe_viaS2 hc M F (hr.mono hk) (passes_call tk hW) ha he hst
/-! methods without arguments -/
end
theorem cr_isiTK {X : Cx} {K : PySem.W.Frag} (h : X.K = K := by rfl) : CallR X (.builtin "isinstance") (rIsiT K) := by subst h; exact call_isiT
/-! classmethods -/
structure ClmX (P : Program) (w : World) (K : PySem.W.Frag) (mg : Str → Option Value) (base : Heap) (k : Nat) (C : Addr) (m : Str) (sp : Sp) : Prop where
  ex : ∃ (mc : Value) (p g : Addr), FnR P w K mg base (L2.CX P w) k g sp ∧ ClX.CRead K C mc ∧ ClX.CMet K C mc m p g
structure ClmF (K : PySem.W.Frag) (x qual : Str) (st : Stmt) (C : Addr) : Prop where
  ex : ∃ (mc : Value) (p g : Addr) (fd : FuncData), Fun K x qual st g fd ∧ ClX.CRead K C mc ∧ ClX.CMet K C mc x p g
section
variable {X : Cx} {k j : Nat} {C : Addr} {m : Str} {sp : Sp} {o e : Expr} {es : List Expr} {t : TA} {ta : TE} {apos pos : Pos} {pl : Sem Bool}
theorem pe_clmE {E : XK} {W : WX} (tk : Takes X W) (hW : ∀ cls d σ H, E cls d H → W cls d σ H) (c : ClmX X.prog X.w X.K X.mg X.base k C m sp) (hr : Room j X.A) (hk : k ≤ j) (he : PE X o (tC (.ref C))) (ha : PA X (e :: es) t)
    (hst : starEach (e :: es) X.env = (false, eval e X.env) :: starEach es X.env := by rfl) (hpl : (backTo pos (starEach es X.env)).any (·.1) = false := by rfl)
    (ht : eval (.Call (.Attribute o m apos) (e :: es) [] pos) X.env = (do
      let ov ← eval o X.env
      standAt apos.atName
      let (f, first) ← holding [ov] (getMethod ov m pl)
      callWith pos f first (backTo pos (starEach (e :: es) X.env)) (backToKw pos (keywordEach [] X.env))) := by rfl) :
    PE X (.Call (.Attribute o m apos) (e :: es) [] pos) (ClX.tCMeth C sp E (tC (.ref C)) t) := by
  obtain ⟨mc, p, g, F, r, M⟩ := c.ex
  exact ClX.pe_cmeth he r M F (hr.mono hk) (passes_call tk hW) ha hst hpl ht
end
section
variable {P : Program} {w : World} {K : PySem.W.Frag} {mg : Str → Option Value} {base : Heap} {x qual : Str} {st : Stmt} {C : Addr} {N ps : List Str} {k : Nat} {F : Fn}
theorem clm_of (Df : ClmF K x qual st C)
    (b : ∀ (kV doc pm : Value) (an : Option Addr) (cdv ct : Value) (us : List Value), us.length = ps.length → bindArgs (PySem.W.fnOf x qual (defArgs st) (defBody st) (defScope st) .none kV doc pm an cdv ct) ⟨us, []⟩ = pure (ps.zip us))
    (S : FnScope N ps (defScope st)) (len : ∀ B ds C X, F B ds C X → ds.length = ps.length)
    (body : ∀ (f : Addr) (cdv : Value) (A : Around) (outer : List PySem.Env) (s : Shared) (H : Hp) (E : XK), Room k (A.deeper (envOfC qual (defScope st) s.heap.objs.size f cdv)) →
      ∃ t, PSs (cxOf (L2.CX P w) P w K mg base N qual (defScope st) f cdv A outer s H E) (defBody st) t ∧ ∀ (Γ : Cxt) (ds : List D) (C : D → Prop), Γ.E = E → F (sc Γ) ds C Γ.X → wpS K Γ t (ss0 ds N.length) (en0 C)) : ClmX P w K mg base (k + 1) C x (spF K F) := by
  obtain ⟨mc, p, f, fd, Fd, r, M⟩ := Df.ex
  have F1 : FnOk P w K mg base (L2.CX P w) (k + 1) f fd ps (spF K F) := Fd.okX S (fun vs H Q E h => by
      obtain ⟨Γ, ds, C, _, _, r, h, _⟩ := h
      rw [← r.length, len _ _ _ _ h]) (fun cdv A outer s H vs Q E hr h => by
      obtain ⟨t, ht, hw⟩ := body f cdv A outer s H E hr
      exact ⟨t, ht, run_def h fun Γ ds C e f => hw Γ ds C e f⟩)
  have R := F1.raw (Fd.binds b) .nil
  exact ⟨mc, p, f, R.imp fun vs H Q E h => by rw [List.append_nil]; exact h, r, M⟩
theorem clmF {p g : Addr} {mc : Value} {oc kV doc pm cdv ct : Value} {od an : Option Addr} {osl : Array (Option Value)} {rest : List Value} (rd : PySem.W.readsIn K C mc = true) (ga : PySem.W.specialIn K (.ref C) "__getattribute__" = some (some (.builtin "type.__getattribute__")))
    (at_ : PySem.W.findCls K (.ref C) mc x = some (.get (.builtin "classmethod.__get__") (.ref p) .none (.ref C))) (rc : PySem.W.recIn K p "classmethod" = some (.ref g :: rest)) (fi : PySem.W.fnIn K g = true)
    (l : K.lookup g = some ⟨oc, od, .func (PySem.W.fnOf x qual (defArgs st) (defBody st) (defScope st) .none kV doc pm an cdv ct), osl⟩) (cd : PySem.W.codeIn K cdv qual = true) (kp : PySem.W.keepIn K (.ref g) = true) : ClmF K x qual st C :=
  ⟨mc, p, g, _, fun_mk l cd kp, ⟨rd, ga⟩, ⟨at_, ⟨rest, rc⟩, fi⟩⟩
end
end SQ
/-! classes by name, classmethods, star calls, isinstance of own classes, what is told of one of several classes -/
namespace XQ
open PySem PySem.Spec PyProof.Rows L2 SQ
section
variable {G : Fr → Prop}
def astar (a : XE G) : XA G where
  te K E := StX.tStar K (a.te K E) tNil
  pre B X ss C := a.pre B X ss fun d => ∃ xs, (d = .tup xs ∨ d = .lst xs) ∧ C xs
  ok g h := wpA_star1 (a.ok g h)
  mono l x c h := a.mono l x (fun d h => by obtain ⟨xs, e, h⟩ := h; exact ⟨xs, e, c _ h⟩) h
def clsR (Cl : Addr) : XE G := ⟨fun _ _ => tC (.ref Cl), fun _ _ _ C => C (.cell Cl), fun _ h => wpE_cls h, fun _ _ c h => c _ h⟩
/-- a class, as tc tells it, then m -/
def viaC (Cl : Addr) (tc m : XE G) : XE G where
  te K E := tVia (tc.te K E) Cl (m.te K E)
  pre B X ss C := tc.pre B X ss fun d => d = .cell Cl ∧ m.pre B X ss C
  ok g h := wpE_via ((tc.ok g h).mono fun d h => ⟨h.1, m.ok g h.2⟩)
  mono l x c h := tc.mono l x (fun d h => ⟨h.1, m.mono l x c h.2⟩) h
def clm0 (Cl : Addr) (f : XF) (a : XA G) : XE G where
  te K E := ClX.tCMeth Cl (spF K f.F) E0 (tC (.ref Cl)) (a.te K E)
  pre B X ss C := a.pre B X ss fun ds => f.F B (.cell Cl :: ds) C fun _ => False
  ok g h := wpE_clmG (X' := fun _ => False) (E' := E0) (fun _ z => z.elim) (fun B B' ds C X m h => f.mono m (fun _ h => h) (fun _ h => h) h) (a.ok g h)
  mono l x c h := a.mono l x (fun d h => f.mono l (fun _ h => h) c h) h
def clmE (Cl : Addr) (f : XF) (a : XA G) : XE G where
  te K E := ClX.tCMeth Cl (spF K f.F) E (tC (.ref Cl)) (a.te K E)
  pre B X ss C := a.pre B X ss fun ds => f.F B (.cell Cl :: ds) C X
  ok {K Γ ss C} g h := wpE_clmG (X' := Γ.X) (E' := Γ.E) (fun _ z => ⟨z, rfl⟩) (fun B B' ds C X m h => f.mono m (fun _ h => h) (fun _ h => h) h) (a.ok g h)
  mono l x c h := a.mono l x (fun d h => f.mono l x c h) h
def tAlt (a b : TE) : TE := fun σ H Q => a σ H Q ∨ b σ H Q
theorem pe_alt {X : Cx} {e : Expr} {a b : TE} (ha : PE X e a) (hb : PE X e b) : PE X e (tAlt a b) := ⟨fun pins s σ H Q I h => h.elim (ha.run pins s σ H Q I) (hb.run pins s σ H Q I)⟩
/-- the one or the other -/
def altE (a b : XE G) : XE G where
  te K E := tAlt (a.te K E) (b.te K E)
  pre B X ss C := a.pre B X ss C ∨ b.pre B X ss C
  ok g h := fun H0 σ H τ hl I Q q => h.elim (fun h => .inl (a.ok g h H0 σ H τ hl I Q q)) fun h => .inr (b.ok g h H0 σ H τ hl I Q q)
  mono l x c h := h.elim (fun h => .inl (a.mono l x c h)) fun h => .inr (b.mono l x c h)
section
variable {B : Sc} {X : XP} {ss : List Sl} {Cl : Addr}
@[simp] theorem astar_pre (a : XE G) {C : List D → Prop} : (astar a : XA G).pre B X ss C = (a.pre B X ss fun d => ∃ xs, (d = .tup xs ∨ d = .lst xs) ∧ C xs) := rfl
@[simp] theorem clsR_pre {C : D → Prop} : (clsR Cl : XE G).pre B X ss C = C (.cell Cl) := rfl
@[simp] theorem viaC_pre (tc m : XE G) {C : D → Prop} : (viaC Cl tc m : XE G).pre B X ss C = (tc.pre B X ss fun d => d = .cell Cl ∧ m.pre B X ss C) := rfl
@[simp] theorem clm0_pre (f : XF) (a : XA G) {C : D → Prop} : (clm0 Cl f a : XE G).pre B X ss C = (a.pre B X ss fun ds => f.F B (.cell Cl :: ds) C fun _ => False) := rfl
@[simp] theorem clmE_pre (f : XF) (a : XA G) {C : D → Prop} : (clmE Cl f a : XE G).pre B X ss C = (a.pre B X ss fun ds => f.F B (.cell Cl :: ds) C X) := rfl
@[simp] theorem altE_pre (a b : XE G) {C : D → Prop} : (altE a b : XE G).pre B X ss C = (a.pre B X ss C ∨ b.pre B X ss C) := rfl
end
end
/-! isinstance -/
variable {V : Ve}
/-- the class among some own ones, or a builtin type -/
def insP (V : Ve) (d : D) (p : Option XN → Prop) : Prop := match d with
  | .ins Cl _ _ => ∃ c, Cl = V.cls c ∧ c ∈ V.insts ∧ p (some c)
  | d => (tyName d).isSome = true ∧ p none
theorem tyName_in {d : D} (h : (tyName d).isSome = true) : ∃ n ∈ tyNames, tyName d = some n := by
  cases d <;> first | exact ⟨_, by simp [tyNames], rfl⟩ | cases h
theorem insP_ty {K : Fr} {S : Addr → Prop} {H : Hp} {d : D} {v : L2.V} {p : Option XN → Prop} (g : Good V K) (h : insP V d p) (r : Rep K S H d v) : ∃ (t : Value) (o : Option XN), TyX K H v t ∧ p o ∧ ∀ c ∈ V.insts, PySem.W.kitOne K t (.ref (V.cls c)) = some (decide (o = some c)) := by
  by_cases hi : ∃ Cl ns es, d = .ins Cl ns es
  · obtain ⟨Cl, ns, es, rfl⟩ := hi
    obtain ⟨c, rfl, hc, q⟩ := h
    obtain ⟨a, dx, fs, rfl, _, e, _⟩ := r
    have it := g.ins c hc
    refine ⟨_, some c, .base (.ins e it.cl it.ha it.hn it.htk it.hm), q, fun b hb => ?_⟩
    rw [g.kit c hc b hb]
    simp
  · have h2 : (tyName d).isSome = true ∧ p none := by
      cases d <;> first | exact h | exact absurd ⟨_, _, _, rfl⟩ hi
    obtain ⟨n, hn, e⟩ := tyName_in h2.1
    exact ⟨_, none, tyx_of e r, h2.2, fun b hb => by rw [g.kty b hb n hn]; rfl⟩
theorem insP_mono {d : D} {p q : Option XN → Prop} (m : ∀ o, p o → q o) (h : insP V d p) : insP V d q := by
  cases d <;> first | exact ⟨h.1, m _ h.2⟩ | (obtain ⟨c, e, hc, h⟩ := h; exact ⟨c, e, hc, m _ h⟩)
def isiC (c : XN) (a : XE (Good V)) : XE (Good V) where
  te K E := tCB (rIsi K) (tCons (a.te K E) (tCons (tC (.ref (V.cls c))) tNil))
  pre B X ss C := c ∈ V.insts ∧ a.pre B X ss fun d => insP V d fun o => C (.bl (decide (o = some c)))
  ok g h := wpE_cb (wpA_cons ((a.ok g h.2).mono fun d hd => wpA_cons (wpE_cls (wpA_nil fun S H vs lv r Q q => by
    obtain ⟨v, ws, rfl, r1, w, us, rfl, r2, r3⟩ := r
    have r2 : w = .ref _ := r2
    have r3 : us = [] := r3
    subst r2 r3
    obtain ⟨t, o, ty, hc, kt⟩ := insP_ty g hd r1
    exact ⟨v, _, t, _, _, rfl, .own _, ty, kt _ h.1, q _ (.bl _) H (SQ.Ext.refl H) rfl hc⟩))))
  mono l x c h := ⟨h.1, a.mono l x (fun d hd => insP_mono (fun o z => c _ z) hd) h.2⟩
def tClsL (V : Ve) : List XN → TA
  | [] => tNil
  | c :: r => tCons (tC (.ref (V.cls c))) (tClsL V r)
theorem tClsL_run {σ : L2.St} {H : Hp} : ∀ {cs : List XN} {P : List L2.V → Hp → Prop}, P (cs.map fun c => .ref (V.cls c)) H → tClsL V cs σ H P
  | [], P, h => h
  | c :: r, P, h => by
    show tClsL V r σ H fun vs H2 => P (.ref (V.cls c) :: vs) H2
    exact tClsL_run h
theorem kits {K : Fr} {t : Value} {o : Option XN} (h : ∀ c ∈ V.insts, PySem.W.kitOne K t (.ref (V.cls c)) = some (decide (o = some c))) : ∀ cs : List XN, (∀ c ∈ cs, c ∈ V.insts) → PySem.W.kitAny K t (cs.map fun c => .ref (V.cls c)) = some (decide (∃ c ∈ cs, o = some c))
  | [], _ => by simp [kitAny_nil]
  | c :: r, m => by
    have ih := kits h r fun c h => m c (List.mem_cons_of_mem _ h)
    refine kitAny_cons (h c (m c List.mem_cons_self)) (fun e => ?_) fun e => ?_
    · rw [ih]
      have e : ¬ o = some c := of_decide_eq_false e
      simp [e]
    · have e : o = some c := of_decide_eq_true e
      simp [e]
theorem paired_cls : ∀ cs : List XN, Paired ClsV (cs.map fun c => L2.V.ref (V.cls c)) (cs.map fun c => Value.ref (V.cls c))
  | [] => .nil
  | c :: r => .cons (.own _) (paired_cls r)
def isiCs (cs : List XN) (a : XE (Good V)) : XE (Good V) where
  te K E := tCB (rIsiT K) (tCons (a.te K E) (tCons (tTup (tClsL V cs)) tNil))
  pre B X ss C := ((∀ c ∈ cs, c ∈ V.insts) ∧ cs.length ≤ 1000) ∧ a.pre B X ss fun d => insP V d fun o => C (.bl (decide (∃ c ∈ cs, o = some c)))
  ok g h := fun H0 σ H τ hl I Q q => a.ok g h.2 H0 σ H τ hl I _ fun v d H1 J hd => by
    show tTup (tClsL V cs) σ H1 fun x H2 => rIsiT _ [v, x] H2 Q
    refine tClsL_run ⟨by simp; exact Nat.le_trans h.1.2 (by decide), fun p hp => ?_⟩
    have ex : SQ.Ext H1 (upd H1 p (.tup (cs.map fun c => L2.V.ref (V.cls c)))) := SQ.Ext.new hp
    have J2 := J.ext ex
    obtain ⟨t, o, ty, hc, kt⟩ := insP_ty g hd (J2.val List.mem_cons_self)
    refine ⟨v, p, _, t, _, _, rfl, upd_same, paired_cls cs, ty, kits kt cs h.1.1, ?_⟩
    exact q _ (.bl _) _ (J2.drop.push rfl) hc
  mono l x c h := ⟨h.1, a.mono l x (fun d hd => insP_mono (fun o z => c _ z) hd) h.2⟩
section
variable {B : Sc} {X : XP} {ss : List Sl} {C : D → Prop}
@[simp] theorem isiC_pre (c : XN) (a : XE (Good V)) : (isiC c a).pre B X ss C = (c ∈ V.insts ∧ a.pre B X ss fun d => insP V d fun o => C (.bl (decide (o = some c)))) := rfl
@[simp] theorem isiCs_pre (cs : List XN) (a : XE (Good V)) : (isiCs cs a).pre B X ss C = (((∀ c ∈ cs, c ∈ V.insts) ∧ cs.length ≤ 1000) ∧ a.pre B X ss fun d => insP V d fun o => C (.bl (decide (∃ c ∈ cs, o = some c)))) := rfl
@[simp] theorem insP_ins {c : XN} {ns : List Str} {es : List D} {p : Option XN → Prop} : insP V (.ins (V.cls c) ns es) p = (c ∈ V.insts ∧ p (some c)) := by
  apply propext
  constructor
  · rintro ⟨c', e, h, q⟩
    have : c = c' := V.inj _ _ e
    subst this
    exact ⟨h, q⟩
  · rintro ⟨h, q⟩
    exact ⟨c, rfl, h, q⟩
@[simp] theorem insP_non {p : Option XN → Prop} : insP V .non p = p none := by simp [insP, tyName]
@[simp] theorem insP_bl {b : Bool} {p : Option XN → Prop} : insP V (.bl b) p = p none := by simp [insP, tyName]
@[simp] theorem insP_int {b : Int} {p : Option XN → Prop} : insP V (.int b) p = p none := by simp [insP, tyName]
@[simp] theorem insP_str {b : Str} {p : Option XN → Prop} : insP V (.str b) p = p none := by simp [insP, tyName]
@[simp] theorem insP_tup {b : List D} {p : Option XN → Prop} : insP V (.tup b) p = p none := by simp [insP, tyName]
@[simp] theorem insP_lst {b : List D} {p : Option XN → Prop} : insP V (.lst b) p = p none := by simp [insP, tyName]
@[simp] theorem insP_dk {ks : List Key} {b : List D} {p : Option XN → Prop} : insP V (.dk ks b) p = p none := by simp [insP, tyName]
end
end XQ
/-! drawn results: a list of lists; what is promised of it -/
namespace XD
open PySem PySem.Spec PyProof.Rows L2 SQ XQ
def anyP (B : Sc) (ds : List D) (C : D → Prop) : Prop := ∃ (p : Addr) (n : Int), ds = [.cell p, .int n] ∧ (B p ∧ 0 ≤ n ∧ n ≤ 50) ∧ ∀ xss : List (List Int), (xss.length : Int) = n → (∀ xs ∈ xss, xs.length ≤ 2500) → C (.lst (xss.map fun xs => .lst (xs.map .int)))
/-- a list of ints, so long at most -/
def OkZ (L : Nat) (xs : List D) : Prop := xs.length ≤ L ∧ ∃ ns : List Int, xs = ns.map D.int
theorem OkZ.app {L : Nat} {xs : List D} (h : OkZ L xs) (n : Int) : OkZ (L + 1) (xs ++ [.int n]) := by
  obtain ⟨h1, ns, rfl⟩ := h
  exact ⟨by simp at h1 ⊢; omega, ns ++ [n], by simp⟩
theorem OkZ.up {L M : Nat} {xs : List D} (h : OkZ L xs) (m : L ≤ M) : OkZ M xs := ⟨Nat.le_trans h.1 m, h.2⟩
end XD
namespace XD
open PySem PySem.Spec PyProof.Rows L2 SQ XQ
def X_is_whole (V : Ve) : XS (Good V) :=
  (ret (andV (cb bisi (acons (var 0) (acons (ty "int") anil))) (notV (cb bisi (acons (var 0) (acons (ty "bool") anil))))))
def F_is_whole (V : Ve) : XF := xf 1 1 (X_is_whole V)
def X_is_entry (V : Ve) : XS (Good V) :=
  (ret (andV (call0 (F_is_whole V) (acons (var 0) anil)) (chain rle rlt (int 0) (var 0) (op rpow (int 10) (int 30)))))
def F_is_entry (V : Ve) : XF := xf 1 1 (X_is_entry V)
def X_is_row (V : Ve) : XS (Good V) :=
  (seq (ifS (orT (notT (tB' (cb bisi (acons (var 0) (acons (ty "tuple") anil))))) (notT (test (chain rle rle (int 1) (cb blen (acons (var 0) anil)) (int 64))))) (ret (bl false)) skip)
      (ret (cb ball (acons (frz (lc (iseq (var 0)) (gname 1) yes (call0 (F_is_entry V) (acons (var 1) anil)))) anil))))
def F_is_row (V : Ve) : XF := xf 1 2 (X_is_row V)
def X_check_row (V : Ve) : XS (Good V) :=
  (ifS (notT (tB' (call0 (F_is_row V) (acons (var 0) anil)))) (raise0 (V.cls .sums)) skip)
def F_check_row (V : Ve) : XF := xf 1 1 (X_check_row V)
def X_check_rows (V : Ve) : XS (Good V) :=
  (seq (drop (callE (F_check_row V) (acons (var 0) anil)))
      (drop (callE (F_check_row V) (acons (var 1) anil))))
def F_check_rows (V : Ve) : XF := xf 2 2 (X_check_rows V)
def X_have_equal_measures (V : Ve) : XS (Good V) :=
  (ret (andV (op req (cb blen (acons (var 0) anil)) (cb blen (acons (var 1) anil))) (op req (cb bsum (acons (var 0) anil)) (cb bsum (acons (var 1) anil)))))
def F_have_equal_measures (V : Ve) : XF := xf 2 2 (X_have_equal_measures V)
def X_descending (V : Ve) : XS (Good V) :=
  (ret (cb btup (acons (frz (srtR (acons (var 0) anil))) anil)))
def F_descending (V : Ve) : XF := xf 1 1 (X_descending V)
def X_sums_so_far_L1 (V : Ve) : XS (Good V) :=
  (seq (aug 2 (fun i j => i + j) (var 3))
      (app 1 (var 2)))
def X_sums_so_far (V : Ve) : XS (Good V) :=
  (seq (setO 1 (lst anil))
      (seq (set 2 (int 0))
      (seq (xfor (iseq (var 0)) (gname 3) (X_sums_so_far_L1 V))
      (freeze 1 (ret (cb btup (acons (var 1) anil)))))))
def F_sums_so_far (V : Ve) : XF := xf 1 4 (X_sums_so_far V)
def X_prefix_sums (V : Ve) : XS (Good V) :=
  (seq (drop (callE (F_check_row V) (acons (var 0) anil)))
      (ret (call0 (F_sums_so_far V) (acons (call0 (F_descending V) (acons (var 0) anil)) anil))))
def F_prefix_sums (V : Ve) : XF := xf 1 1 (X_prefix_sums V)
def X__first_bar_L1 (V : Ve) : XS (Good V) :=
  (ifS (test (op rgt (var 3) (var 4))) (ret (op radd (var 2) (int 1))) skip)
def X__first_bar (V : Ve) : XS (Good V) :=
  (seq (xfor (ienumZ (acons (callE (F_prefix_sums V) (acons (var 0) anil)) (acons (callE (F_prefix_sums V) (acons (var 1) anil)) anil))) (gtup 2 (gcons (gname 2) (gcons (gpair 3 4) gnil))) (X__first_bar_L1 V))
      (ret non))
def F__first_bar (V : Ve) : XF := xf 2 5 (X__first_bar V)
def X_is_under (V : Ve) : XS (Good V) :=
  (seq (drop (callE (F_check_rows V) (acons (var 0) (acons (var 1) anil))))
      (ret (andV (call0 (F_have_equal_measures V) (acons (var 0) (acons (var 1) anil))) (isN (callE (F__first_bar V) (acons (var 0) (acons (var 1) anil)))))))
def F_is_under (V : Ve) : XF := xf 2 2 (X_is_under V)
def X_is_within (V : Ve) : XS (Good V) :=
  (ret (andV (call0 (F_is_whole V) (acons (var 0) anil)) (chain rle rle (var 1) (var 0) (var 2))))
def F_is_within (V : Ve) : XF := xf 3 3 (X_is_within V)
end XD
namespace XD
open PySem PySem.Spec PyProof.Rows L2 SQ XQ
def X_check_within (V : Ve) : XS (Good V) :=
  (ifS (notT (tB' (call0 (F_is_within V) (acons (var 0) (acons (var 1) (acons (var 2) anil)))))) (raise1 (V.cls .number) "value" (acons (var 0) anil)) skip)
def F_check_within (V : Ve) : XF := xf 3 3 (X_check_within V)
def X_level (V : Ve) : XS (Good V) :=
  (ret (cb btup (acons (frz (lc (iseq (var 0)) (gname 3) yes (cb bmin (acons (var 2) (acons (cb bmax (acons (int 0) (acons (op rsub (var 3) (op rmul (var 2) (var 1))) anil))) anil))))) anil)))
def F_level (V : Ve) : XF := xf 3 4 (X_level V)
def X_levels (V : Ve) : XS (Good V) :=
  (ret (cb btup (acons (frz (lc (irng1 (acons (var 1) anil)) (gname 3) yes (cb bsum (acons (call0 (F_level V) (acons (var 0) (acons (var 3) (acons (var 2) anil)))) anil)))) anil)))
def F_levels (V : Ve) : XF := xf 3 4 (X_levels V)
def X_turned (V : Ve) : XS (Good V) :=
  (seq (drop (callE (F_check_row V) (acons (var 0) anil)))
      (seq (drop (callE (F_check_within V) (acons (var 1) (acons (int 1) (acons (int 64) anil)))))
      (seq (drop (callE (F_check_within V) (acons (var 2) (acons (int 1) (acons (op rsub (op rpow (int 10) (int 30)) (int 1)) anil)))))
      (seq (ifS (test (op rgt (cb bmax (acons (var 0) anil)) (op rmul (var 2) (var 1)))) (raise0 (V.cls .operation)) skip)
      (ret (call0 (F_levels V) (acons (var 0) (acons (var 1) (acons (var 2) anil)))))))))
def F_turned (V : Ve) : XF := xf 3 3 (X_turned V)
end XD
namespace XD
open PySem PySem.Spec PyProof.Rows L2 SQ XQ
def X_is_arranged_alike (V : Ve) : XS (Good V) :=
  (seq (drop (callE (F_check_rows V) (acons (var 0) (acons (var 1) anil))))
      (seq (ifS (test (op rne (cb blen (acons (var 0) anil)) (cb blen (acons (var 1) anil)))) (ret (bl false)) skip)
      (seq (set 2 (frz (lc (iseq (cb bsrt (acons (frz (lstZ (acons (var 0) (acons (var 1) anil)))) anil))) (gpair 3 4) yes (var 4))))
      (ret (cb ball (acons (frz (lc (izip (acons (var 2) (acons (slc (var 2) (psome (int 1)) pno) anil))) (gpair 4 5) yes (op rle (var 4) (var 5)))) anil))))))
def F_is_arranged_alike (V : Ve) : XF := xf 2 6 (X_is_arranged_alike V)
def X_places_by_entry (V : Ve) : XS (Good V) :=
  (ret (frz (lc (iseq (cb bsrt (acons (frz (lc (ienumT (acons (var 0) anil)) (gpair 3 4) yes (tup (acons (neg (var 4)) (acons (var 3) anil))))) anil))) (gpair 1 2) yes (var 2))))
def F_places_by_entry (V : Ve) : XF := xf 1 5 (X_places_by_entry V)
end XD
namespace XD
open PySem PySem.Spec PyProof.Rows L2 SQ XQ
def X_greatest_places (V : Ve) : XS (Good V) :=
  (ret (cb btup (acons (cb bsrt (acons (slc (call0 (F_places_by_entry V) (acons (var 0) anil)) pno (psome (var 1))) anil)) anil)))
def F_greatest_places (V : Ve) : XF := xf 2 2 (X_greatest_places V)
end XD
namespace XD
open PySem PySem.Spec PyProof.Rows L2 SQ XQ
def X_is_ascending (V : Ve) : XS (Good V) :=
  (seq (ifS (orT (notT (tB' (cb bisi (acons (var 0) (acons (ty "tuple") anil))))) (notT (tB' (cb ball (acons (frz (lc (iseq (var 0)) (gname 2) yes (call0 (F_is_within V) (acons (var 2) (acons (int 0) (acons (op rsub (var 1) (int 1)) anil)))))) anil))))) (ret (bl false)) skip)
      (ret (cb ball (acons (frz (lc (izip (acons (var 0) (acons (slc (var 0) (psome (int 1)) pno) anil))) (gpair 2 3) yes (op rlt (var 2) (var 3)))) anil))))
def F_is_ascending (V : Ve) : XF := xf 2 4 (X_is_ascending V)
def X_Tournament_scores (V : Ve) : XS (Good V) :=
  (ret (cb btup (acons (frz (lc (iseq (fld (V.cls .cTour) "_beaten" (var 0))) (gname 1) yes (cb blen (acons (var 1) anil)))) anil)))
def F_Tournament_scores (V : Ve) : XF := xf 1 2 (X_Tournament_scores V)
end XD
namespace XD
open PySem PySem.Spec PyProof.Rows L2 SQ XQ
end XD
namespace XD
open PySem PySem.Spec PyProof.Rows L2 SQ XQ
end XD
namespace XD
open PySem PySem.Spec PyProof.Rows L2 SQ XQ
def X_greatest_row (V : Ve) : XS (Good V) :=
  (seq (drop (callE (F_check_within V) (acons (var 0) (acons (int 1) (acons (int 9) anil)))))
      (seq (drop (callE (F_check_row V) (acons (var 1) anil)))
      (seq (drop (callE (F_check_within V) (acons (var 2) (acons (int 1) (acons (int 64) anil)))))
      (ret (call0 (F_levels V) (acons (var 1) (acons (var 2) (acons (var 0) anil))))))))
def F_greatest_row (V : Ve) : XF := xf 3 3 (X_greatest_row V)
def X__are_table (V : Ve) : XS (Good V) :=
  (seq (ifS (orT (notT (tB' (call0 (F_is_within V) (acons (var 0) (acons (int 1) (acons (int 9) anil)))))) (notT (test (chain rle rle (int 1) (cb blen (acons (var 1) anil)) (int 12))))) (ret (bl false)) skip)
      (seq (ifS (notT (tB' (cb ball (acons (frz (lc (iseq (var 1)) (gname 2) yes (andV (cb bisi (acons (var 2) (acons (ty "tuple") anil))) (chain rle rle (int 1) (cb blen (acons (var 2) anil)) (int 12))))) anil)))) (ret (bl false)) skip)
      (seq (ifS (notT (tB' (cb ball (acons (frz (lc (iseq (var 1)) (gname 2) yes (op req (cb blen (acons (var 2) anil)) (cb blen (acons (op rix (var 1) (int 0)) anil))))) anil)))) (ret (bl false)) skip)
      (ret (cb ball (acons (frz (lc2 (iseq (var 1)) (gname 2) yes (iseq (var 2)) (gname 3) yes (call0 (F_is_within V) (acons (var 3) (acons (int 0) (acons (var 0) anil)))))) anil))))))
def F__are_table (V : Ve) : XF := xf 2 4 (X__are_table V)
def X_Table___init__ (V : Ve) : XInit (Good V) (V.cls .cTable) :=
  (nseq (ifS (notT (tB' (call0 (F__are_table V) (acons (var 1) (acons (var 2) anil))))) (raise0 (V.cls .table)) skip)
      (nset "_cap" (var 1)
      (nlast "_lines" (var 2))))
def F_Table___init__ (V : Ve) : XF := xstar 1 (xi 2 3 (X_Table___init__ V))
def X_Table_of (V : Ve) : XS (Good V) :=
  (seq (ifS (notT (tB' (cb bisi (acons (var 2) (acons (ty "tuple") anil))))) (raise0 (V.cls .table)) skip)
      (ret (viaC (V.cls .cTable) (var 0) (mkE (V.cls .cTable) (F_Table___init__ V) (acons (var 1) (astar (var 2)))))))
def F_Table_of (V : Ve) : XF := xf 3 3 (X_Table_of V)
def X_filled_table_2 (V : Ve) : XS (Good V) :=
  (seq (drop (callE (F_check_within V) (acons (var 0) (acons (int 1) (acons (int 9) anil)))))
      (seq (drop (callE (F_check_row V) (acons (var 1) anil)))
      (seq (ifS (test (op rgt (cb blen (acons (var 1) anil)) (int 12))) (raise0 (V.cls .sums)) skip)
      (seq (drop (callE (F_check_within V) (acons (var 2) (acons (int 1) (acons (int 12) anil)))))
      (seq (ifS (test (op rgt (cb bmax (acons (var 1) anil)) (op rmul (var 0) (var 2)))) (raise0 (V.cls .operation)) skip)
      (ret (clmE (V.cls .cTable) (F_Table_of V) (acons (var 0) (acons (cb btup (acons (frz (lc (irng1 (acons (var 2) anil)) (gname 3) yes (call0 (F_level V) (acons (var 1) (acons (var 3) (acons (var 0) anil)))))) anil)) anil)))))))))
def F_filled_table_2 (V : Ve) : XF := xf 3 4 (X_filled_table_2 V)
def cl__law_met : List Cu := [(.sums, .txt "sums"), (.table, .txt "table"), (.web, .txt "web"), (.tournament, .txt "tournament"), (.operation, .txt "operation"), (.number, .rep "value" "number ")]
theorem hcl__law_met : ∀ c ∈ cl__law_met, named c.2 = true → 1 < 2 := by simp [cl__law_met, named]
def X_room (V : Ve) : XS (Good V) :=
  (ret (cb bsum (acons (frz (lc (iseq (var 2)) (gname 3) yes (cb bmin (acons (op rmul (var 0) (var 1)) (acons (var 3) anil))))) anil)))
def F_room (V : Ve) : XF := xf 3 4 (X_room V)
def X__fewest_barring_L1 (V : Ve) : XS (Good V) :=
  (ifS (test (op rgt (var 4) (call0 (F_room V) (acons (var 0) (acons (op radd (var 3) (int 1)) (acons (var 2) anil)))))) (ret (op radd (var 3) (int 1))) skip)
def X__fewest_barring (V : Ve) : XS (Good V) :=
  (seq (xfor (ienumT (acons (callE (F_prefix_sums V) (acons (var 1) anil)) anil)) (gpair 3 4) (X__fewest_barring_L1 V))
      (ret non))
def F__fewest_barring (V : Ve) : XF := xf 3 5 (X__fewest_barring V)
def X_has_table (V : Ve) : XS (Good V) :=
  (seq (drop (callE (F_check_within V) (acons (var 0) (acons (int 1) (acons (int 9) anil)))))
      (seq (drop (callE (F_check_rows V) (acons (var 1) (acons (var 2) anil))))
      (ret (andV (isN (callE (F__fewest_barring V) (acons (var 0) (acons (var 1) (acons (var 2) anil))))) (isN (callE (F__fewest_barring V) (acons (var 0) (acons (var 2) (acons (var 1) anil)))))))))
def F_has_table (V : Ve) : XF := xf 3 3 (X_has_table V)
def X__dealt_L1 (V : Ve) : XS (Good V) :=
  (seq (set 7 (cb bmin (acons (var 6) (acons (ixOwn 4 (var 3)) anil))))
      (seq (app 2 (tup (acons (var 5) (acons (op rix (op rix (var 1) (var 3)) (int 0)) (acons (var 7) anil)))))
      (seq (aug 6 (fun i j => i - j) (var 7))
      (seq (augO 4 (fun i j => i - j) (var 7) (var 3))
      (ifS (test (op req (ixOwn 4 (var 3)) (int 0))) (aug 3 (fun i j => i + j) (int 1)) skip)))))
def X__dealt_L2 (V : Ve) : XS (Good V) :=
  (xwhile (test (op rgt (var 6) (int 0))) (X__dealt_L1 V))
def X__dealt (V : Ve) : XS (Good V) :=
  (seq (setO 2 (lst anil))
      (seq (set 3 (int 0))
      (seq (setO 4 (lc (iseq (var 1)) (gpair 8 7) yes (var 7)))
      (seq (xfor (iseq (var 0)) (gpair 5 6) (X__dealt_L2 V))
      (freeze 2 (freeze 4 (ret (cb btup (acons (var 2) anil)))))))))
def F__dealt (V : Ve) : XF := xf 2 9 (X__dealt V)
def X_road (V : Ve) : XS (Good V) :=
  (seq (drop (callE (F_check_rows V) (acons (var 0) (acons (var 1) anil))))
      (seq (ifS (orT (notT (tB' (callE (F_is_arranged_alike V) (acons (var 0) (acons (var 1) anil))))) (notT (tB' (callE (F_is_under V) (acons (var 1) (acons (var 0) anil)))))) (raise0 (V.cls .operation)) skip)
      (seq (set 2 (call0 (F_places_by_entry V) (acons (var 0) anil)))
      (seq (set 3 (frz (lc (iseq (var 2)) (gname 5) (test (op rgt (op rix (var 0) (var 5)) (op rix (var 1) (var 5)))) (tup (acons (var 5) (acons (op rsub (op rix (var 0) (var 5)) (op rix (var 1) (var 5))) anil))))))
      (seq (set 4 (frz (lc (iseq (var 2)) (gname 5) (test (op rlt (op rix (var 0) (var 5)) (op rix (var 1) (var 5)))) (tup (acons (var 5) (acons (op rsub (op rix (var 1) (var 5)) (op rix (var 0) (var 5))) anil))))))
      (ret (call0 (F__dealt V) (acons (var 3) (acons (var 4) anil)))))))))
def F_road (V : Ve) : XF := xf 2 6 (X_road V)
def X__is_short_row (V : Ve) : XS (Good V) :=
  (ret (andV (call0 (F_is_row V) (acons (var 0) anil)) (op rle (cb blen (acons (var 0) anil)) (var 1))))
def F__is_short_row (V : Ve) : XF := xf 2 2 (X__is_short_row V)
def X__are_lines_sums (V : Ve) : XS (Good V) :=
  (ret (andV (call0 (F__is_short_row V) (acons (var 0) (acons (int 12) anil))) (call0 (F__is_short_row V) (acons (var 1) (acons (int 12) anil)))))
def F__are_lines_sums (V : Ve) : XF := xf 2 2 (X__are_lines_sums V)
def X_is_sums (V : Ve) : XS (Good V) :=
  (seq (ifS (orT (notT (tB' (cb bisi (acons (var 0) (acons (ty "tuple") anil))))) (test (op req (cb blen (acons (var 0) anil)) (int 0)))) (ret (bl false)) skip)
      (seq (ifS (test (op req (op rix (var 0) (int 0)) (str "table"))) (ret (andV (op req (cb blen (acons (var 0) anil)) (int 4)) (andV (call0 (F_is_within V) (acons (op rix (var 0) (int 1)) (acons (int 1) (acons (int 9) anil)))) (call0 (F__are_lines_sums V) (acons (op rix (var 0) (int 2)) (acons (op rix (var 0) (int 3)) anil)))))) skip)
      (ret (andV (op (rinA false) (op rix (var 0) (int 0)) (tup (acons (str "web") (acons (str "tournament") anil)))) (andV (op req (cb blen (acons (var 0) anil)) (int 2)) (call0 (F__is_short_row V) (acons (op rix (var 0) (int 1)) (acons (int 16) anil))))))))
def F_is_sums (V : Ve) : XF := xf 1 1 (X_is_sums V)
def X_check_table_sums (V : Ve) : XS (Good V) :=
  (ifS (orT (notT (tB' (call0 (F_is_sums V) (acons (var 0) anil)))) (test (op rne (op rix (var 0) (int 0)) (str "table")))) (raise0 (V.cls .sums)) skip)
def F_check_table_sums (V : Ve) : XF := xf 1 1 (X_check_table_sums V)
def X__with_units_carried_L1 (V : Ve) : XS (Good V) :=
  (seq (set 7 (cb bmin (acons (var 2) (acons (cb bmax (acons (int 0) (acons (op rsub (var 5) (var 6)) anil))) anil))))
      (seq (app 3 (op rsub (var 5) (var 7)))
      (seq (app 4 (op radd (var 6) (var 7)))
      (aug 2 (fun i j => i - j) (var 7)))))
def X__with_units_carried (V : Ve) : XS (Good V) :=
  (seq (parOO 3 4 (lst anil) (lst anil))
      (seq (xfor (izip (acons (var 0) (acons (var 1) anil))) (gpair 5 6) (X__with_units_carried_L1 V))
      (freeze 3 (freeze 4 (ret (tup (acons (cb btup (acons (var 3) anil)) (acons (cb btup (acons (var 4) anil)) anil))))))))
def F__with_units_carried (V : Ve) : XF := xf 3 8 (X__with_units_carried V)
def X_made_table_2_nk24_L1 (V : Ve) : XS (Good V) :=
  (put 5 (call0 (F_level V) (acons (var 4) (acons (var 6) (acons (var 2) anil)))) (var 7))
def X_made_table_2_nk24_L2 (V : Ve) : XS (Good V) :=
  nope
def X_made_table_2_nk24 (V : Ve) : XS (Good V) :=
  (seq (drop (callE (F_check_table_sums V) (acons (var 0) anil)))
      (seq (asg (var 0) (gtup 4 (gcons (gname 1) (gcons (gname 2) (gcons (gname 3) (gcons (gname 4) gnil))))))
      (seq (ifS (notT (tB' (callE (F_has_table V) (acons (var 2) (acons (var 3) (acons (var 4) anil)))))) (ret non) skip)
      (seq (setO 5 (opO rmulO (frz (lst (acons (tup anil) anil))) (cb blen (acons (var 3) anil))))
      (seq (xfor (ienumL (acons (call0 (F_places_by_entry V) (acons (var 3) anil)) anil)) (gpair 6 7) (X_made_table_2_nk24_L1 V))
      (freeze 5 (seq (set 8 (callE (F_road V) (acons (cb btup (acons (frz (lc (iseq (var 5)) (gname 12) yes (cb bsum (acons (var 12) anil)))) anil)) (acons (var 3) anil))))
      (seq (xfor (iseq (var 8)) (gtup 3 (gcons (gname 9) (gcons (gname 10) (gcons (gname 11) gnil)))) (X_made_table_2_nk24_L2 V))
      (ret (clmE (V.cls .cTable) (F_Table_of V) (acons (var 2) (acons (cb btup (acons (var 5) anil)) anil))))))))))))
def F_made_table_2_nk24 (V : Ve) : XF := xf 1 13 (X_made_table_2_nk24 V)
def X_table_paper_2_nk24 (V : Ve) : XS (Good V) :=
  (seq (drop (callE (F_check_table_sums V) (acons (var 0) anil)))
      (seq (asg (var 0) (gtup 4 (gcons (gname 1) (gcons (gname 2) (gcons (gname 3) (gcons (gname 4) gnil))))))
      (seq (set 5 (callE (F__fewest_barring V) (acons (var 2) (acons (var 3) (acons (var 4) anil)))))
      (seq (ifS (tB' (notN (var 5))) (ret (tup (acons (str "lines") (acons (call0 (F_greatest_places V) (acons (var 3) (acons (var 5) anil))) anil)))) skip)
      (seq (set 5 (callE (F__fewest_barring V) (acons (var 2) (acons (var 4) (acons (var 3) anil)))))
      (seq (ifS (tB' (notN (var 5))) (ret (tup (acons (str "columns") (acons (call0 (F_greatest_places V) (acons (var 4) (acons (var 5) anil))) anil)))) skip)
      (ret (tup (acons (str "made") (acons (callE (F_made_table_2_nk24 V) (acons (var 0) anil)) anil))))))))))
def F_table_paper_2_nk24 (V : Ve) : XF := xf 1 6 (X_table_paper_2_nk24 V)
def X_Table_line_sums (V : Ve) : XS (Good V) :=
  (ret (cb btup (acons (frz (lc (iseq (fld (V.cls .cTable) "_lines" (var 0))) (gname 1) yes (cb bsum (acons (var 1) anil)))) anil)))
def F_Table_line_sums (V : Ve) : XF := xf 1 2 (X_Table_line_sums V)
def X_Table_column_sums (V : Ve) : XS (Good V) :=
  (ret (cb btup (acons (frz (lc (izipS (fld (V.cls .cTable) "_lines" (var 0))) (gname 1) yes (cb bsum (acons (var 1) anil)))) anil)))
def F_Table_column_sums (V : Ve) : XF := xf 1 2 (X_Table_column_sums V)
def X_Table_sums (V : Ve) : XS (Good V) :=
  (ret (tup (acons (str "table") (acons (fld (V.cls .cTable) "_cap" (var 0)) (acons (prp (V.cls .cTable) (F_Table_line_sums V) (var 0)) (acons (prp (V.cls .cTable) (F_Table_column_sums V) (var 0)) anil))))))
def F_Table_sums (V : Ve) : XF := xf 1 1 (X_Table_sums V)
def X_Web_degrees_L1 (V : Ve) : XS (Good V) :=
  (seq (augO 1 (fun i j => i + j) (int 1) (var 2))
      (augO 1 (fun i j => i + j) (int 1) (var 3)))
def X_Web_degrees (V : Ve) : XS (Good V) :=
  (seq (setO 1 (opO rmulO (frz (lst (acons (int 0) anil))) (fld (V.cls .cWeb) "_places" (var 0))))
      (seq (xfor (iseq (fld (V.cls .cWeb) "_ties" (var 0))) (gpair 2 3) (X_Web_degrees_L1 V))
      (freeze 1 (ret (cb btup (acons (var 1) anil))))))
def F_Web_degrees (V : Ve) : XF := xf 1 4 (X_Web_degrees V)
def X_Web_sums (V : Ve) : XS (Good V) :=
  (ret (tup (acons (str "web") (acons (prp (V.cls .cWeb) (F_Web_degrees V) (var 0)) anil))))
def F_Web_sums (V : Ve) : XF := xf 1 1 (X_Web_sums V)
def X_Tournament_sums (V : Ve) : XS (Good V) :=
  (ret (tup (acons (str "tournament") (acons (prp (V.cls .cTour) (F_Tournament_scores V) (var 0)) anil))))
def F_Tournament_sums (V : Ve) : XF := xf 1 1 (X_Tournament_sums V)
def X_is_any_thing (V : Ve) : XS (Good V) :=
  (ret (isiCs [.cTable, .cWeb, .cTour] (var 0)))
def F_is_any_thing (V : Ve) : XF := xf 1 1 (X_is_any_thing V)
def X_is_thing_2 (V : Ve) : XS (Good V) :=
  (seq (ifS (notT (tB' (call0 (F_is_sums V) (acons (var 0) anil)))) (raise0 (V.cls .sums)) skip)
      (ret (andV (call0 (F_is_any_thing V) (acons (var 1) anil)) (op req (altE (prp (V.cls .cTable) (F_Table_sums V) (var 1)) (altE (prp (V.cls .cWeb) (F_Web_sums V) (var 1)) (prp (V.cls .cTour) (F_Tournament_sums V) (var 1)))) (var 0)))))
def F_is_thing_2 (V : Ve) : XF := xf 2 2 (X_is_thing_2 V)
def X__is_barring (V : Ve) : XS (Good V) :=
  (seq (ifS (notT (tB' (call0 (F_is_ascending V) (acons (var 3) (acons (cb blen (acons (var 1) anil)) anil))))) (ret (bl false)) skip)
      (ret (op rgt (cb bsum (acons (frz (lc (iseq (var 3)) (gname 4) yes (op rix (var 1) (var 4)))) anil)) (call0 (F_room V) (acons (var 0) (acons (cb blen (acons (var 3) anil)) (acons (var 2) anil)))))))
def F__is_barring (V : Ve) : XF := xf 4 5 (X__is_barring V)
def X_is_table_paper_2 (V : Ve) : XS (Good V) :=
  (seq (drop (callE (F_check_table_sums V) (acons (var 0) anil)))
      (seq (ifS (orT (notT (tB' (cb bisi (acons (var 1) (acons (ty "tuple") anil))))) (test (op rne (cb blen (acons (var 1) anil)) (int 2)))) (ret (bl false)) skip)
      (seq (asg (var 0) (gtup 4 (gcons (gname 2) (gcons (gname 3) (gcons (gname 4) (gcons (gname 5) gnil))))))
      (seq (ifS (test (op req (op rix (var 1) (int 0)) (str "lines"))) (ret (call0 (F__is_barring V) (acons (var 3) (acons (var 4) (acons (var 5) (acons (op rix (var 1) (int 1)) anil)))))) skip)
      (seq (ifS (test (op req (op rix (var 1) (int 0)) (str "columns"))) (ret (call0 (F__is_barring V) (acons (var 3) (acons (var 5) (acons (var 4) (acons (op rix (var 1) (int 1)) anil)))))) skip)
      (ret (andV (op req (op rix (var 1) (int 0)) (str "made")) (callE (F_is_thing_2 V) (acons (var 0) (acons (op rix (var 1) (int 1)) anil))))))))))
def F_is_table_paper_2 (V : Ve) : XF := xf 2 6 (X_is_table_paper_2 V)
def X__bound (V : Ve) : XS (Good V) :=
  (ret (op radd (op rsub (cb bsum (acons (var 1) anil)) (cb bsum (acons (frz (lc (iseq (var 3)) (gname 4) yes (op rix (var 1) (var 4)))) anil))) (call0 (F_room V) (acons (var 0) (acons (cb blen (acons (var 3) anil)) (acons (var 2) anil))))))
def F__bound (V : Ve) : XF := xf 4 5 (X__bound V)
def X__bounds (V : Ve) : XS (Good V) :=
  (ret (frz (lc (irng1 (acons (op radd (cb blen (acons (var 1) anil)) (int 1)) anil)) (gname 3) yes (call0 (F__bound V) (acons (var 0) (acons (var 1) (acons (var 2) (acons (call0 (F_greatest_places V) (acons (var 1) (acons (var 3) anil))) anil))))))))
def F__bounds (V : Ve) : XF := xf 3 4 (X__bounds V)
def X_most_units (V : Ve) : XS (Good V) :=
  (seq (drop (callE (F_check_table_sums V) (acons (var 0) anil)))
      (seq (asg (var 0) (gtup 4 (gcons (gname 1) (gcons (gname 2) (gcons (gname 3) (gcons (gname 4) gnil))))))
      (ret (cb bmin (acons (call0 (F__bounds V) (acons (var 2) (acons (var 3) (acons (var 4) anil)))) anil)))))
def F_most_units (V : Ve) : XF := xf 1 5 (X_most_units V)
def X__lessened_L1 (V : Ve) : XS (Good V) :=
  (seq (set 6 (op radd (op radd (slc (var 4) pno (psome (var 5))) (tup (acons (int 0) anil))) (slc (var 4) (psome (op radd (var 5) (int 1))) pno)))
      (seq (set 7 (op rsub (var 3) (cb bmin (acons (call0 (F__bounds V) (acons (var 0) (acons (var 6) (acons (var 2) anil)))) anil))))
      (set 4 (op radd (op radd (slc (var 4) pno (psome (var 5))) (tup (acons (var 7) anil))) (slc (var 4) (psome (op radd (var 5) (int 1))) pno)))))
def X__lessened (V : Ve) : XS (Good V) :=
  (seq (set 3 (cb bmin (acons (call0 (F__bounds V) (acons (var 0) (acons (var 1) (acons (var 2) anil)))) anil)))
      (seq (set 4 (var 1))
      (seq (xfor (irng1 (acons (cb blen (acons (var 1) anil)) anil)) (gname 5) (X__lessened_L1 V))
      (ret (var 4)))))
def F__lessened (V : Ve) : XF := xf 3 8 (X__lessened V)
def X_nearest_sums (V : Ve) : XS (Good V) :=
  (seq (drop (callE (F_check_table_sums V) (acons (var 0) anil)))
      (seq (asg (var 0) (gtup 4 (gcons (gname 1) (gcons (gname 2) (gcons (gname 3) (gcons (gname 4) gnil))))))
      (seq (set 5 (call0 (F__lessened V) (acons (var 2) (acons (var 3) (acons (var 4) anil)))))
      (ret (tup (acons (str "table") (acons (var 2) (acons (var 5) (acons (call0 (F__lessened V) (acons (var 2) (acons (var 4) (acons (var 5) anil)))) anil)))))))))
def F_nearest_sums (V : Ve) : XF := xf 1 6 (X_nearest_sums V)
def X_most_paper_2_nk24 (V : Ve) : XS (Good V) :=
  (seq (drop (callE (F_check_table_sums V) (acons (var 0) anil)))
      (seq (asg (var 0) (gtup 4 (gcons (gname 1) (gcons (gname 2) (gcons (gname 3) (gcons (gname 4) gnil))))))
      (seq (set 5 (call0 (F__bounds V) (acons (var 2) (acons (var 3) (acons (var 4) anil)))))
      nope)))
def F_most_paper_2_nk24 (V : Ve) : XF := xf 1 6 (X_most_paper_2_nk24 V)
def X_Table_units (V : Ve) : XS (Good V) :=
  (ret (cb bsum (acons (frz (lc (iseq (fld (V.cls .cTable) "_lines" (var 0))) (gname 1) yes (cb bsum (acons (var 1) anil)))) anil)))
def F_Table_units (V : Ve) : XF := xf 1 2 (X_Table_units V)
def X_Table_cap (V : Ve) : XS (Good V) :=
  (ret (fld (V.cls .cTable) "_cap" (var 0)))
def F_Table_cap (V : Ve) : XF := xf 1 1 (X_Table_cap V)
def X__is_placing_2 (V : Ve) : XS (Good V) :=
  (seq (ifS (orT (notT (tB' (isiC .cTable (var 3)))) (test (op rne (prp (V.cls .cTable) (F_Table_cap V) (var 3)) (var 0)))) (ret (bl false)) skip)
      (seq (ifS (orT (test (op rne (cb blen (acons (prp (V.cls .cTable) (F_Table_line_sums V) (var 3)) anil)) (cb blen (acons (var 1) anil)))) (test (op rne (cb blen (acons (prp (V.cls .cTable) (F_Table_column_sums V) (var 3)) anil)) (cb blen (acons (var 2) anil))))) (ret (bl false)) skip)
      (seq (set 4 (op radd (prp (V.cls .cTable) (F_Table_line_sums V) (var 3)) (prp (V.cls .cTable) (F_Table_column_sums V) (var 3))))
      (ret (cb ball (acons (frz (lc (izip (acons (var 4) (acons (op radd (var 1) (var 2)) anil))) (gpair 5 6) yes (op rle (var 5) (var 6)))) anil))))))
def F__is_placing_2 (V : Ve) : XF := xf 4 7 (X__is_placing_2 V)
def X_is_most_paper_2 (V : Ve) : XS (Good V) :=
  (seq (drop (callE (F_check_table_sums V) (acons (var 0) anil)))
      (seq (ifS (orT (notT (tB' (cb bisi (acons (var 1) (acons (ty "tuple") anil))))) (test (op rne (cb blen (acons (var 1) anil)) (int 2)))) (ret (bl false)) skip)
      (seq (asg (var 1) (gpair 2 3))
      (seq (asg (var 0) (gtup 4 (gcons (gname 4) (gcons (gname 5) (gcons (gname 6) (gcons (gname 7) gnil))))))
      (seq (ifS (orT (notT (tB' (call0 (F__is_placing_2 V) (acons (var 5) (acons (var 6) (acons (var 7) (acons (var 2) anil))))))) (notT (tB' (call0 (F_is_ascending V) (acons (var 3) (acons (cb blen (acons (var 6) anil)) anil)))))) (ret (bl false)) skip)
      (ret (op req (prp (V.cls .cTable) (F_Table_units V) (var 2)) (call0 (F__bound V) (acons (var 5) (acons (var 6) (acons (var 7) (acons (var 3) anil))))))))))))
def F_is_most_paper_2 (V : Ve) : XF := xf 2 8 (X_is_most_paper_2 V)
def X_fewest_taken (V : Ve) : XS (Good V) :=
  (seq (set 1 (callE (F_most_units V) (acons (var 0) anil)))
      (ret (op rsub (op radd (cb bsum (acons (op rix (var 0) (int 2)) anil)) (cb bsum (acons (op rix (var 0) (int 3)) anil))) (op rmul (int 2) (var 1)))))
def F_fewest_taken (V : Ve) : XF := xf 1 2 (X_fewest_taken V)
def X__law_pick_2 (V : Ve) : XS (Good V) :=
  (ret (op rix (var 1) (call0 ladleF (acons (var 0) (acons (cb blen (acons (var 1) anil)) anil)))))
def F__law_pick_2 (V : Ve) : XF := xf 2 2 (X__law_pick_2 V)
def X__law_wrong_sums (V : Ve) : XS (Good V) :=
  (seq (set 1 (frz (lst (acons non (acons (int 0) (acons (tup anil) (acons (str "table") (acons (tup (acons (str "table") anil)) (acons (tup (acons (str "table") (acons (int 1) (acons (tup (acons (int 1) anil)) anil)))) (acons (tup (acons (str "table") (acons (int 0) (acons (tup (acons (int 1) anil)) (acons (tup (acons (int 1) anil)) anil))))) (acons (tup (acons (str "table") (acons (int 10) (acons (tup (acons (int 1) anil)) (acons (tup (acons (int 1) anil)) anil))))) anil)))))))))))
      (seq (set 1 (frz (opO raddO (var 1) (frz (lst (acons (tup (acons (str "table") (acons (bl true) (acons (tup (acons (int 1) anil)) (acons (tup (acons (int 1) anil)) anil))))) (acons (tup (acons (str "table") (acons (int 1) (acons (tup anil) (acons (tup (acons (int 0) anil)) anil))))) (acons (tup (acons (str "table") (acons (int 1) (acons (tup (acons (int 0) anil)) (acons (tup anil) anil))))) anil))))))))
      (seq (set 1 (frz (opO raddO (var 1) (frz (lst (acons (tup (acons (str "table") (acons (int 1) (acons (frz (lst (acons (int 1) anil))) (acons (tup (acons (int 1) anil)) anil))))) (acons (tup (acons (str "table") (acons (int 1) (acons (tup (acons (int 1) anil)) (acons (frz (lst (acons (int 1) anil))) anil))))) anil)))))))
      (seq (set 1 (frz (opO raddO (var 1) (frz (lst (acons (tup (acons (str "table") (acons (int 1) (acons (op rmul (tup (acons (int 1) anil)) (int 13)) (acons (tup (acons (int 13) anil)) anil))))) (acons (tup (acons (str "table") (acons (int 1) (acons (tup (acons (int 13) anil)) (acons (op rmul (tup (acons (int 1) anil)) (int 13)) anil))))) (acons (tup (acons (str "table") (acons (int 1) (acons (tup (acons (neg (int 1)) anil)) (acons (tup (acons (int 0) anil)) anil))))) anil))))))))
      (seq (set 1 (frz (opO raddO (var 1) (frz (lst (acons (tup (acons (str "table") (acons (int 1) (acons (tup (acons (bl true) anil)) (acons (tup (acons (int 1) anil)) anil))))) (acons (tup (acons (str "table") (acons (int 1) (acons (tup (acons non anil)) (acons (tup (acons (int 1) anil)) anil))))) (acons (tup (acons (str "table") (acons (int 1) (acons (tup (acons (op rpow (int 10) (int 30)) anil)) (acons (tup (acons (int 1) anil)) anil))))) anil))))))))
      (seq (set 1 (frz (opO raddO (var 1) (frz (lst (acons (tup (acons (str "web") (acons (tup (acons (int 1) (acons (int 1) anil))) anil))) (acons (tup (acons (str "tournament") (acons (tup (acons (int 0) (acons (int 1) anil))) anil))) (acons (frz (lst (acons (str "table") (acons (int 1) (acons (tup (acons (int 1) anil)) (acons (tup (acons (int 1) anil)) anil)))))) (acons (tup (acons (str "Table") (acons (int 1) (acons (tup (acons (int 1) anil)) (acons (tup (acons (int 1) anil)) anil))))) anil)))))))))
      (ret (call0 (F__law_pick_2 V) (acons (var 0) (acons (frz (opO raddO (var 1) (frz (lst (acons (tup (acons (str "table") (acons (str "1") (acons (tup (acons (int 1) anil)) (acons (tup (acons (int 1) anil)) anil))))) (acons (tup (acons (str "table") (acons (int 1) (acons (tup (acons (int 1) anil)) (acons (tup (acons (int 1) anil)) (acons (int 0) anil)))))) (acons dnew (acons (bl true) anil)))))))) anil))))))))))
def F__law_wrong_sums (V : Ve) : XF := xf 1 2 (X__law_wrong_sums V)
def X__law_right_92_nk24_L1 (V : Ve) (hn : ∀ c ∈ cl__law_met, c.1 ∈ V.names) : XS (Good V) :=
  (ret (op req (var 3) (frz (opO raddO (frz (opO raddO (var 7) (var 7))) (frz (lst (acons (op radd (str "number ") (cb brepr (acons (var 4) anil))) (acons (str "sums") (acons (str "sums") anil)))))))))
def X__law_right_92_nk24_L2 (V : Ve) (hn : ∀ c ∈ cl__law_met, c.1 ∈ V.names) : XS (Good V) :=
  (freeze 3 (seq (set 7 (frz (lst (acons (op radd (str "number ") (cb brepr (acons (var 4) anil))) (acons (str "sums") (acons (op radd (str "number ") (cb brepr (acons (var 6) anil))) anil))))))
      (X__law_right_92_nk24_L1 V hn)))
def X__law_right_92_nk24_L3 (V : Ve) (hn : ∀ c ∈ cl__law_met, c.1 ∈ V.names) : XS (Good V) :=
  (seq (app 3 (outcU V 2 cl__law_met hn hcl__law_met (callE (F_has_table V) (acons (int 1) (acons (tup (acons (int 1) anil)) (acons (var 5) anil))))))
      (X__law_right_92_nk24_L2 V hn))
def X__law_right_92_nk24_L4 (V : Ve) (hn : ∀ c ∈ cl__law_met, c.1 ∈ V.names) : XS (Good V) :=
  (seq (app 3 (outcU V 2 cl__law_met hn hcl__law_met (callE (F_has_table V) (acons (int 1) (acons (var 5) (acons (tup (acons (int 1) anil)) anil))))))
      (X__law_right_92_nk24_L3 V hn))
def X__law_right_92_nk24_L5 (V : Ve) (hn : ∀ c ∈ cl__law_met, c.1 ∈ V.names) : XS (Good V) :=
  (seq (app 3 (outcU V 2 cl__law_met hn hcl__law_met (callE (F_has_table V) (acons (var 4) (acons (var 5) (acons (var 5) anil))))))
      (X__law_right_92_nk24_L4 V hn))
def X__law_right_92_nk24_L6 (V : Ve) (hn : ∀ c ∈ cl__law_met, c.1 ∈ V.names) : XS (Good V) :=
  (seq (app 3 (outcU V 2 cl__law_met hn hcl__law_met (callE (F_filled_table_2 V) (acons (int 1) (acons (op rmul (tup (acons (int 1) anil)) (int 12)) (acons (var 6) anil))))))
      (X__law_right_92_nk24_L5 V hn))
def X__law_right_92_nk24_L7 (V : Ve) (hn : ∀ c ∈ cl__law_met, c.1 ∈ V.names) : XS (Good V) :=
  (seq (app 3 (outcU V 2 cl__law_met hn hcl__law_met (callE (F_filled_table_2 V) (acons (int 1) (acons (var 5) (acons (var 6) anil))))))
      (X__law_right_92_nk24_L6 V hn))
def X__law_right_92_nk24_L8 (V : Ve) (hn : ∀ c ∈ cl__law_met, c.1 ∈ V.names) : XS (Good V) :=
  (seq (app 3 (outcU V 2 cl__law_met hn hcl__law_met (callE (F_filled_table_2 V) (acons (var 4) (acons (var 5) (acons (var 6) anil))))))
      (X__law_right_92_nk24_L7 V hn))
def X__law_right_92_nk24_L9 (V : Ve) (hn : ∀ c ∈ cl__law_met, c.1 ∈ V.names) : XS (Good V) :=
  (seq (app 3 (outcU V 2 cl__law_met hn hcl__law_met (callE (F_greatest_row V) (acons (int 1) (acons (op rmul (tup (acons (int 1) anil)) (int 64)) (acons (var 6) anil))))))
      (X__law_right_92_nk24_L8 V hn))
def X__law_right_92_nk24_L10 (V : Ve) (hn : ∀ c ∈ cl__law_met, c.1 ∈ V.names) : XS (Good V) :=
  (seq (app 3 (outcU V 2 cl__law_met hn hcl__law_met (callE (F_greatest_row V) (acons (int 1) (acons (var 5) (acons (var 6) anil))))))
      (X__law_right_92_nk24_L9 V hn))
def X__law_right_92_nk24_L11 (V : Ve) (hn : ∀ c ∈ cl__law_met, c.1 ∈ V.names) : XS (Good V) :=
  (seq (setO 3 (lst (acons (outcU V 2 cl__law_met hn hcl__law_met (callE (F_greatest_row V) (acons (var 4) (acons (var 5) (acons (var 6) anil))))) anil)))
      (X__law_right_92_nk24_L10 V hn))
def X__law_right_92_nk24_L12 (V : Ve) (hn : ∀ c ∈ cl__law_met, c.1 ∈ V.names) : XS (Good V) :=
  (seq (set 6 (call0 (F__law_pick_2 V) (acons (var 0) (acons (frz (lst (acons non (acons (int 0) (acons (int 65) (acons (neg (int 1)) (acons (bl true) (acons (str "1") (acons (tup (acons (int 1) anil)) (acons (frz (lst anil)) (acons dnew (acons (op rpow (int 10) (int 30)) anil)))))))))))) anil))))
      (X__law_right_92_nk24_L11 V hn))
def X__law_right_92_nk24_L13 (V : Ve) (hn : ∀ c ∈ cl__law_met, c.1 ∈ V.names) : XS (Good V) :=
  (seq (set 5 (call0 (F__law_pick_2 V) (acons (var 0) (acons (frz (lst (acons non (acons (int 0) (acons (tup anil) (acons (frz (lst (acons (int 1) anil))) (acons (tup (acons (neg (int 1)) anil)) (acons (tup (acons (bl true) anil)) (acons (tup (acons non anil)) (acons (tup (acons (str "1") anil)) (acons (tup (acons (op rpow (int 10) (int 30)) anil)) (acons (op rmul (tup (acons (int 1) anil)) (int 65)) (acons dnew (acons (str "1") anil)))))))))))))) anil))))
      (X__law_right_92_nk24_L12 V hn))
def X__law_right_92_nk24_L14 (V : Ve) (hn : ∀ c ∈ cl__law_met, c.1 ∈ V.names) : XS (Good V) :=
  (seq (set 4 (call0 (F__law_pick_2 V) (acons (var 0) (acons (frz (lst (acons non (acons (int 0) (acons (int 10) (acons (neg (int 1)) (acons (bl true) (acons (str "1") (acons (tup (acons (int 1) anil)) (acons (frz (lst anil)) (acons dnew (acons (op rpow (int 10) (int 30)) anil)))))))))))) anil))))
      (X__law_right_92_nk24_L13 V hn))
def X__law_right_92_nk24_L15 (V : Ve) (hn : ∀ c ∈ cl__law_met, c.1 ∈ V.names) : XS (Good V) :=
  (freeze 3 (seq (ifS (test (op rne (var 3) (frz (opO rmulO (frz (lst (acons (str "sums") anil))) (int 8))))) (ret (bl false)) skip)
      (X__law_right_92_nk24_L14 V hn)))
def X__law_right_92_nk24_L16 (V : Ve) (hn : ∀ c ∈ cl__law_met, c.1 ∈ V.names) : XS (Good V) :=
  (seq (app 3 (outcU V 2 cl__law_met hn hcl__law_met (callE (F_nearest_sums V) (acons (var 1) anil))))
      (X__law_right_92_nk24_L15 V hn))
def X__law_right_92_nk24_L17 (V : Ve) (hn : ∀ c ∈ cl__law_met, c.1 ∈ V.names) : XS (Good V) :=
  (seq (app 3 (outcU V 2 cl__law_met hn hcl__law_met (callE (F_fewest_taken V) (acons (var 1) anil))))
      (X__law_right_92_nk24_L16 V hn))
def X__law_right_92_nk24_L18 (V : Ve) (hn : ∀ c ∈ cl__law_met, c.1 ∈ V.names) : XS (Good V) :=
  (seq (app 3 (outcU V 2 cl__law_met hn hcl__law_met (callE (F_is_most_paper_2 V) (acons (var 1) (acons (var 2) anil)))))
      (X__law_right_92_nk24_L17 V hn))
def X__law_right_92_nk24_L19 (V : Ve) (hn : ∀ c ∈ cl__law_met, c.1 ∈ V.names) : XS (Good V) :=
  (seq (app 3 (outcU V 2 cl__law_met hn hcl__law_met (callE (F_most_paper_2_nk24 V) (acons (var 1) anil))))
      (X__law_right_92_nk24_L18 V hn))
def X__law_right_92_nk24_L20 (V : Ve) (hn : ∀ c ∈ cl__law_met, c.1 ∈ V.names) : XS (Good V) :=
  (seq (app 3 (outcU V 2 cl__law_met hn hcl__law_met (callE (F_most_units V) (acons (var 1) anil))))
      (X__law_right_92_nk24_L19 V hn))
def X__law_right_92_nk24_L21 (V : Ve) (hn : ∀ c ∈ cl__law_met, c.1 ∈ V.names) : XS (Good V) :=
  (seq (app 3 (outcU V 2 cl__law_met hn hcl__law_met (callE (F_is_table_paper_2 V) (acons (var 1) (acons (var 2) anil)))))
      (X__law_right_92_nk24_L20 V hn))
def X__law_right_92_nk24_L22 (V : Ve) (hn : ∀ c ∈ cl__law_met, c.1 ∈ V.names) : XS (Good V) :=
  (seq (app 3 (outcU V 2 cl__law_met hn hcl__law_met (callE (F_table_paper_2_nk24 V) (acons (var 1) anil))))
      (X__law_right_92_nk24_L21 V hn))
def X__law_right_92_nk24_L23 (V : Ve) (hn : ∀ c ∈ cl__law_met, c.1 ∈ V.names) : XS (Good V) :=
  (seq (setO 3 (lst (acons (outcU V 2 cl__law_met hn hcl__law_met (callE (F_made_table_2_nk24 V) (acons (var 1) anil))) anil)))
      (X__law_right_92_nk24_L22 V hn))
def X__law_right_92_nk24 (V : Ve) (hn : ∀ c ∈ cl__law_met, c.1 ∈ V.names) : XS (Good V) :=
  (seq (asg (tup (acons (call0 (F__law_wrong_sums V) (acons (var 0) anil)) (acons (call0 (F__law_pick_2 V) (acons (var 0) (acons (frz (lst (acons non (acons (tup (acons (str "made") (acons (mk0 (V.cls .cTable) (F_Table___init__ V) (acons (int 1) (acons (tup (acons (int 1) anil)) anil))) anil))) (acons (tup (acons (str "lines") (acons (tup (acons (int 0) anil)) anil))) (acons (tup anil) (acons (int 0) anil))))))) anil))) anil))) (gpair 1 2))
      (seq (setO 3 (lst (acons (outcU V 2 cl__law_met hn hcl__law_met (callE (F_made_table_2_nk24 V) (acons (var 1) anil))) anil)))
      (seq (app 3 (outcU V 2 cl__law_met hn hcl__law_met (callE (F_table_paper_2_nk24 V) (acons (var 1) anil))))
      (seq (app 3 (outcU V 2 cl__law_met hn hcl__law_met (callE (F_is_table_paper_2 V) (acons (var 1) (acons (var 2) anil)))))
      (seq (app 3 (outcU V 2 cl__law_met hn hcl__law_met (callE (F_most_units V) (acons (var 1) anil))))
      (seq (app 3 (outcU V 2 cl__law_met hn hcl__law_met (callE (F_most_paper_2_nk24 V) (acons (var 1) anil))))
      (seq (app 3 (outcU V 2 cl__law_met hn hcl__law_met (callE (F_is_most_paper_2 V) (acons (var 1) (acons (var 2) anil)))))
      (seq (app 3 (outcU V 2 cl__law_met hn hcl__law_met (callE (F_fewest_taken V) (acons (var 1) anil))))
      (seq (app 3 (outcU V 2 cl__law_met hn hcl__law_met (callE (F_nearest_sums V) (acons (var 1) anil))))
      (freeze 3 (seq (ifS (test (op rne (var 3) (frz (opO rmulO (frz (lst (acons (str "sums") anil))) (int 8))))) (ret (bl false)) skip)
      (seq (set 4 (call0 (F__law_pick_2 V) (acons (var 0) (acons (frz (lst (acons non (acons (int 0) (acons (int 10) (acons (neg (int 1)) (acons (bl true) (acons (str "1") (acons (tup (acons (int 1) anil)) (acons (frz (lst anil)) (acons dnew (acons (op rpow (int 10) (int 30)) anil)))))))))))) anil))))
      (seq (set 5 (call0 (F__law_pick_2 V) (acons (var 0) (acons (frz (lst (acons non (acons (int 0) (acons (tup anil) (acons (frz (lst (acons (int 1) anil))) (acons (tup (acons (neg (int 1)) anil)) (acons (tup (acons (bl true) anil)) (acons (tup (acons non anil)) (acons (tup (acons (str "1") anil)) (acons (tup (acons (op rpow (int 10) (int 30)) anil)) (acons (op rmul (tup (acons (int 1) anil)) (int 65)) (acons dnew (acons (str "1") anil)))))))))))))) anil))))
      (seq (set 6 (call0 (F__law_pick_2 V) (acons (var 0) (acons (frz (lst (acons non (acons (int 0) (acons (int 65) (acons (neg (int 1)) (acons (bl true) (acons (str "1") (acons (tup (acons (int 1) anil)) (acons (frz (lst anil)) (acons dnew (acons (op rpow (int 10) (int 30)) anil)))))))))))) anil))))
      (seq (setO 3 (lst (acons (outcU V 2 cl__law_met hn hcl__law_met (callE (F_greatest_row V) (acons (var 4) (acons (var 5) (acons (var 6) anil))))) anil)))
      (seq (app 3 (outcU V 2 cl__law_met hn hcl__law_met (callE (F_greatest_row V) (acons (int 1) (acons (var 5) (acons (var 6) anil))))))
      (seq (app 3 (outcU V 2 cl__law_met hn hcl__law_met (callE (F_greatest_row V) (acons (int 1) (acons (op rmul (tup (acons (int 1) anil)) (int 64)) (acons (var 6) anil))))))
      (seq (app 3 (outcU V 2 cl__law_met hn hcl__law_met (callE (F_filled_table_2 V) (acons (var 4) (acons (var 5) (acons (var 6) anil))))))
      (seq (app 3 (outcU V 2 cl__law_met hn hcl__law_met (callE (F_filled_table_2 V) (acons (int 1) (acons (var 5) (acons (var 6) anil))))))
      (seq (app 3 (outcU V 2 cl__law_met hn hcl__law_met (callE (F_filled_table_2 V) (acons (int 1) (acons (op rmul (tup (acons (int 1) anil)) (int 12)) (acons (var 6) anil))))))
      (seq (app 3 (outcU V 2 cl__law_met hn hcl__law_met (callE (F_has_table V) (acons (var 4) (acons (var 5) (acons (var 5) anil))))))
      (seq (app 3 (outcU V 2 cl__law_met hn hcl__law_met (callE (F_has_table V) (acons (int 1) (acons (var 5) (acons (tup (acons (int 1) anil)) anil))))))
      (seq (app 3 (outcU V 2 cl__law_met hn hcl__law_met (callE (F_has_table V) (acons (int 1) (acons (tup (acons (int 1) anil)) (acons (var 5) anil))))))
      (freeze 3 (seq (set 7 (frz (lst (acons (op radd (str "number ") (cb brepr (acons (var 4) anil))) (acons (str "sums") (acons (op radd (str "number ") (cb brepr (acons (var 6) anil))) anil))))))
      (ret (op req (var 3) (frz (opO raddO (frz (opO raddO (var 7) (var 7))) (frz (lst (acons (op radd (str "number ") (cb brepr (acons (var 4) anil))) (acons (str "sums") (acons (str "sums") anil))))))))))))))))))))))))))))))))))
theorem X__law_right_92_nk24_split (V : Ve) (hn : ∀ c ∈ cl__law_met, c.1 ∈ V.names) : X__law_right_92_nk24 V hn =
  (seq (asg (tup (acons (call0 (F__law_wrong_sums V) (acons (var 0) anil)) (acons (call0 (F__law_pick_2 V) (acons (var 0) (acons (frz (lst (acons non (acons (tup (acons (str "made") (acons (mk0 (V.cls .cTable) (F_Table___init__ V) (acons (int 1) (acons (tup (acons (int 1) anil)) anil))) anil))) (acons (tup (acons (str "lines") (acons (tup (acons (int 0) anil)) anil))) (acons (tup anil) (acons (int 0) anil))))))) anil))) anil))) (gpair 1 2))
      (X__law_right_92_nk24_L23 V hn)) := rfl
def F__law_right_92_nk24 (V : Ve) (hn : ∀ c ∈ cl__law_met, c.1 ∈ V.names) : XF := xf 1 8 (X__law_right_92_nk24 V hn)
def X_law_104_nk24_L1 (V : Ve) (hn : ∀ c ∈ cl__law_met, c.1 ∈ V.names) : XS (Good V) :=
  (ifS (notT (tB' (call0 (F__law_right_92_nk24 V hn) (acons (var 2) anil)))) (ret (bl false)) skip)
def X_law_104_nk24_L2 (V : Ve) (hn : ∀ c ∈ cl__law_met, c.1 ∈ V.names) : XS (Good V) :=
  (bowlS 2 (acons (var 0) (acons (var 1) anil))
      (xfor (irng1 (acons (int 3) anil)) (gname 3) (X_law_104_nk24_L1 V hn)))
def X_law_104_nk24_L3 (V : Ve) (hn : ∀ c ∈ cl__law_met, c.1 ∈ V.names) : XS (Good V) :=
  (freeze 4 (ret (op req (var 4) (frz (lst (acons (str "sums") (acons (str "operation") (acons (str "number 13") (acons (str "sums") (acons (int 64) anil))))))))))
def X_law_104_nk24_L4 (V : Ve) (hn : ∀ c ∈ cl__law_met, c.1 ∈ V.names) : XS (Good V) :=
  (seq (app 4 (outcU V 2 cl__law_met hn hcl__law_met (cb blen (acons (callE (F_greatest_row V) (acons (int 1) (acons (tup (acons (int 0) anil)) (acons (int 64) anil)))) anil))))
      (X_law_104_nk24_L3 V hn))
def X_law_104_nk24_L5 (V : Ve) (hn : ∀ c ∈ cl__law_met, c.1 ∈ V.names) : XS (Good V) :=
  (seq (app 4 (outcU V 2 cl__law_met hn hcl__law_met (callE (F_filled_table_2 V) (acons (int 1) (acons (op rmul (tup (acons (int 0) anil)) (int 13)) (acons (int 1) anil))))))
      (X_law_104_nk24_L4 V hn))
def X_law_104_nk24_L6 (V : Ve) (hn : ∀ c ∈ cl__law_met, c.1 ∈ V.names) : XS (Good V) :=
  (seq (app 4 (outcU V 2 cl__law_met hn hcl__law_met (callE (F_filled_table_2 V) (acons (int 1) (acons (tup (acons (int 1) anil)) (acons (int 13) anil))))))
      (X_law_104_nk24_L5 V hn))
def X_law_104_nk24_L7 (V : Ve) (hn : ∀ c ∈ cl__law_met, c.1 ∈ V.names) : XS (Good V) :=
  (seq (app 4 (outcU V 2 cl__law_met hn hcl__law_met (callE (F_filled_table_2 V) (acons (int 2) (acons (tup (acons (int 5) (acons (int 0) anil))) (acons (int 2) anil))))))
      (X_law_104_nk24_L6 V hn))
def X_law_104_nk24_L8 (V : Ve) (hn : ∀ c ∈ cl__law_met, c.1 ∈ V.names) : XS (Good V) :=
  (seq (setO 4 (lst (acons (outcU V 2 cl__law_met hn hcl__law_met (callE (F_filled_table_2 V) (acons (int 1) (acons (op rmul (tup (acons (int 1) anil)) (int 13)) (acons (int 13) anil))))) anil)))
      (X_law_104_nk24_L7 V hn))
def X_law_104_nk24 (V : Ve) (hn : ∀ c ∈ cl__law_met, c.1 ∈ V.names) : XS (Good V) :=
  (seq (xfor (irng1 (acons (cb bmax (acons (int 1) (acons (cb bmin (acons (int 8) (acons (cb blen (acons (var 0) anil)) anil))) anil))) anil)) (gname 1) (X_law_104_nk24_L2 V hn))
      (seq (setO 4 (lst (acons (outcU V 2 cl__law_met hn hcl__law_met (callE (F_filled_table_2 V) (acons (int 1) (acons (op rmul (tup (acons (int 1) anil)) (int 13)) (acons (int 13) anil))))) anil)))
      (seq (app 4 (outcU V 2 cl__law_met hn hcl__law_met (callE (F_filled_table_2 V) (acons (int 2) (acons (tup (acons (int 5) (acons (int 0) anil))) (acons (int 2) anil))))))
      (seq (app 4 (outcU V 2 cl__law_met hn hcl__law_met (callE (F_filled_table_2 V) (acons (int 1) (acons (tup (acons (int 1) anil)) (acons (int 13) anil))))))
      (seq (app 4 (outcU V 2 cl__law_met hn hcl__law_met (callE (F_filled_table_2 V) (acons (int 1) (acons (op rmul (tup (acons (int 0) anil)) (int 13)) (acons (int 1) anil))))))
      (seq (app 4 (outcU V 2 cl__law_met hn hcl__law_met (cb blen (acons (callE (F_greatest_row V) (acons (int 1) (acons (tup (acons (int 0) anil)) (acons (int 64) anil)))) anil))))
      (freeze 4 (ret (op req (var 4) (frz (lst (acons (str "sums") (acons (str "operation") (acons (str "number 13") (acons (str "sums") (acons (int 64) anil))))))))))))))))
theorem X_law_104_nk24_split (V : Ve) (hn : ∀ c ∈ cl__law_met, c.1 ∈ V.names) : X_law_104_nk24 V hn =
  (seq (xfor (irng1 (acons (cb bmax (acons (int 1) (acons (cb bmin (acons (int 8) (acons (cb blen (acons (var 0) anil)) anil))) anil))) anil)) (gname 1) (X_law_104_nk24_L2 V hn))
      (X_law_104_nk24_L8 V hn)) := rfl
def F_law_104_nk24 (V : Ve) (hn : ∀ c ∈ cl__law_met, c.1 ∈ V.names) : XF := xf 1 5 (X_law_104_nk24 V hn)
end XD
namespace Y
open PySem PySem.Spec PyProof.Rows L2 SQ XQ XD
def topS (i : Nat) : Stmt := PySem.Challenge.pw_sumsalone_k24_errors_of_tables_by_sums.main.body.getD i (.Pass ⟨0, 0, 0, 0⟩)
structure Txt (K : Fr) (mg : Str → Option Value) (V : Ve) : Prop where
  b_abs : mg "abs" = none
  b_all : mg "all" = none
  b_bool : mg "bool" = none
  b_enumerate : mg "enumerate" = none
  b_int : mg "int" = none
  b_isinstance : mg "isinstance" = none
  b_len : mg "len" = none
  b_list : mg "list" = none
  b_max : mg "max" = none
  b_min : mg "min" = none
  b_range : mg "range" = none
  b_repr : mg "repr" = none
  b_sorted : mg "sorted" = none
  b_sum : mg "sum" = none
  b_tuple : mg "tuple" = none
  b_zip : mg "zip" = none
  k_MAX_CAP : ∃ u, mg "MAX_CAP" = some u ∧ RelV (.int 9) u
  k_MAX_LENGTH : ∃ u, mg "MAX_LENGTH" = some u ∧ RelV (.int 64) u
  k_MAX_LINES : ∃ u, mg "MAX_LINES" = some u ∧ RelV (.int 12) u
  k_MAX_PLACES : ∃ u, mg "MAX_PLACES" = some u ∧ RelV (.int 16) u
  x_InvalidNumber : OwnX K mg "InvalidNumber" "value" (V.cls .number)
  x_InvalidOperation : Own0 K mg "InvalidOperation" (V.cls .operation)
  x_InvalidSums : Own0 K mg "InvalidSums" (V.cls .sums)
  x_InvalidTable : Own0 K mg "InvalidTable" (V.cls .table)
  x_InvalidTournament : Own0 K mg "InvalidTournament" (V.cls .tournament)
  x_InvalidWeb : Own0 K mg "InvalidWeb" (V.cls .web)
  c_Table : mg "Table" = some (.ref (V.cls .cTable))
  c_Tournament : mg "Tournament" = some (.ref (V.cls .cTour))
  c_Web : mg "Web" = some (.ref (V.cls .cWeb))
  cl_Table : Cls K (V.cls .cTable)
  cl_Tournament : Cls K (V.cls .cTour)
  cl_Web : Cls K (V.cls .cWeb)
  na_Table__cap : NoAttr K (V.cls .cTable) "_cap"
  na_Table__lines : NoAttr K (V.cls .cTable) "_lines"
  na_Tournament__beaten : NoAttr K (V.cls .cTour) "_beaten"
  na_Web__places : NoAttr K (V.cls .cWeb) "_places"
  na_Web__ties : NoAttr K (V.cls .cWeb) "_ties"
section
variable {P : Program} {w : World} {K : PySem.W.Frag} {mg : Str → Option Value} {base : Heap} {V : Ve}
abbrev s__law_urn : Stmt := topS 74
abbrev N__law_urn : List Str := ["_law_script", "_law_at", "_law_cell", "_law_great", "_law_mixed"]
theorem sc__law_urn : FnScope N__law_urn ["_law_script", "_law_at"] (defScope s__law_urn) := ⟨rfl, rfl, rfl, by decide +kernel, rfl, by decide +kernel, by decide +kernel⟩
theorem cf__law_urn {f : Addr} {fd : FuncData} (T : Txt K mg V) (Df : Fun K "_law_urn" "_law_urn" s__law_urn f fd) (hm : mg "_law_urn" = some (.ref f)) (hb : Binds K fd ["_law_script", "_law_at"] []) : CalN P w K mg base 1 "_law_urn" (spO K FB) := by
  refine cfo_of Df hm hb sc__law_urn (fun B ds C X h => by obtain ⟨d, n, rfl, _⟩ := h; rfl) fun cdv A outer s H E hr => ?_
  refine ⟨_, (pss_cons (ps_set (i := 2) sc__law_urn.nd rfl (Or.inl rfl) (pe_ifExp (pt_cmpR op_lt (pv 1) (pe_callB cr_len (by rfl) T.b_len PySem.boot_len (pa_cons (pv 0) pa_nil)) (nomark _)) (pe_ix ix_seq (pv 0) (pv 1) (fun _ _ => rfl)) (pe_op op_addA (pe_op op_mulA pe_int (pv 1)) pe_int)))
      (pss_cons (ps_set (i := 3) sc__law_urn.nd rfl (Or.inl rfl) (pe_op op_mod (pe_callTy cr_int (by rfl) T.b_int PyProof.Rows.boot_int (pa_cons (pe_callB cr_abs (by rfl) T.b_abs PyProof.Rows.boot_abs (pa_cons (pv 2) pa_nil)) pa_nil)) (pe_op op_powW (pe_op op_powW pe_int pe_int) pe_int)))
      (pss_cons (ps_set (i := 4) sc__law_urn.nd rfl (Or.inl rfl) (pe_op op_addA (pe_op op_addA (pe_op op_addA (pe_op op_mulA (pe_op op_mod (pe_callTy cr_int (by rfl) T.b_int PyProof.Rows.boot_int (pa_cons (pv 3) pa_nil)) pe_int) pe_int) (pe_op op_mulA pe_int (pv 1))) (pe_op op_mulA pe_int (pe_callTy cr_int (by rfl) T.b_int PyProof.Rows.boot_int (pa_cons (pe_cmpR op_lt (pv 2) pe_int (nomark _)) pa_nil)))) pe_int))
      (pss_one (ps_ret (pe_lst (pa_cons (pe_callB (cr_maxA rfl) (by rfl) T.b_max PyProof.Rows.boot_max (pa_cons pe_int (pa_cons (pe_op op_sub (pv 3) (pe_op op_powW pe_int pe_int)) pa_nil))) (pa_cons (pe_op op_mod (pe_callTy cr_int (by rfl) T.b_int PyProof.Rows.boot_int (pa_cons (pv 4) pa_nil)) pe_int) (pa_cons pe_int pa_nil))))))))), ?_⟩
  dsimp only [cxOf, Cx.nox]
  intro Γ ds C hF
  obtain ⟨ns, i, rfl, hi, c⟩ := hF
  refine wpS_seq (wpS_set (Nat.le_of_ble_eq_true rfl) (wpE.mono (C := fun d => ∃ z : Int, d = .int z) ?_ ?_))
  · walk_at "wk"
    split
    · walk_at "wk"
      rename_i h
      have h : i < ns.length := by simpa using h
      refine wpR_ixS (z := ns[i]) (atI_nat (by simp [h])) ?_
      exact ⟨_, rfl⟩
    · walk_at "wk"
      exact ⟨_, rfl⟩
  · rintro d ⟨z, rfl⟩
    walk_at "wk"
    first | exact c _ _ | exact ⟨Nat.le_of_ble_eq_true rfl, c _ _⟩
abbrev s__law_ball : Stmt := topS 75
abbrev N__law_ball : List Str := ["_law_urn_here", "_law_total", "_law_found", "_law_one", "_law_two"]
theorem sc__law_ball : FnScope N__law_ball ["_law_urn_here", "_law_total"] (defScope s__law_ball) := ⟨rfl, rfl, rfl, by decide +kernel, rfl, by decide +kernel, by decide +kernel⟩
theorem cf__law_ball {f : Addr} {fd : FuncData} (T : Txt K mg V) (Df : Fun K "_law_ball" "_law_ball" s__law_ball f fd) (hm : mg "_law_ball" = some (.ref f)) (hb : Binds K fd ["_law_urn_here", "_law_total"] []) : CF P w K mg base 1 "_law_ball" ladleF.F := by
  refine cf_of Df hm hb sc__law_ball (fun B ds C X h => by obtain ⟨d, n, rfl, _⟩ := old_ladle h; rfl) fun cdv A outer s H E hr => ?_
  refine ⟨_, (pss_cons (ps_if (pt_cmpR op_gt (pe_ix ix_seq (pv 0) pe_int (fun _ _ => rfl)) pe_int (nomark _)) (pss_cons (ps_set (i := 2) sc__law_ball.nd rfl (Or.inl rfl) (pe_op op_mod (pe_callTy cr_int (by rfl) T.b_int PyProof.Rows.boot_int (pa_cons (pe_ix ix_seq (pv 0) pe_int (fun _ _ => rfl)) pa_nil)) (pv 1)))
      (pss_cons (ps_asg (pe_op op_fdivW (pe_ix ix_seq (pv 0) pe_int (fun _ _ => rfl)) (pv 1)) (pg_sub (pv 0) pe_int set_list))
      (pss_one (ps_ret (pv 2))))) pss_nil)
      (pss_cons (ps_asg (pe_op op_addA (pe_ix ix_seq (pv 0) pe_int (fun _ _ => rfl)) pe_int) (pg_sub (pv 0) pe_int set_list))
      (pss_cons (ps_set (i := 3) sc__law_ball.nd rfl (Or.inl rfl) (pe_op op_mod (pe_callTy cr_int (by rfl) T.b_int PyProof.Rows.boot_int (pa_cons (pe_op op_addA (pe_ix ix_seq (pv 0) pe_int (fun _ _ => rfl)) (pe_op op_mulA pe_int (pe_ix ix_seq (pv 0) pe_int (fun _ _ => rfl)))) pa_nil)) pe_int))
      (pss_cons (ps_set (i := 4) sc__law_ball.nd rfl (Or.inl rfl) (pe_op op_addA (pe_op op_mulA (pe_op op_mod (pe_callTy cr_int (by rfl) T.b_int PyProof.Rows.boot_int (pa_cons (pe_op op_mulA (pv 3) (pv 3)) pa_nil)) pe_int) (pv 3)) (pe_op op_mulA pe_int (pe_ix ix_seq (pv 0) pe_int (fun _ _ => rfl)))))
      (pss_one (ps_ret (pe_op op_mod (pe_callTy cr_int (by rfl) T.b_int PyProof.Rows.boot_int (pa_cons (pe_op op_fdivW (pe_op op_mod (pe_callTy cr_int (by rfl) T.b_int PyProof.Rows.boot_int (pa_cons (pv 4) pa_nil)) pe_int) pe_int) pa_nil)) (pv 1)))))))), ?_⟩
  dsimp only [cxOf, Cx.nox]
  intro Γ ds C hF
  obtain ⟨p, n, rfl, b, hn, hl, c⟩ := old_ladle hF
  have hl := log_small hn hl
  walk_at "wk"
  split
  · walk_at "wk"
    exact c _ (Int.emod_nonneg _ (by omega)) (Int.emod_lt_of_pos _ hn)
  · walk_at "wk"
    exact c _ (Int.emod_nonneg _ (by omega)) (Int.emod_lt_of_pos _ hn)
abbrev s_is_whole : Stmt := topS 10
abbrev N_is_whole : List Str := ["value"]
theorem sc_is_whole : FnScope N_is_whole ["value"] (defScope s_is_whole) := ⟨rfl, rfl, rfl, by decide +kernel, rfl, by decide +kernel, by decide +kernel⟩
theorem cf_is_whole {f : Addr} {fd : FuncData} (T : Txt K mg V) (gd : Good V K) (Df : Fun K "is_whole" "is_whole" s_is_whole f fd) (hm : mg "is_whole" = some (.ref f)) (hb : Binds K fd ["value"] []) : CF P w K mg base 1 "is_whole" (F_is_whole V).F := by
  refine cf_of Df hm hb sc_is_whole (fun B ds C X h => h.1) fun cdv A outer s H E hr => ?_
  refine ⟨_, (pss_one (ps_ret (pe_and (pe_callB (cr_isiK (K := K)) (by rfl) T.b_isinstance PyProof.Rows.boot_isinstance (pa_cons (pv 0) (pa_cons (pe_bltn (v := .ty "int") (by rfl) T.b_int PyProof.Rows.boot_int rfl) pa_nil))) (pe_one (pe_not (pe_callB (cr_isiK (K := K)) (by rfl) T.b_isinstance PyProof.Rows.boot_isinstance (pa_cons (pv 0) (pa_cons (pe_bltn (v := .ty "bool") (by rfl) T.b_bool PyProof.Rows.boot_bool rfl) pa_nil)))))))), ?_⟩
  intro Γ ds C hF
  exact body0 (n := 1) (m := 1) (s := (X_is_whole V)) gd (N := N_is_whole) rfl Γ ds C hF
abbrev s_is_within : Stmt := topS 11
abbrev N_is_within : List Str := ["value", "least", "most"]
theorem sc_is_within : FnScope N_is_within ["value", "least", "most"] (defScope s_is_within) := ⟨rfl, rfl, rfl, by decide +kernel, rfl, by decide +kernel, by decide +kernel⟩
theorem cf_is_within {f : Addr} {fd : FuncData} (T : Txt K mg V) (gd : Good V K) (f_is_whole : CF P w K mg base 1 "is_whole" (F_is_whole V).F) (Df : Fun K "is_within" "is_within" s_is_within f fd) (hm : mg "is_within" = some (.ref f)) (hb : Binds K fd ["value", "least", "most"] []) : CF P w K mg base 2 "is_within" (F_is_within V).F := by
  refine cf_of Df hm hb sc_is_within (fun B ds C X h => h.1) fun cdv A outer s H E hr => ?_
  refine ⟨_, (pss_one (ps_ret (pe_and (pe_f f_is_whole hr (by decide) (by rfl) (pa_cons (pv 0) pa_nil)) (pe_one (pe_chain op_le op_le (pv 1) (pv 0) (pv 2)))))), ?_⟩
  intro Γ ds C hF
  exact body0 (n := 3) (m := 3) (s := (X_is_within V)) gd (N := N_is_within) rfl Γ ds C hF
abbrev s_check_within : Stmt := topS 14
abbrev N_check_within : List Str := ["value", "least", "most"]
theorem sc_check_within : FnScope N_check_within ["value", "least", "most"] (defScope s_check_within) := ⟨rfl, rfl, rfl, by decide +kernel, rfl, by decide +kernel, by decide +kernel⟩
theorem cf_check_within {f : Addr} {fd : FuncData} (T : Txt K mg V) (gd : Good V K) (f_is_within : CF P w K mg base 2 "is_within" (F_is_within V).F) (Df : Fun K "check_within" "check_within" s_check_within f fd) (hm : mg "check_within" = some (.ref f)) (hb : Binds K fd ["value", "least", "most"] []) : CFX P w K mg base 3 "check_within" (F_check_within V).F := by
  refine cfx_of Df hm hb sc_check_within (fun B ds C X h => h.1) fun cdv A outer s H E hr => ?_
  refine ⟨_, (pss_one (ps_if (pt_not (pt_val (pe_f f_is_within hr (by decide) (by rfl) (pa_cons (pv 0) (pa_cons (pv 1) (pa_cons (pv 2) pa_nil)))) (fun _ => rfl))) (pss_one (ps_raise1 rfl (takes_of rfl rfl rfl rfl) T.x_InvalidNumber hr (pa_cons (pv 0) pa_nil) (by rfl))) pss_nil)), ?_⟩
  intro Γ ds C hE hF
  subst hE
  exact body0 (n := 3) (m := 3) (s := (X_check_within V)) gd (N := N_check_within) rfl Γ ds C hF
abbrev s_is_entry : Stmt := topS 12
abbrev N_is_entry : List Str := ["value"]
theorem sc_is_entry : FnScope N_is_entry ["value"] (defScope s_is_entry) := ⟨rfl, rfl, rfl, by decide +kernel, rfl, by decide +kernel, by decide +kernel⟩
theorem cf_is_entry {f : Addr} {fd : FuncData} (T : Txt K mg V) (gd : Good V K) (f_is_whole : CF P w K mg base 1 "is_whole" (F_is_whole V).F) (Df : Fun K "is_entry" "is_entry" s_is_entry f fd) (hm : mg "is_entry" = some (.ref f)) (hb : Binds K fd ["value"] []) : CF P w K mg base 2 "is_entry" (F_is_entry V).F := by
  refine cf_of Df hm hb sc_is_entry (fun B ds C X h => h.1) fun cdv A outer s H E hr => ?_
  refine ⟨_, (pss_one (ps_ret (pe_and (pe_f f_is_whole hr (by decide) (by rfl) (pa_cons (pv 0) pa_nil)) (pe_one (pe_chain op_le op_lt pe_int (pv 0) (pe_op op_powW pe_int pe_int)))))), ?_⟩
  intro Γ ds C hF
  exact body0 (n := 1) (m := 1) (s := (X_is_entry V)) gd (N := N_is_entry) rfl Γ ds C hF
abbrev s_is_row : Stmt := topS 17
abbrev N_is_row : List Str := ["value", "entry"]
theorem sc_is_row : FnScope N_is_row ["value"] (defScope s_is_row) := ⟨rfl, rfl, rfl, by decide +kernel, rfl, by decide +kernel, by decide +kernel⟩
theorem cf_is_row {f : Addr} {fd : FuncData} (T : Txt K mg V) (gd : Good V K) (f_is_entry : CF P w K mg base 2 "is_entry" (F_is_entry V).F) (Df : Fun K "is_row" "is_row" s_is_row f fd) (hm : mg "is_row" = some (.ref f)) (hb : Binds K fd ["value"] []) : CF P w K mg base 3 "is_row" (F_is_row V).F := by
  refine cf_of Df hm hb sc_is_row (fun B ds C X h => h.1) fun cdv A outer s H E hr => ?_
  refine ⟨_, (pss_cons (ps_if (PW.pt (pw_or (pt_not (pt_val (pe_callB (cr_isiK (K := K)) (by rfl) T.b_isinstance PyProof.Rows.boot_isinstance (pa_cons (pv 0) (pa_cons (pe_bltn (v := .ty "tuple") (by rfl) T.b_tuple PyProof.Rows.boot_tuple rfl) pa_nil))) (fun _ => rfl))) (pw_or1 (pt_not (pt_chain op_le op_le pe_int (pe_callB (cr_lenK (K := K)) (by rfl) T.b_len PySem.boot_len (pa_cons (pv 0) pa_nil)) (C8.pe_gc (by rfl) T.k_MAX_LENGTH)))))) (pss_one (ps_ret pe_bl)) pss_nil)
      (pss_one (ps_ret (pe_callB (cr_allK (K := K) rfl) (by rfl) T.b_all PyProof.Rows.boot_all (pa_cons (pe_lc (own := [("entry", 1)])  rfl sc_is_row.nd  (pi_seqK (K := K) (pv 0)) (blkOk_by (N := N_is_row) (sc := defScope s_is_row) (by decide +kernel)) (fun _ _ _ _ _ => (pg_name (i := 1) sc_is_row.nd rfl (Or.inl rfl))) (fun _ _ _ _ _ => pts_nil) (fun _ _ _ _ _ => (pe_f f_is_entry hr (by decide) (by rfl) (pa_cons (pv 1) pa_nil)))) pa_nil))))), ?_⟩
  intro Γ ds C hF
  exact body0 (n := 1) (m := 2) (s := (X_is_row V)) gd (N := N_is_row) rfl Γ ds C hF
abbrev s_check_row : Stmt := topS 18
abbrev N_check_row : List Str := ["value"]
theorem sc_check_row : FnScope N_check_row ["value"] (defScope s_check_row) := ⟨rfl, rfl, rfl, by decide +kernel, rfl, by decide +kernel, by decide +kernel⟩
theorem cf_check_row {f : Addr} {fd : FuncData} (T : Txt K mg V) (gd : Good V K) (f_is_row : CF P w K mg base 3 "is_row" (F_is_row V).F) (Df : Fun K "check_row" "check_row" s_check_row f fd) (hm : mg "check_row" = some (.ref f)) (hb : Binds K fd ["value"] []) : CFX P w K mg base 4 "check_row" (F_check_row V).F := by
  refine cfx_of Df hm hb sc_check_row (fun B ds C X h => h.1) fun cdv A outer s H E hr => ?_
  refine ⟨_, (pss_one (ps_if (pt_not (pt_val (pe_f f_is_row hr (by decide) (by rfl) (pa_cons (pv 0) pa_nil)) (fun _ => rfl))) (pss_one (ps_raiseO rfl (takes_of rfl rfl rfl rfl) T.x_InvalidSums (by rfl))) pss_nil)), ?_⟩
  intro Γ ds C hE hF
  subst hE
  exact body0 (n := 1) (m := 1) (s := (X_check_row V)) gd (N := N_check_row) rfl Γ ds C hF
abbrev s_level : Stmt := topS 49
abbrev N_level : List Str := ["row", "index", "cap", "entry"]
theorem sc_level : FnScope N_level ["row", "index", "cap"] (defScope s_level) := ⟨rfl, rfl, rfl, by decide +kernel, rfl, by decide +kernel, by decide +kernel⟩
theorem cf_level {f : Addr} {fd : FuncData} (T : Txt K mg V) (gd : Good V K) (Df : Fun K "level" "level" s_level f fd) (hm : mg "level" = some (.ref f)) (hb : Binds K fd ["row", "index", "cap"] []) : CF P w K mg base 1 "level" (F_level V).F := by
  refine cf_of Df hm hb sc_level (fun B ds C X h => h.1) fun cdv A outer s H E hr => ?_
  refine ⟨_, (pss_one (ps_ret (pe_callTy (cr_tupK (K := K)) (by rfl) T.b_tuple PyProof.Rows.boot_tuple (pa_cons (pe_lc (own := [("entry", 3)])  rfl sc_level.nd  (pi_seqK (K := K) (pv 0)) (blkOk_by (N := N_level) (sc := defScope s_level) (by decide +kernel)) (fun _ _ _ _ _ => (pg_name (i := 3) sc_level.nd rfl (Or.inl rfl))) (fun _ _ _ _ _ => pts_nil) (fun _ _ _ _ _ => (pe_callB (cr_min4K (K := K) rfl) (by rfl) T.b_min PyProof.Rows.boot_min (pa_cons (pv 2) (pa_cons (pe_callB (cr_max4K (K := K) rfl) (by rfl) T.b_max PyProof.Rows.boot_max (pa_cons pe_int (pa_cons (pe_op op_sub (pv 3) (pe_op (op_mulK (K := K)) (pv 2) (pv 1))) pa_nil))) pa_nil))))) pa_nil)))), ?_⟩
  intro Γ ds C hF
  exact body0 (n := 3) (m := 4) (s := (X_level V)) gd (N := N_level) rfl Γ ds C hF
abbrev s_levels : Stmt := topS 50
abbrev N_levels : List Str := ["row", "many", "cap", "index"]
theorem sc_levels : FnScope N_levels ["row", "many", "cap"] (defScope s_levels) := ⟨rfl, rfl, rfl, by decide +kernel, rfl, by decide +kernel, by decide +kernel⟩
theorem cf_levels {f : Addr} {fd : FuncData} (T : Txt K mg V) (gd : Good V K) (f_level : CF P w K mg base 1 "level" (F_level V).F) (Df : Fun K "levels" "levels" s_levels f fd) (hm : mg "levels" = some (.ref f)) (hb : Binds K fd ["row", "many", "cap"] []) : CF P w K mg base 2 "levels" (F_levels V).F := by
  refine cf_of Df hm hb sc_levels (fun B ds C X h => h.1) fun cdv A outer s H E hr => ?_
  refine ⟨_, (pss_one (ps_ret (pe_callTy (cr_tupK (K := K)) (by rfl) T.b_tuple PyProof.Rows.boot_tuple (pa_cons (pe_lc (own := [("index", 3)])  rfl sc_levels.nd  (pi_range1 (by rfl) T.b_range (pa_cons (pv 1) pa_nil)) (blkOk_by (N := N_levels) (sc := defScope s_levels) (by decide +kernel)) (fun _ _ _ _ _ => (pg_name (i := 3) sc_levels.nd rfl (Or.inl rfl))) (fun _ _ _ _ _ => pts_nil) (fun _ _ _ _ _ => (pe_callB (cr_sumK (K := K) rfl) (by rfl) T.b_sum PyProof.Rows.boot_sum (pa_cons (pe_f f_level hr (by decide) (by rfl) (pa_cons (pv 0) (pa_cons (pv 3) (pa_cons (pv 2) pa_nil)))) pa_nil)))) pa_nil)))), ?_⟩
  intro Γ ds C hF
  exact body0 (n := 3) (m := 4) (s := (X_levels V)) gd (N := N_levels) rfl Γ ds C hF
abbrev s_greatest_row : Stmt := topS 54
abbrev N_greatest_row : List Str := ["cap", "columns", "many"]
theorem sc_greatest_row : FnScope N_greatest_row ["cap", "columns", "many"] (defScope s_greatest_row) := ⟨rfl, rfl, rfl, by decide +kernel, rfl, by decide +kernel, by decide +kernel⟩
theorem cf_greatest_row {f : Addr} {fd : FuncData} (T : Txt K mg V) (gd : Good V K) (f_check_within : CFX P w K mg base 3 "check_within" (F_check_within V).F) (f_check_row : CFX P w K mg base 4 "check_row" (F_check_row V).F) (f_levels : CF P w K mg base 2 "levels" (F_levels V).F) (Df : Fun K "greatest_row" "greatest_row" s_greatest_row f fd) (hm : mg "greatest_row" = some (.ref f)) (hb : Binds K fd ["cap", "columns", "many"] []) : CFX P w K mg base 5 "greatest_row" (F_greatest_row V).F := by
  refine cfx_of Df hm hb sc_greatest_row (fun B ds C X h => h.1) fun cdv A outer s H E hr => ?_
  refine ⟨_, (pss_cons (ps_expr (pe_cE (takes_of rfl rfl rfl rfl) (fun _ _ _ _ h => h) f_check_within hr (by decide) (by rfl) (pa_cons (pv 0) (pa_cons pe_int (pa_cons (C8.pe_gc (by rfl) T.k_MAX_CAP) pa_nil)))))
      (pss_cons (ps_expr (pe_cE (takes_of rfl rfl rfl rfl) (fun _ _ _ _ h => h) f_check_row hr (by decide) (by rfl) (pa_cons (pv 1) pa_nil)))
      (pss_cons (ps_expr (pe_cE (takes_of rfl rfl rfl rfl) (fun _ _ _ _ h => h) f_check_within hr (by decide) (by rfl) (pa_cons (pv 2) (pa_cons pe_int (pa_cons (C8.pe_gc (by rfl) T.k_MAX_LENGTH) pa_nil)))))
      (pss_one (ps_ret (pe_f f_levels hr (by decide) (by rfl) (pa_cons (pv 1) (pa_cons (pv 2) (pa_cons (pv 0) pa_nil))))))))), ?_⟩
  intro Γ ds C hE hF
  subst hE
  exact body0 (n := 3) (m := 3) (s := (X_greatest_row V)) gd (N := N_greatest_row) rfl Γ ds C hF
abbrev s__are_table : Stmt := topS 40
abbrev N__are_table : List Str := ["cap", "lines", "cells", "number"]
theorem sc__are_table : FnScope N__are_table ["cap", "lines"] (defScope s__are_table) := ⟨rfl, rfl, rfl, by decide +kernel, rfl, by decide +kernel, by decide +kernel⟩
theorem cf__are_table {f : Addr} {fd : FuncData} (T : Txt K mg V) (gd : Good V K) (f_is_within : CF P w K mg base 2 "is_within" (F_is_within V).F) (Df : Fun K "_are_table" "_are_table" s__are_table f fd) (hm : mg "_are_table" = some (.ref f)) (hb : Binds K fd ["cap", "lines"] []) : CF P w K mg base 3 "_are_table" (F__are_table V).F := by
  refine cf_of Df hm hb sc__are_table (fun B ds C X h => h.1) fun cdv A outer s H E hr => ?_
  refine ⟨_, (pss_cons (ps_if (PW.pt (pw_or (pt_not (pt_val (pe_f f_is_within hr (by decide) (by rfl) (pa_cons (pv 0) (pa_cons pe_int (pa_cons (C8.pe_gc (by rfl) T.k_MAX_CAP) pa_nil)))) (fun _ => rfl))) (pw_or1 (pt_not (pt_chain op_le op_le pe_int (pe_callB (cr_lenK (K := K)) (by rfl) T.b_len PySem.boot_len (pa_cons (pv 1) pa_nil)) (C8.pe_gc (by rfl) T.k_MAX_LINES)))))) (pss_one (ps_ret pe_bl)) pss_nil)
      (pss_cons (ps_if (pt_not (pt_val (pe_callB (cr_allK (K := K) rfl) (by rfl) T.b_all PyProof.Rows.boot_all (pa_cons (pe_lc (own := [("cells", 2)])  rfl sc__are_table.nd  (pi_seqK (K := K) (pv 1)) (blkOk_by (N := N__are_table) (sc := defScope s__are_table) (by decide +kernel)) (fun _ _ _ _ _ => (pg_name (i := 2) sc__are_table.nd rfl (Or.inl rfl))) (fun _ _ _ _ _ => pts_nil) (fun _ _ _ _ _ => (pe_and (pe_callB (cr_isiK (K := K)) (by rfl) T.b_isinstance PyProof.Rows.boot_isinstance (pa_cons (pv 2) (pa_cons (pe_bltn (v := .ty "tuple") (by rfl) T.b_tuple PyProof.Rows.boot_tuple rfl) pa_nil))) (pe_one (pe_chain op_le op_le pe_int (pe_callB (cr_lenK (K := K)) (by rfl) T.b_len PySem.boot_len (pa_cons (pv 2) pa_nil)) (C8.pe_gc (by rfl) T.k_MAX_LINES)))))) pa_nil)) (fun _ => rfl))) (pss_one (ps_ret pe_bl)) pss_nil)
      (pss_cons (ps_if (pt_not (pt_val (pe_callB (cr_allK (K := K) rfl) (by rfl) T.b_all PyProof.Rows.boot_all (pa_cons (pe_lc (own := [("cells", 2)])  rfl sc__are_table.nd  (pi_seqK (K := K) (pv 1)) (blkOk_by (N := N__are_table) (sc := defScope s__are_table) (by decide +kernel)) (fun _ _ _ _ _ => (pg_name (i := 2) sc__are_table.nd rfl (Or.inl rfl))) (fun _ _ _ _ _ => pts_nil) (fun _ _ _ _ _ => (pe_cmpR (op_eqK (K := K) hr.units) (pe_callB (cr_lenK (K := K)) (by rfl) T.b_len PySem.boot_len (pa_cons (pv 2) pa_nil)) (pe_callB (cr_lenK (K := K)) (by rfl) T.b_len PySem.boot_len (pa_cons (pe_ix (ix_seqK (K := K)) (pv 1) pe_int (fun _ _ => rfl)) pa_nil)) (nomark _)))) pa_nil)) (fun _ => rfl))) (pss_one (ps_ret pe_bl)) pss_nil)
      (pss_one (ps_ret (pe_callB (cr_allK (K := K) rfl) (by rfl) T.b_all PyProof.Rows.boot_all (pa_cons (pe_lc2 (own := [("number", 3), ("cells", 2)]) (vs1 := [3]) rfl sc__are_table.nd (pi_seqK (K := K) (pv 1)) (blkOk_by (N := N__are_table) (sc := defScope s__are_table) (by decide +kernel)) (by decide) (fun _ _ _ _ _ => (pg_name (i := 2) sc__are_table.nd rfl (Or.inl rfl))) (fun _ _ _ _ _ => pts_nil) (fun _ _ _ _ _ => (pi_seqK (K := K) (pv 2))) (fun _ _ _ _ _ => (pg_name (i := 3) sc__are_table.nd rfl (Or.inl rfl))) (fun _ _ _ _ _ => pts_nil) (fun _ _ _ _ _ => (pe_f f_is_within hr (by decide) (by rfl) (pa_cons (pv 3) (pa_cons pe_int (pa_cons (pv 0) pa_nil)))))) pa_nil))))))), ?_⟩
  intro Γ ds C hF
  exact body0 (n := 2) (m := 4) (s := (X__are_table V)) gd (N := N__are_table) rfl Γ ds C hF
abbrev s_Table___init__ : Stmt := inClass (topS 32) 0
abbrev N_Table___init__ : List Str := ["self", "cap", "lines"]
theorem sc_Table___init__ : FnScope N_Table___init__ ["self", "cap", "lines"] (defScope s_Table___init__) := ⟨rfl, rfl, rfl, by decide +kernel, rfl, by decide +kernel, by decide +kernel⟩
theorem cf_Table___init__ (T : Txt K mg V) (gd : Good V K) (f__are_table : CF P w K mg base 3 "_are_table" (F__are_table V).F) (Df : InitF K mg "Table" "Table.__init__" s_Table___init__ (V.cls .cTable)) : MakX P w K mg base 4 "Table" (V.cls .cTable) (spI K (V.cls .cTable) (F_Table___init__ V).F) := by
  refine init_ofS (n := 1) (ps := ["self", "cap"]) (FI := (xi 2 3 (X_Table___init__ V)).F) Df rfl (fun _ _ _ _ _ _ us rest hl => match us, rest, hl with | [_, _], [], _ => rfl | [_, _], _ :: _, _ => rfl) sc_Table___init__ fun f cdv A outer s H E hr => ?_
  refine ⟨_, (pss_cons (ps_if (pt_not (pt_val (pe_f f__are_table hr (by decide) (by rfl) (pa_cons (pv 1) (pa_cons (pv 2) pa_nil))) (fun _ => rfl))) (pss_one (ps_raiseO rfl (takes_of rfl rfl rfl rfl) T.x_InvalidTable (by rfl))) pss_nil)
      (pss_cons (ps_fldC T.cl_Table T.na_Table__cap (pv 0) (pv 1))
      (pss_one (ps_fldC T.cl_Table T.na_Table__lines (pv 0) (pv 2))))), ?_⟩
  intro Γ x dx ds C hx hd hE hF
  subst hE
  exact xi_ok gd hx hd hF
abbrev s_Table_of : Stmt := inClass (topS 32) 1
abbrev N_Table_of : List Str := ["cls", "cap", "lines"]
theorem sc_Table_of : FnScope N_Table_of ["cls", "cap", "lines"] (defScope s_Table_of) := ⟨rfl, rfl, rfl, by decide +kernel, rfl, by decide +kernel, by decide +kernel⟩
theorem cf_Table_of (T : Txt K mg V) (gd : Good V K) (f_Table___init__ : MakX P w K mg base 4 "Table" (V.cls .cTable) (spI K (V.cls .cTable) (F_Table___init__ V).F)) (Df : ClmF K "of" "Table.of" s_Table_of (V.cls .cTable)) : ClmX P w K mg base 6 (V.cls .cTable) "of" (spF K (F_Table_of V).F) := by
  refine clm_of (ps := ["cls", "cap", "lines"]) Df (fun _ _ _ _ _ _ us hl => match us, hl with | [_, _, _], _ => rfl) sc_Table_of (fun B ds C X h => h.1) fun f cdv A outer s H E hr => ?_
  refine ⟨_, (pss_cons (ps_if (pt_not (pt_val (pe_callB (cr_isiK (K := K)) (by rfl) T.b_isinstance PyProof.Rows.boot_isinstance (pa_cons (pv 2) (pa_cons (pe_bltn (v := .ty "tuple") (by rfl) T.b_tuple PyProof.Rows.boot_tuple rfl) pa_nil))) (fun _ => rfl))) (pss_one (ps_raiseO rfl (takes_of rfl rfl rfl rfl) T.x_InvalidTable (by rfl))) pss_nil)
      (pss_one (ps_ret (pe_vm2E (takes_of rfl rfl rfl rfl) (fun _ _ _ _ h => h) f_Table___init__ hr (by decide) (pv 0) (pa_cons (pv 1) (StX.pa_star (pv 2) pa_nil)))))), ?_⟩
  intro Γ ds C hE hF
  subst hE
  exact body0 (n := 3) (m := 3) (s := X_Table_of V) gd (N := N_Table_of) rfl Γ ds C hF
abbrev s_filled_table : Stmt := topS 55
abbrev N_filled_table : List Str := ["cap", "columns", "many", "line"]
theorem sc_filled_table : FnScope N_filled_table ["cap", "columns", "many"] (defScope s_filled_table) := ⟨rfl, rfl, rfl, by decide +kernel, rfl, by decide +kernel, by decide +kernel⟩
theorem cf_filled_table {f : Addr} {fd : FuncData} (T : Txt K mg V) (gd : Good V K) (f_check_within : CFX P w K mg base 3 "check_within" (F_check_within V).F) (f_check_row : CFX P w K mg base 4 "check_row" (F_check_row V).F) (f_Table_of : ClmX P w K mg base 6 (V.cls .cTable) "of" (spF K (F_Table_of V).F)) (f_level : CF P w K mg base 1 "level" (F_level V).F) (Df : Fun K "filled_table" "filled_table" s_filled_table f fd) (hm : mg "filled_table" = some (.ref f)) (hb : Binds K fd ["cap", "columns", "many"] []) : CFX P w K mg base 8 "filled_table" (F_filled_table_2 V).F := by
  refine cfx_of Df hm hb sc_filled_table (fun B ds C X h => h.1) fun cdv A outer s H E hr => ?_
  refine ⟨_, (pss_cons (ps_expr (pe_cE (takes_of rfl rfl rfl rfl) (fun _ _ _ _ h => h) f_check_within hr (by decide) (by rfl) (pa_cons (pv 0) (pa_cons pe_int (pa_cons (C8.pe_gc (by rfl) T.k_MAX_CAP) pa_nil)))))
      (pss_cons (ps_expr (pe_cE (takes_of rfl rfl rfl rfl) (fun _ _ _ _ h => h) f_check_row hr (by decide) (by rfl) (pa_cons (pv 1) pa_nil)))
      (pss_cons (ps_if (pt_cmpR op_gt (pe_callB (cr_lenK (K := K)) (by rfl) T.b_len PySem.boot_len (pa_cons (pv 1) pa_nil)) (C8.pe_gc (by rfl) T.k_MAX_LINES) (nomark _)) (pss_one (ps_raiseO rfl (takes_of rfl rfl rfl rfl) T.x_InvalidSums (by rfl))) pss_nil)
      (pss_cons (ps_expr (pe_cE (takes_of rfl rfl rfl rfl) (fun _ _ _ _ h => h) f_check_within hr (by decide) (by rfl) (pa_cons (pv 2) (pa_cons pe_int (pa_cons (C8.pe_gc (by rfl) T.k_MAX_LINES) pa_nil)))))
      (pss_cons (ps_if (pt_cmpR op_gt (pe_callB (cr_max4K (K := K) rfl) (by rfl) T.b_max PyProof.Rows.boot_max (pa_cons (pv 1) pa_nil)) (pe_op (op_mulK (K := K)) (pv 0) (pv 2)) (nomark _)) (pss_one (ps_raiseO rfl (takes_of rfl rfl rfl rfl) T.x_InvalidOperation (by rfl))) pss_nil)
      (pss_one (ps_ret (pe_clmE (takes_of rfl rfl rfl rfl) (fun _ _ _ _ h => h) f_Table_of hr (by decide) (C8.pe_gc (v := .ref (V.cls .cTable)) (by rfl) ⟨_, T.c_Table, rfl⟩) (pa_cons (pv 0) (pa_cons (pe_callTy (cr_tupK (K := K)) (by rfl) T.b_tuple PyProof.Rows.boot_tuple (pa_cons (pe_lc (own := [("line", 3)])  rfl sc_filled_table.nd  (pi_range1 (by rfl) T.b_range (pa_cons (pv 2) pa_nil)) (blkOk_by (N := N_filled_table) (sc := defScope s_filled_table) (by decide +kernel)) (fun _ _ _ _ _ => (pg_name (i := 3) sc_filled_table.nd rfl (Or.inl rfl))) (fun _ _ _ _ _ => pts_nil) (fun _ _ _ _ _ => (pe_f f_level hr (by decide) (by rfl) (pa_cons (pv 1) (pa_cons (pv 3) (pa_cons (pv 0) pa_nil)))))) pa_nil)) pa_nil)))))))))), ?_⟩
  intro Γ ds C hE hF
  subst hE
  exact body0 (n := 3) (m := 4) (s := (X_filled_table_2 V)) gd (N := N_filled_table) rfl Γ ds C hF
abbrev s__law_met : Stmt := topS 77
abbrev N__law_met : List Str := ["_law_call", "e"]
theorem sc__law_met : FnScope N__law_met ["_law_call"] (defScope s__law_met) := ⟨rfl, rfl, rfl, by decide +kernel, rfl, by decide +kernel, by decide +kernel⟩
theorem gives__law_met (V : Ve) {X : Cx} {g : Addr} {cdg : Value} {q : Str} (T : Txt X.K X.mg V) (hu : X.A.guards = some []) (hr : Room 1 X.A) :
    LamX.GivesTo X N__law_met "_law_met" (defScope s__law_met) g cdg (defBody s__law_met) "_law_call" q (tOut (outsF X.K 2 .non (clsU V X.K cl__law_met))) := by
  have hun : X.A.units + 3 + 200 < cLine := by have := hr.un; omega
  refine gives_tryF sc__law_met.nd (fun f => rfl) (fun s H => ?_)
  exact (.bare ⟨rfl, by decide, .inl T.x_InvalidSums.gC⟩ (fun a oe cls d pn hz hf => pss_one (ps_ret pe_str))
    (.bare ⟨rfl, by decide, .inl T.x_InvalidTable.gC⟩ (fun a oe cls d pn hz hf => pss_one (ps_ret pe_str))
    (.bare ⟨rfl, by decide, .inl T.x_InvalidWeb.gC⟩ (fun a oe cls d pn hz hf => pss_one (ps_ret pe_str))
    (.bare ⟨rfl, by decide, .inl T.x_InvalidTournament.gC⟩ (fun a oe cls d pn hz hf => pss_one (ps_ret pe_str))
    (.bare ⟨rfl, by decide, .inl T.x_InvalidOperation.gC⟩ (fun a oe cls d pn hz hf => pss_one (ps_ret pe_str))
    (.named ⟨rfl, by decide, .inl (ownX_gC T.x_InvalidNumber)⟩ rfl rfl (fun a oe cls d pn hz hf => pss_one (ps_ret (pe_op (op_addK (K := X.K)) pe_str (pe_callB (cr_reprUK (K := X.K) hu hun) (by rfl) T.b_repr PyProof.Rows.bootS_repr (pa_cons (pe_by1 T.x_InvalidNumber hz hf (pv 1)) pa_nil)))))
    .nil))))))
abbrev s_check_rows : Stmt := topS 19
abbrev N_check_rows : List Str := ["one", "other"]
theorem sc_check_rows : FnScope N_check_rows ["one", "other"] (defScope s_check_rows) := ⟨rfl, rfl, rfl, by decide +kernel, rfl, by decide +kernel, by decide +kernel⟩
theorem cf_check_rows {f : Addr} {fd : FuncData} (T : Txt K mg V) (gd : Good V K) (f_check_row : CFX P w K mg base 4 "check_row" (F_check_row V).F) (Df : Fun K "check_rows" "check_rows" s_check_rows f fd) (hm : mg "check_rows" = some (.ref f)) (hb : Binds K fd ["one", "other"] []) : CFX P w K mg base 5 "check_rows" (F_check_rows V).F := by
  refine cfx_of Df hm hb sc_check_rows (fun B ds C X h => h.1) fun cdv A outer s H E hr => ?_
  refine ⟨_, (pss_cons (ps_expr (pe_cE (takes_of rfl rfl rfl rfl) (fun _ _ _ _ h => h) f_check_row hr (by decide) (by rfl) (pa_cons (pv 0) pa_nil)))
      (pss_one (ps_expr (pe_cE (takes_of rfl rfl rfl rfl) (fun _ _ _ _ h => h) f_check_row hr (by decide) (by rfl) (pa_cons (pv 1) pa_nil))))), ?_⟩
  intro Γ ds C hE hF
  subst hE
  exact body0 (n := 2) (m := 2) (s := (X_check_rows V)) gd (N := N_check_rows) rfl Γ ds C hF
abbrev s_descending : Stmt := topS 21
abbrev N_descending : List Str := ["row"]
theorem sc_descending : FnScope N_descending ["row"] (defScope s_descending) := ⟨rfl, rfl, rfl, by decide +kernel, rfl, by decide +kernel, by decide +kernel⟩
theorem cf_descending {f : Addr} {fd : FuncData} (T : Txt K mg V) (gd : Good V K) (Df : Fun K "descending" "descending" s_descending f fd) (hm : mg "descending" = some (.ref f)) (hb : Binds K fd ["row"] []) : CF P w K mg base 1 "descending" (F_descending V).F := by
  refine cf_of Df hm hb sc_descending (fun B ds C X h => h.1) fun cdv A outer s H E hr => ?_
  refine ⟨_, (pss_one (ps_ret (pe_callTy (cr_tupK (K := K)) (by rfl) T.b_tuple PyProof.Rows.boot_tuple (pa_cons (pe_callBK (cr_srtRK (K := K)) (by rfl) T.b_sorted PyProof.Rows.boot_sorted (pa_cons (pv 0) pa_nil) (pk_cons pe_bl pk_nil)) pa_nil)))), ?_⟩
  intro Γ ds C hF
  exact body0 (n := 1) (m := 1) (s := (X_descending V)) gd (N := N_descending) rfl Γ ds C hF
abbrev s_sums_so_far : Stmt := topS 24
abbrev N_sums_so_far : List Str := ["entries", "sums", "total", "entry"]
theorem sc_sums_so_far : FnScope N_sums_so_far ["entries"] (defScope s_sums_so_far) := ⟨rfl, rfl, rfl, by decide +kernel, rfl, by decide +kernel, by decide +kernel⟩
theorem cf_sums_so_far {f : Addr} {fd : FuncData} (T : Txt K mg V) (gd : Good V K) (Df : Fun K "sums_so_far" "sums_so_far" s_sums_so_far f fd) (hm : mg "sums_so_far" = some (.ref f)) (hb : Binds K fd ["entries"] []) : CF P w K mg base 1 "sums_so_far" (F_sums_so_far V).F := by
  refine cf_of Df hm hb sc_sums_so_far (fun B ds C X h => h.1) fun cdv A outer s H E hr => ?_
  refine ⟨_, (pss_cons (ps_set (i := 1) sc_sums_so_far.nd rfl (Or.inl rfl) (pe_lst pa_nil))
      (pss_cons (ps_set (i := 2) sc_sums_so_far.nd rfl (Or.inl rfl) pe_int)
      (pss_cons (ps_for PassesOwn.never rfl (pi_seqK (K := K) (pv 0)) (pg_name (i := 3) sc_sums_so_far.nd rfl (Or.inl rfl)) (pss_cons (ps_aug (i := 2) sc_sums_so_far.nd rfl (Or.inl rfl) (pv 3) ip_add)
      (pss_one (ps_expr (pe_bm PySem.F.plainAttrs_list PySem.F.slot_list_append PySem.F.type_list_append mt_append (pv 1) (pa_cons (pv 2) pa_nil))))))
      (pss_one (ps_ret (pe_callTy (cr_tupK (K := K)) (by rfl) T.b_tuple PyProof.Rows.boot_tuple (pa_cons (pv 1) pa_nil))))))), ?_⟩
  intro Γ ds C hF
  exact body0 (n := 1) (m := 4) (s := (X_sums_so_far V)) gd (N := N_sums_so_far) rfl Γ ds C hF
abbrev s_prefix_sums : Stmt := topS 25
abbrev N_prefix_sums : List Str := ["row"]
theorem sc_prefix_sums : FnScope N_prefix_sums ["row"] (defScope s_prefix_sums) := ⟨rfl, rfl, rfl, by decide +kernel, rfl, by decide +kernel, by decide +kernel⟩
theorem cf_prefix_sums {f : Addr} {fd : FuncData} (T : Txt K mg V) (gd : Good V K) (f_check_row : CFX P w K mg base 4 "check_row" (F_check_row V).F) (f_descending : CF P w K mg base 1 "descending" (F_descending V).F) (f_sums_so_far : CF P w K mg base 1 "sums_so_far" (F_sums_so_far V).F) (Df : Fun K "prefix_sums" "prefix_sums" s_prefix_sums f fd) (hm : mg "prefix_sums" = some (.ref f)) (hb : Binds K fd ["row"] []) : CFX P w K mg base 5 "prefix_sums" (F_prefix_sums V).F := by
  refine cfx_of Df hm hb sc_prefix_sums (fun B ds C X h => h.1) fun cdv A outer s H E hr => ?_
  refine ⟨_, (pss_cons (ps_expr (pe_cE (takes_of rfl rfl rfl rfl) (fun _ _ _ _ h => h) f_check_row hr (by decide) (by rfl) (pa_cons (pv 0) pa_nil)))
      (pss_one (ps_ret (pe_f f_sums_so_far hr (by decide) (by rfl) (pa_cons (pe_f f_descending hr (by decide) (by rfl) (pa_cons (pv 0) pa_nil)) pa_nil))))), ?_⟩
  intro Γ ds C hE hF
  subst hE
  exact body0 (n := 1) (m := 1) (s := (X_prefix_sums V)) gd (N := N_prefix_sums) rfl Γ ds C hF
abbrev s_room : Stmt := topS 53
abbrev N_room : List Str := ["cap", "many", "columns", "number"]
theorem sc_room : FnScope N_room ["cap", "many", "columns"] (defScope s_room) := ⟨rfl, rfl, rfl, by decide +kernel, rfl, by decide +kernel, by decide +kernel⟩
theorem cf_room {f : Addr} {fd : FuncData} (T : Txt K mg V) (gd : Good V K) (Df : Fun K "room" "room" s_room f fd) (hm : mg "room" = some (.ref f)) (hb : Binds K fd ["cap", "many", "columns"] []) : CF P w K mg base 1 "room" (F_room V).F := by
  refine cf_of Df hm hb sc_room (fun B ds C X h => h.1) fun cdv A outer s H E hr => ?_
  refine ⟨_, (pss_one (ps_ret (pe_callB (cr_sumK (K := K) rfl) (by rfl) T.b_sum PyProof.Rows.boot_sum (pa_cons (pe_lc (own := [("number", 3)])  rfl sc_room.nd  (pi_seqK (K := K) (pv 2)) (blkOk_by (N := N_room) (sc := defScope s_room) (by decide +kernel)) (fun _ _ _ _ _ => (pg_name (i := 3) sc_room.nd rfl (Or.inl rfl))) (fun _ _ _ _ _ => pts_nil) (fun _ _ _ _ _ => (pe_callB (cr_min4K (K := K) rfl) (by rfl) T.b_min PyProof.Rows.boot_min (pa_cons (pe_op (op_mulK (K := K)) (pv 0) (pv 1)) (pa_cons (pv 3) pa_nil))))) pa_nil)))), ?_⟩
  intro Γ ds C hF
  exact body0 (n := 3) (m := 4) (s := (X_room V)) gd (N := N_room) rfl Γ ds C hF
abbrev s__fewest_barring : Stmt := topS 60
abbrev N__fewest_barring : List Str := ["cap", "lines", "columns", "index", "total"]
theorem sc__fewest_barring : FnScope N__fewest_barring ["cap", "lines", "columns"] (defScope s__fewest_barring) := ⟨rfl, rfl, rfl, by decide +kernel, rfl, by decide +kernel, by decide +kernel⟩
theorem cf__fewest_barring {f : Addr} {fd : FuncData} (T : Txt K mg V) (gd : Good V K) (f_prefix_sums : CFX P w K mg base 5 "prefix_sums" (F_prefix_sums V).F) (f_room : CF P w K mg base 1 "room" (F_room V).F) (Df : Fun K "_fewest_barring" "_fewest_barring" s__fewest_barring f fd) (hm : mg "_fewest_barring" = some (.ref f)) (hb : Binds K fd ["cap", "lines", "columns"] []) : CFX P w K mg base 6 "_fewest_barring" (F__fewest_barring V).F := by
  refine cfx_of Df hm hb sc__fewest_barring (fun B ds C X h => h.1) fun cdv A outer s H E hr => ?_
  refine ⟨_, (pss_cons (ps_for (passes_of rfl) rfl (pi_enumTK (K := K) (by rfl) T.b_enumerate (pa_cons (pe_cE (takes_of rfl rfl rfl rfl) (fun _ _ _ _ h => h) f_prefix_sums hr (by decide) (by rfl) (pa_cons (pv 1) pa_nil)) pa_nil)) (pg_seqK (K := K) (n := 2) rfl (pgs_cons (pg_name (i := 3) sc__fewest_barring.nd rfl (Or.inl rfl)) (pgs_cons (pg_name (i := 4) sc__fewest_barring.nd rfl (Or.inl rfl)) pgs_nil))) (pss_one (ps_if (pt_cmpR op_gt (pv 4) (pe_f f_room hr (by decide) (by rfl) (pa_cons (pv 0) (pa_cons (pe_op (op_addK (K := K)) (pv 3) pe_int) (pa_cons (pv 2) pa_nil)))) (nomark _)) (pss_one (ps_ret (pe_op (op_addK (K := K)) (pv 3) pe_int))) pss_nil)))
      (pss_one (ps_ret pe_non))), ?_⟩
  intro Γ ds C hE hF
  subst hE
  exact body0 (n := 3) (m := 5) (s := (X__fewest_barring V)) gd (N := N__fewest_barring) rfl Γ ds C hF
abbrev s_has_table : Stmt := topS 56
abbrev N_has_table : List Str := ["cap", "lines", "columns"]
theorem sc_has_table : FnScope N_has_table ["cap", "lines", "columns"] (defScope s_has_table) := ⟨rfl, rfl, rfl, by decide +kernel, rfl, by decide +kernel, by decide +kernel⟩
theorem cf_has_table {f : Addr} {fd : FuncData} (T : Txt K mg V) (gd : Good V K) (f_check_within : CFX P w K mg base 3 "check_within" (F_check_within V).F) (f_check_rows : CFX P w K mg base 5 "check_rows" (F_check_rows V).F) (f__fewest_barring : CFX P w K mg base 6 "_fewest_barring" (F__fewest_barring V).F) (Df : Fun K "has_table" "has_table" s_has_table f fd) (hm : mg "has_table" = some (.ref f)) (hb : Binds K fd ["cap", "lines", "columns"] []) : CFX P w K mg base 7 "has_table" (F_has_table V).F := by
  refine cfx_of Df hm hb sc_has_table (fun B ds C X h => h.1) fun cdv A outer s H E hr => ?_
  refine ⟨_, (pss_cons (ps_expr (pe_cE (takes_of rfl rfl rfl rfl) (fun _ _ _ _ h => h) f_check_within hr (by decide) (by rfl) (pa_cons (pv 0) (pa_cons pe_int (pa_cons (C8.pe_gc (by rfl) T.k_MAX_CAP) pa_nil)))))
      (pss_cons (ps_expr (pe_cE (takes_of rfl rfl rfl rfl) (fun _ _ _ _ h => h) f_check_rows hr (by decide) (by rfl) (pa_cons (pv 1) (pa_cons (pv 2) pa_nil))))
      (pss_one (ps_ret (pe_and (pe_cmp (pc_isN (pe_cE (takes_of rfl rfl rfl rfl) (fun _ _ _ _ h => h) f__fewest_barring hr (by decide) (by rfl) (pa_cons (pv 0) (pa_cons (pv 1) (pa_cons (pv 2) pa_nil)))))) (pe_one (pe_cmp (pc_isN (pe_cE (takes_of rfl rfl rfl rfl) (fun _ _ _ _ h => h) f__fewest_barring hr (by decide) (by rfl) (pa_cons (pv 0) (pa_cons (pv 2) (pa_cons (pv 1) pa_nil)))))))))))), ?_⟩
  intro Γ ds C hE hF
  subst hE
  exact body0 (n := 3) (m := 3) (s := (X_has_table V)) gd (N := N_has_table) rfl Γ ds C hF
abbrev s_places_by_entry : Stmt := topS 22
abbrev N_places_by_entry : List Str := ["row", "_", "place", "index", "entry"]
theorem sc_places_by_entry : FnScope N_places_by_entry ["row"] (defScope s_places_by_entry) := ⟨rfl, rfl, rfl, by decide +kernel, rfl, by decide +kernel, by decide +kernel⟩
theorem cf_places_by_entry {f : Addr} {fd : FuncData} (T : Txt K mg V) (gd : Good V K) (Df : Fun K "places_by_entry" "places_by_entry" s_places_by_entry f fd) (hm : mg "places_by_entry" = some (.ref f)) (hb : Binds K fd ["row"] []) : CF P w K mg base 1 "places_by_entry" (F_places_by_entry V).F := by
  refine cf_of Df hm hb sc_places_by_entry (fun B ds C X h => h.1) fun cdv A outer s H E hr => ?_
  refine ⟨_, (pss_one (ps_ret (pe_lc (own := [("_", 1), ("place", 2)])  rfl sc_places_by_entry.nd  (pi_seqK (K := K) (pe_callB (cr_srt2K (K := K)) (by rfl) T.b_sorted PyProof.Rows.boot_sorted (pa_cons (pe_lc (own := [("index", 3), ("entry", 4)])  rfl sc_places_by_entry.nd  (pi_enumTK (K := K) (by rfl) T.b_enumerate (pa_cons (pv 0) pa_nil)) (blkOk_by (N := N_places_by_entry) (sc := defScope s_places_by_entry) (by decide +kernel)) (fun _ _ _ _ _ => (pg_seqK (K := K) (n := 2) rfl (pgs_cons (pg_name (i := 3) sc_places_by_entry.nd rfl (Or.inl rfl)) (pgs_cons (pg_name (i := 4) sc_places_by_entry.nd rfl (Or.inl rfl)) pgs_nil)))) (fun _ _ _ _ _ => pts_nil) (fun _ _ _ _ _ => (pe_tup (pa_cons (pe_un un_neg (pv 4)) (pa_cons (pv 3) pa_nil))))) pa_nil))) (blkOk_by (N := N_places_by_entry) (sc := defScope s_places_by_entry) (by decide +kernel)) (fun _ _ _ _ _ => (pg_seqK (K := K) (n := 2) rfl (pgs_cons (pg_name (i := 1) sc_places_by_entry.nd rfl (Or.inl rfl)) (pgs_cons (pg_name (i := 2) sc_places_by_entry.nd rfl (Or.inl rfl)) pgs_nil)))) (fun _ _ _ _ _ => pts_nil) (fun _ _ _ _ _ => (pv 2))))), ?_⟩
  intro Γ ds C hF
  exact body0 (n := 1) (m := 5) (s := (X_places_by_entry V)) gd (N := N_places_by_entry) rfl Γ ds C hF
abbrev s_have_equal_measures : Stmt := topS 20
abbrev N_have_equal_measures : List Str := ["one", "other"]
theorem sc_have_equal_measures : FnScope N_have_equal_measures ["one", "other"] (defScope s_have_equal_measures) := ⟨rfl, rfl, rfl, by decide +kernel, rfl, by decide +kernel, by decide +kernel⟩
theorem cf_have_equal_measures {f : Addr} {fd : FuncData} (T : Txt K mg V) (gd : Good V K) (Df : Fun K "have_equal_measures" "have_equal_measures" s_have_equal_measures f fd) (hm : mg "have_equal_measures" = some (.ref f)) (hb : Binds K fd ["one", "other"] []) : CF P w K mg base 1 "have_equal_measures" (F_have_equal_measures V).F := by
  refine cf_of Df hm hb sc_have_equal_measures (fun B ds C X h => h.1) fun cdv A outer s H E hr => ?_
  refine ⟨_, (pss_one (ps_ret (pe_and (pe_cmpR (op_eqK (K := K) hr.units) (pe_callB (cr_lenK (K := K)) (by rfl) T.b_len PySem.boot_len (pa_cons (pv 0) pa_nil)) (pe_callB (cr_lenK (K := K)) (by rfl) T.b_len PySem.boot_len (pa_cons (pv 1) pa_nil)) (nomark _)) (pe_one (pe_cmpR (op_eqK (K := K) hr.units) (pe_callB (cr_sumK (K := K) rfl) (by rfl) T.b_sum PyProof.Rows.boot_sum (pa_cons (pv 0) pa_nil)) (pe_callB (cr_sumK (K := K) rfl) (by rfl) T.b_sum PyProof.Rows.boot_sum (pa_cons (pv 1) pa_nil)) (nomark _)))))), ?_⟩
  intro Γ ds C hF
  exact body0 (n := 2) (m := 2) (s := (X_have_equal_measures V)) gd (N := N_have_equal_measures) rfl Γ ds C hF
abbrev s__first_bar : Stmt := topS 27
abbrev N__first_bar : List Str := ["one", "other", "index", "lower", "upper"]
theorem sc__first_bar : FnScope N__first_bar ["one", "other"] (defScope s__first_bar) := ⟨rfl, rfl, rfl, by decide +kernel, rfl, by decide +kernel, by decide +kernel⟩
theorem cf__first_bar {f : Addr} {fd : FuncData} (T : Txt K mg V) (gd : Good V K) (f_prefix_sums : CFX P w K mg base 5 "prefix_sums" (F_prefix_sums V).F) (Df : Fun K "_first_bar" "_first_bar" s__first_bar f fd) (hm : mg "_first_bar" = some (.ref f)) (hb : Binds K fd ["one", "other"] []) : CFX P w K mg base 6 "_first_bar" (F__first_bar V).F := by
  refine cfx_of Df hm hb sc__first_bar (fun B ds C X h => h.1) fun cdv A outer s H E hr => ?_
  refine ⟨_, (pss_cons (ps_for (passes_of rfl) rfl (pi_enumZipK (K := K) (by rfl) T.b_enumerate (by rfl) T.b_zip (pa_cons (pe_cE (takes_of rfl rfl rfl rfl) (fun _ _ _ _ h => h) f_prefix_sums hr (by decide) (by rfl) (pa_cons (pv 0) pa_nil)) (pa_cons (pe_cE (takes_of rfl rfl rfl rfl) (fun _ _ _ _ h => h) f_prefix_sums hr (by decide) (by rfl) (pa_cons (pv 1) pa_nil)) pa_nil))) (pg_seqK (K := K) (n := 2) rfl (pgs_cons (pg_name (i := 2) sc__first_bar.nd rfl (Or.inl rfl)) (pgs_cons (pg_seqK (K := K) (n := 2) rfl (pgs_cons (pg_name (i := 3) sc__first_bar.nd rfl (Or.inl rfl)) (pgs_cons (pg_name (i := 4) sc__first_bar.nd rfl (Or.inl rfl)) pgs_nil))) pgs_nil))) (pss_one (ps_if (pt_cmpR op_gt (pv 3) (pv 4) (nomark _)) (pss_one (ps_ret (pe_op (op_addK (K := K)) (pv 2) pe_int))) pss_nil)))
      (pss_one (ps_ret pe_non))), ?_⟩
  intro Γ ds C hE hF
  subst hE
  exact body0 (n := 2) (m := 5) (s := (X__first_bar V)) gd (N := N__first_bar) rfl Γ ds C hF
abbrev s_is_under : Stmt := topS 26
abbrev N_is_under : List Str := ["one", "other"]
theorem sc_is_under : FnScope N_is_under ["one", "other"] (defScope s_is_under) := ⟨rfl, rfl, rfl, by decide +kernel, rfl, by decide +kernel, by decide +kernel⟩
theorem cf_is_under {f : Addr} {fd : FuncData} (T : Txt K mg V) (gd : Good V K) (f_check_rows : CFX P w K mg base 5 "check_rows" (F_check_rows V).F) (f_have_equal_measures : CF P w K mg base 1 "have_equal_measures" (F_have_equal_measures V).F) (f__first_bar : CFX P w K mg base 6 "_first_bar" (F__first_bar V).F) (Df : Fun K "is_under" "is_under" s_is_under f fd) (hm : mg "is_under" = some (.ref f)) (hb : Binds K fd ["one", "other"] []) : CFX P w K mg base 7 "is_under" (F_is_under V).F := by
  refine cfx_of Df hm hb sc_is_under (fun B ds C X h => h.1) fun cdv A outer s H E hr => ?_
  refine ⟨_, (pss_cons (ps_expr (pe_cE (takes_of rfl rfl rfl rfl) (fun _ _ _ _ h => h) f_check_rows hr (by decide) (by rfl) (pa_cons (pv 0) (pa_cons (pv 1) pa_nil))))
      (pss_one (ps_ret (pe_and (pe_f f_have_equal_measures hr (by decide) (by rfl) (pa_cons (pv 0) (pa_cons (pv 1) pa_nil))) (pe_one (pe_cmp (pc_isN (pe_cE (takes_of rfl rfl rfl rfl) (fun _ _ _ _ h => h) f__first_bar hr (by decide) (by rfl) (pa_cons (pv 0) (pa_cons (pv 1) pa_nil)))))))))), ?_⟩
  intro Γ ds C hE hF
  subst hE
  exact body0 (n := 2) (m := 2) (s := (X_is_under V)) gd (N := N_is_under) rfl Γ ds C hF
abbrev s_is_arranged_alike : Stmt := topS 45
abbrev N_is_arranged_alike : List Str := ["one", "other", "told", "_", "entry", "later"]
theorem sc_is_arranged_alike : FnScope N_is_arranged_alike ["one", "other"] (defScope s_is_arranged_alike) := ⟨rfl, rfl, rfl, by decide +kernel, rfl, by decide +kernel, by decide +kernel⟩
theorem cf_is_arranged_alike {f : Addr} {fd : FuncData} (T : Txt K mg V) (gd : Good V K) (f_check_rows : CFX P w K mg base 5 "check_rows" (F_check_rows V).F) (Df : Fun K "is_arranged_alike" "is_arranged_alike" s_is_arranged_alike f fd) (hm : mg "is_arranged_alike" = some (.ref f)) (hb : Binds K fd ["one", "other"] []) : CFX P w K mg base 6 "is_arranged_alike" (F_is_arranged_alike V).F := by
  refine cfx_of Df hm hb sc_is_arranged_alike (fun B ds C X h => h.1) fun cdv A outer s H E hr => ?_
  refine ⟨_, (pss_cons (ps_expr (pe_cE (takes_of rfl rfl rfl rfl) (fun _ _ _ _ h => h) f_check_rows hr (by decide) (by rfl) (pa_cons (pv 0) (pa_cons (pv 1) pa_nil))))
      (pss_cons (ps_if (pt_cmpR (op_neK (K := K) hr.units) (pe_callB (cr_lenK (K := K)) (by rfl) T.b_len PySem.boot_len (pa_cons (pv 0) pa_nil)) (pe_callB (cr_lenK (K := K)) (by rfl) T.b_len PySem.boot_len (pa_cons (pv 1) pa_nil)) (nomark _)) (pss_one (ps_ret pe_bl)) pss_nil)
      (pss_cons (ps_setLc (i := 2) (own := [("_", 3), ("entry", 4)])  rfl sc_is_arranged_alike.nd rfl rfl (sw_true rfl rfl rfl (by decide +kernel)) (pi_seqK (K := K) (pe_callB (cr_srt2K (K := K)) (by rfl) T.b_sorted PyProof.Rows.boot_sorted (pa_cons (pe_listZipK (K := K) (by rfl) T.b_list (by rfl) T.b_zip (pa_cons (pv 0) (pa_cons (pv 1) pa_nil))) pa_nil))) (blkOk_by (N := N_is_arranged_alike) (sc := defScope s_is_arranged_alike) (by decide +kernel)) (fun _ _ _ _ _ => (pg_seqK (K := K) (n := 2) rfl (pgs_cons (pg_name (i := 3) sc_is_arranged_alike.nd rfl (Or.inl rfl)) (pgs_cons (pg_name (i := 4) sc_is_arranged_alike.nd rfl (Or.inl rfl)) pgs_nil)))) (fun _ _ _ _ _ => pts_nil) (fun _ _ _ _ _ => (pv 4)))
      (pss_one (ps_ret (pe_callB (cr_allK (K := K) rfl) (by rfl) T.b_all PyProof.Rows.boot_all (pa_cons (pe_lc (own := [("entry", 4), ("later", 5)])  rfl sc_is_arranged_alike.nd  (pi_zipMK (K := K) (by rfl) T.b_zip (pa_cons (pv 2) (pa_cons (pe_slice (sl_anyK (K := K)) (pv 2) (po_some pe_int) po_none) pa_nil))) (blkOk_by (N := N_is_arranged_alike) (sc := defScope s_is_arranged_alike) (by decide +kernel)) (fun _ _ _ _ _ => (pg_seqK (K := K) (n := 2) rfl (pgs_cons (pg_name (i := 4) sc_is_arranged_alike.nd rfl (Or.inl rfl)) (pgs_cons (pg_name (i := 5) sc_is_arranged_alike.nd rfl (Or.inl rfl)) pgs_nil)))) (fun _ _ _ _ _ => pts_nil) (fun _ _ _ _ _ => (pe_cmpR op_le (pv 4) (pv 5) (nomark _)))) pa_nil))))))), ?_⟩
  intro Γ ds C hE hF
  subst hE
  exact body0 (n := 2) (m := 6) (s := (X_is_arranged_alike V)) gd (N := N_is_arranged_alike) rfl Γ ds C hF
abbrev s__dealt : Stmt := topS 47
abbrev N__dealt : List Str := ["givers", "takers", "steps", "taken", "left", "giver", "spare", "many", "_"]
theorem sc__dealt : FnScope N__dealt ["givers", "takers"] (defScope s__dealt) := ⟨rfl, rfl, rfl, by decide +kernel, rfl, by decide +kernel, by decide +kernel⟩
theorem cf__dealt {f : Addr} {fd : FuncData} (T : Txt K mg V) (gd : Good V K) (Df : Fun K "_dealt" "_dealt" s__dealt f fd) (hm : mg "_dealt" = some (.ref f)) (hb : Binds K fd ["givers", "takers"] []) : CF P w K mg base 1 "_dealt" (F__dealt V).F := by
  refine cf_of Df hm hb sc__dealt (fun B ds C X h => h.1) fun cdv A outer s H E hr => ?_
  refine ⟨_, (pss_cons (ps_set (i := 2) sc__dealt.nd rfl (Or.inl rfl) (pe_lst pa_nil))
      (pss_cons (ps_set (i := 3) sc__dealt.nd rfl (Or.inl rfl) pe_int)
      (pss_cons (ps_setLc (i := 4) (own := [("_", 8), ("many", 7)])  rfl sc__dealt.nd rfl rfl (sw_true rfl rfl rfl (by decide +kernel)) (pi_seqK (K := K) (pv 1)) (blkOk_by (N := N__dealt) (sc := defScope s__dealt) (by decide +kernel)) (fun _ _ _ _ _ => (pg_seqK (K := K) (n := 2) rfl (pgs_cons (pg_name (i := 8) sc__dealt.nd rfl (Or.inl rfl)) (pgs_cons (pg_name (i := 7) sc__dealt.nd rfl (Or.inl rfl)) pgs_nil)))) (fun _ _ _ _ _ => pts_nil) (fun _ _ _ _ _ => (pv 7)))
      (pss_cons (ps_for PassesOwn.never rfl (pi_seqK (K := K) (pv 0)) (pg_seqK (K := K) (n := 2) rfl (pgs_cons (pg_name (i := 5) sc__dealt.nd rfl (Or.inl rfl)) (pgs_cons (pg_name (i := 6) sc__dealt.nd rfl (Or.inl rfl)) pgs_nil))) (pss_one (ps_while PassesOwn.never (pt_cmpR op_gt (pv 6) pe_int (nomark _)) (pss_cons (ps_set (i := 7) sc__dealt.nd rfl (Or.inl rfl) (pe_callB (cr_min4K (K := K) rfl) (by rfl) T.b_min PyProof.Rows.boot_min (pa_cons (pv 6) (pa_cons (pe_ix (ix_seqK (K := K)) (pv 4) (pv 3) (fun _ _ => rfl)) pa_nil))))
      (pss_cons (ps_expr (pe_bm PySem.F.plainAttrs_list PySem.F.slot_list_append PySem.F.type_list_append mt_append (pv 2) (pa_cons (pe_tup (pa_cons (pv 5) (pa_cons (pe_ix (ix_seqK (K := K)) (pe_ix (ix_seqK (K := K)) (pv 1) (pv 3) (fun _ _ => rfl)) pe_int (fun _ _ => rfl)) (pa_cons (pv 7) pa_nil)))) pa_nil)))
      (pss_cons (ps_aug (i := 6) sc__dealt.nd rfl (Or.inl rfl) (pv 7) ip_sub)
      (pss_cons (ps_augS (pv 4) (pv 3) (get_listK (K := K)) (pv 7) ip_sub set_list)
      (pss_one (ps_if (pt_cmpR (op_eqK (K := K) hr.units) (pe_ix (ix_seqK (K := K)) (pv 4) (pv 3) (fun _ _ => rfl)) pe_int (nomark _)) (pss_one (ps_aug (i := 3) sc__dealt.nd rfl (Or.inl rfl) pe_int ip_add)) pss_nil)))))))))
      (pss_one (ps_ret (pe_callTy (cr_tupK (K := K)) (by rfl) T.b_tuple PyProof.Rows.boot_tuple (pa_cons (pv 2) pa_nil)))))))), ?_⟩
  intro Γ ds C hF
  exact body0 (n := 2) (m := 9) (s := (X__dealt V)) gd (N := N__dealt) rfl Γ ds C hF
abbrev s_road : Stmt := topS 46
abbrev N_road : List Str := ["row", "lower", "places", "givers", "takers", "place"]
theorem sc_road : FnScope N_road ["row", "lower"] (defScope s_road) := ⟨rfl, rfl, rfl, by decide +kernel, rfl, by decide +kernel, by decide +kernel⟩
theorem cf_road {f : Addr} {fd : FuncData} (T : Txt K mg V) (gd : Good V K) (f_check_rows : CFX P w K mg base 5 "check_rows" (F_check_rows V).F) (f_places_by_entry : CF P w K mg base 1 "places_by_entry" (F_places_by_entry V).F) (f_is_under : CFX P w K mg base 7 "is_under" (F_is_under V).F) (f_is_arranged_alike : CFX P w K mg base 6 "is_arranged_alike" (F_is_arranged_alike V).F) (f__dealt : CF P w K mg base 1 "_dealt" (F__dealt V).F) (Df : Fun K "road" "road" s_road f fd) (hm : mg "road" = some (.ref f)) (hb : Binds K fd ["row", "lower"] []) : CFX P w K mg base 8 "road" (F_road V).F := by
  refine cfx_of Df hm hb sc_road (fun B ds C X h => h.1) fun cdv A outer s H E hr => ?_
  refine ⟨_, (pss_cons (ps_expr (pe_cE (takes_of rfl rfl rfl rfl) (fun _ _ _ _ h => h) f_check_rows hr (by decide) (by rfl) (pa_cons (pv 0) (pa_cons (pv 1) pa_nil))))
      (pss_cons (ps_if (PW.pt (pw_or (pt_not (pt_val (pe_cE (takes_of rfl rfl rfl rfl) (fun _ _ _ _ h => h) f_is_arranged_alike hr (by decide) (by rfl) (pa_cons (pv 0) (pa_cons (pv 1) pa_nil))) (fun _ => rfl))) (pw_or1 (pt_not (pt_val (pe_cE (takes_of rfl rfl rfl rfl) (fun _ _ _ _ h => h) f_is_under hr (by decide) (by rfl) (pa_cons (pv 1) (pa_cons (pv 0) pa_nil))) (fun _ => rfl)))))) (pss_one (ps_raiseO rfl (takes_of rfl rfl rfl rfl) T.x_InvalidOperation (by rfl))) pss_nil)
      (pss_cons (ps_set (i := 2) sc_road.nd rfl (Or.inl rfl) (pe_f f_places_by_entry hr (by decide) (by rfl) (pa_cons (pv 0) pa_nil)))
      (pss_cons (ps_setLc (i := 3) (own := [("place", 5)])  rfl sc_road.nd rfl rfl (sw_true rfl rfl rfl (by decide +kernel)) (pi_seqK (K := K) (pv 2)) (blkOk_by (N := N_road) (sc := defScope s_road) (by decide +kernel)) (fun _ _ _ _ _ => (pg_name (i := 5) sc_road.nd rfl (Or.inl rfl))) (fun _ _ _ _ _ => (pts_one (pt_cmpR op_gt (pe_ix (ix_seqK (K := K)) (pv 0) (pv 5) (fun _ _ => rfl)) (pe_ix (ix_seqK (K := K)) (pv 1) (pv 5) (fun _ _ => rfl)) (nomark _)))) (fun _ _ _ _ _ => (pe_tup (pa_cons (pv 5) (pa_cons (pe_op op_sub (pe_ix (ix_seqK (K := K)) (pv 0) (pv 5) (fun _ _ => rfl)) (pe_ix (ix_seqK (K := K)) (pv 1) (pv 5) (fun _ _ => rfl))) pa_nil)))))
      (pss_cons (ps_setLc (i := 4) (own := [("place", 5)])  rfl sc_road.nd rfl rfl (sw_true rfl rfl rfl (by decide +kernel)) (pi_seqK (K := K) (pv 2)) (blkOk_by (N := N_road) (sc := defScope s_road) (by decide +kernel)) (fun _ _ _ _ _ => (pg_name (i := 5) sc_road.nd rfl (Or.inl rfl))) (fun _ _ _ _ _ => (pts_one (pt_cmpR op_lt (pe_ix (ix_seqK (K := K)) (pv 0) (pv 5) (fun _ _ => rfl)) (pe_ix (ix_seqK (K := K)) (pv 1) (pv 5) (fun _ _ => rfl)) (nomark _)))) (fun _ _ _ _ _ => (pe_tup (pa_cons (pv 5) (pa_cons (pe_op op_sub (pe_ix (ix_seqK (K := K)) (pv 1) (pv 5) (fun _ _ => rfl)) (pe_ix (ix_seqK (K := K)) (pv 0) (pv 5) (fun _ _ => rfl))) pa_nil)))))
      (pss_one (ps_ret (pe_f f__dealt hr (by decide) (by rfl) (pa_cons (pv 3) (pa_cons (pv 4) pa_nil)))))))))), ?_⟩
  intro Γ ds C hE hF
  subst hE
  exact body0 (n := 2) (m := 6) (s := (X_road V)) gd (N := N_road) rfl Γ ds C hF
abbrev s__is_short_row : Stmt := topS 38
abbrev N__is_short_row : List Str := ["value", "most"]
theorem sc__is_short_row : FnScope N__is_short_row ["value", "most"] (defScope s__is_short_row) := ⟨rfl, rfl, rfl, by decide +kernel, rfl, by decide +kernel, by decide +kernel⟩
theorem cf__is_short_row {f : Addr} {fd : FuncData} (T : Txt K mg V) (gd : Good V K) (f_is_row : CF P w K mg base 3 "is_row" (F_is_row V).F) (Df : Fun K "_is_short_row" "_is_short_row" s__is_short_row f fd) (hm : mg "_is_short_row" = some (.ref f)) (hb : Binds K fd ["value", "most"] []) : CF P w K mg base 4 "_is_short_row" (F__is_short_row V).F := by
  refine cf_of Df hm hb sc__is_short_row (fun B ds C X h => h.1) fun cdv A outer s H E hr => ?_
  refine ⟨_, (pss_one (ps_ret (pe_and (pe_f f_is_row hr (by decide) (by rfl) (pa_cons (pv 0) pa_nil)) (pe_one (pe_cmpR op_le (pe_callB (cr_lenK (K := K)) (by rfl) T.b_len PySem.boot_len (pa_cons (pv 0) pa_nil)) (pv 1) (nomark _)))))), ?_⟩
  intro Γ ds C hF
  exact body0 (n := 2) (m := 2) (s := (X__is_short_row V)) gd (N := N__is_short_row) rfl Γ ds C hF
abbrev s__are_lines_sums : Stmt := topS 39
abbrev N__are_lines_sums : List Str := ["lines", "columns"]
theorem sc__are_lines_sums : FnScope N__are_lines_sums ["lines", "columns"] (defScope s__are_lines_sums) := ⟨rfl, rfl, rfl, by decide +kernel, rfl, by decide +kernel, by decide +kernel⟩
theorem cf__are_lines_sums {f : Addr} {fd : FuncData} (T : Txt K mg V) (gd : Good V K) (f__is_short_row : CF P w K mg base 4 "_is_short_row" (F__is_short_row V).F) (Df : Fun K "_are_lines_sums" "_are_lines_sums" s__are_lines_sums f fd) (hm : mg "_are_lines_sums" = some (.ref f)) (hb : Binds K fd ["lines", "columns"] []) : CF P w K mg base 5 "_are_lines_sums" (F__are_lines_sums V).F := by
  refine cf_of Df hm hb sc__are_lines_sums (fun B ds C X h => h.1) fun cdv A outer s H E hr => ?_
  refine ⟨_, (pss_one (ps_ret (pe_and (pe_f f__is_short_row hr (by decide) (by rfl) (pa_cons (pv 0) (pa_cons (C8.pe_gc (by rfl) T.k_MAX_LINES) pa_nil))) (pe_one (pe_f f__is_short_row hr (by decide) (by rfl) (pa_cons (pv 1) (pa_cons (C8.pe_gc (by rfl) T.k_MAX_LINES) pa_nil))))))), ?_⟩
  intro Γ ds C hF
  exact body0 (n := 2) (m := 2) (s := (X__are_lines_sums V)) gd (N := N__are_lines_sums) rfl Γ ds C hF
abbrev s_is_sums : Stmt := topS 36
abbrev N_is_sums : List Str := ["value"]
theorem sc_is_sums : FnScope N_is_sums ["value"] (defScope s_is_sums) := ⟨rfl, rfl, rfl, by decide +kernel, rfl, by decide +kernel, by decide +kernel⟩
theorem cf_is_sums {f : Addr} {fd : FuncData} (T : Txt K mg V) (gd : Good V K) (f_is_within : CF P w K mg base 2 "is_within" (F_is_within V).F) (f__is_short_row : CF P w K mg base 4 "_is_short_row" (F__is_short_row V).F) (f__are_lines_sums : CF P w K mg base 5 "_are_lines_sums" (F__are_lines_sums V).F) (Df : Fun K "is_sums" "is_sums" s_is_sums f fd) (hm : mg "is_sums" = some (.ref f)) (hb : Binds K fd ["value"] []) : CF P w K mg base 6 "is_sums" (F_is_sums V).F := by
  refine cf_of Df hm hb sc_is_sums (fun B ds C X h => h.1) fun cdv A outer s H E hr => ?_
  refine ⟨_, (pss_cons (ps_if (PW.pt (pw_or (pt_not (pt_val (pe_callB (cr_isiK (K := K)) (by rfl) T.b_isinstance PyProof.Rows.boot_isinstance (pa_cons (pv 0) (pa_cons (pe_bltn (v := .ty "tuple") (by rfl) T.b_tuple PyProof.Rows.boot_tuple rfl) pa_nil))) (fun _ => rfl))) (pw_or1 (pt_cmpR (op_eqK (K := K) hr.units) (pe_callB (cr_lenK (K := K)) (by rfl) T.b_len PySem.boot_len (pa_cons (pv 0) pa_nil)) pe_int (nomark _))))) (pss_one (ps_ret pe_bl)) pss_nil)
      (pss_cons (ps_if (pt_cmpR (op_eqK (K := K) hr.units) (pe_ix (ix_seqK (K := K)) (pv 0) pe_int (fun _ _ => rfl)) pe_str (nomark _)) (pss_one (ps_ret (pe_and (pe_cmpR (op_eqK (K := K) hr.units) (pe_callB (cr_lenK (K := K)) (by rfl) T.b_len PySem.boot_len (pa_cons (pv 0) pa_nil)) pe_int (nomark _)) (pe_and (pe_f f_is_within hr (by decide) (by rfl) (pa_cons (pe_ix (ix_seqK (K := K)) (pv 0) pe_int (fun _ _ => rfl)) (pa_cons pe_int (pa_cons (C8.pe_gc (by rfl) T.k_MAX_CAP) pa_nil)))) (pe_one (pe_f f__are_lines_sums hr (by decide) (by rfl) (pa_cons (pe_ix (ix_seqK (K := K)) (pv 0) pe_int (fun _ _ => rfl)) (pa_cons (pe_ix (ix_seqK (K := K)) (pv 0) pe_int (fun _ _ => rfl)) pa_nil)))))))) pss_nil)
      (pss_one (ps_ret (pe_and (pe_cmpR (op_inK (K := K) hr) (pe_ix (ix_seqK (K := K)) (pv 0) pe_int (fun _ _ => rfl)) (pe_tup (pa_cons pe_str (pa_cons pe_str pa_nil))) (by with_unfolding_all rfl)) (pe_and (pe_cmpR (op_eqK (K := K) hr.units) (pe_callB (cr_lenK (K := K)) (by rfl) T.b_len PySem.boot_len (pa_cons (pv 0) pa_nil)) pe_int (nomark _)) (pe_one (pe_f f__is_short_row hr (by decide) (by rfl) (pa_cons (pe_ix (ix_seqK (K := K)) (pv 0) pe_int (fun _ _ => rfl)) (pa_cons (C8.pe_gc (by rfl) T.k_MAX_PLACES) pa_nil)))))))))), ?_⟩
  intro Γ ds C hF
  exact body0 (n := 1) (m := 1) (s := (X_is_sums V)) gd (N := N_is_sums) rfl Γ ds C hF
abbrev s_check_table_sums : Stmt := topS 52
abbrev N_check_table_sums : List Str := ["sums"]
theorem sc_check_table_sums : FnScope N_check_table_sums ["sums"] (defScope s_check_table_sums) := ⟨rfl, rfl, rfl, by decide +kernel, rfl, by decide +kernel, by decide +kernel⟩
theorem cf_check_table_sums {f : Addr} {fd : FuncData} (T : Txt K mg V) (gd : Good V K) (f_is_sums : CF P w K mg base 6 "is_sums" (F_is_sums V).F) (Df : Fun K "check_table_sums" "check_table_sums" s_check_table_sums f fd) (hm : mg "check_table_sums" = some (.ref f)) (hb : Binds K fd ["sums"] []) : CFX P w K mg base 7 "check_table_sums" (F_check_table_sums V).F := by
  refine cfx_of Df hm hb sc_check_table_sums (fun B ds C X h => h.1) fun cdv A outer s H E hr => ?_
  refine ⟨_, (pss_one (ps_if (PW.pt (pw_or (pt_not (pt_val (pe_f f_is_sums hr (by decide) (by rfl) (pa_cons (pv 0) pa_nil)) (fun _ => rfl))) (pw_or1 (pt_cmpR (op_neK (K := K) hr.units) (pe_ix (ix_seqK (K := K)) (pv 0) pe_int (fun _ _ => rfl)) pe_str (nomark _))))) (pss_one (ps_raiseO rfl (takes_of rfl rfl rfl rfl) T.x_InvalidSums (by rfl))) pss_nil)), ?_⟩
  intro Γ ds C hE hF
  subst hE
  exact body0 (n := 1) (m := 1) (s := (X_check_table_sums V)) gd (N := N_check_table_sums) rfl Γ ds C hF
abbrev s__with_units_carried : Stmt := topS 62
abbrev N__with_units_carried : List Str := ["giver", "taker", "many", "less", "more", "number", "other", "carried"]
theorem sc__with_units_carried : FnScope N__with_units_carried ["giver", "taker", "many"] (defScope s__with_units_carried) := ⟨rfl, rfl, rfl, by decide +kernel, rfl, by decide +kernel, by decide +kernel⟩
theorem cf__with_units_carried {f : Addr} {fd : FuncData} (T : Txt K mg V) (gd : Good V K) (Df : Fun K "_with_units_carried" "_with_units_carried" s__with_units_carried f fd) (hm : mg "_with_units_carried" = some (.ref f)) (hb : Binds K fd ["giver", "taker", "many"] []) : CF P w K mg base 1 "_with_units_carried" (F__with_units_carried V).F := by
  refine cf_of Df hm hb sc__with_units_carried (fun B ds C X h => h.1) fun cdv A outer s H E hr => ?_
  refine ⟨_, (pss_cons (ps_par (i := 3) (j := 4) rfl sc__with_units_carried.nd rfl rfl (by decide) rfl rfl (pa_cons (pe_lst pa_nil) (pa_cons (pe_lst pa_nil) pa_nil)) rfl)
      (pss_cons (ps_for PassesOwn.never rfl (pi_zipMK (K := K) (by rfl) T.b_zip (pa_cons (pv 0) (pa_cons (pv 1) pa_nil))) (pg_seqK (K := K) (n := 2) rfl (pgs_cons (pg_name (i := 5) sc__with_units_carried.nd rfl (Or.inl rfl)) (pgs_cons (pg_name (i := 6) sc__with_units_carried.nd rfl (Or.inl rfl)) pgs_nil))) (pss_cons (ps_set (i := 7) sc__with_units_carried.nd rfl (Or.inl rfl) (pe_callB (cr_min4K (K := K) rfl) (by rfl) T.b_min PyProof.Rows.boot_min (pa_cons (pv 2) (pa_cons (pe_callB (cr_max4K (K := K) rfl) (by rfl) T.b_max PyProof.Rows.boot_max (pa_cons pe_int (pa_cons (pe_op op_sub (pv 5) (pv 6)) pa_nil))) pa_nil))))
      (pss_cons (ps_expr (pe_bm PySem.F.plainAttrs_list PySem.F.slot_list_append PySem.F.type_list_append mt_append (pv 3) (pa_cons (pe_op op_sub (pv 5) (pv 7)) pa_nil)))
      (pss_cons (ps_expr (pe_bm PySem.F.plainAttrs_list PySem.F.slot_list_append PySem.F.type_list_append mt_append (pv 4) (pa_cons (pe_op (op_addK (K := K)) (pv 6) (pv 7)) pa_nil)))
      (pss_one (ps_aug (i := 2) sc__with_units_carried.nd rfl (Or.inl rfl) (pv 7) ip_sub))))))
      (pss_one (ps_ret (pe_tup (pa_cons (pe_callTy (cr_tupK (K := K)) (by rfl) T.b_tuple PyProof.Rows.boot_tuple (pa_cons (pv 3) pa_nil)) (pa_cons (pe_callTy (cr_tupK (K := K)) (by rfl) T.b_tuple PyProof.Rows.boot_tuple (pa_cons (pv 4) pa_nil)) pa_nil))))))), ?_⟩
  intro Γ ds C hF
  exact body0 (n := 3) (m := 8) (s := (X__with_units_carried V)) gd (N := N__with_units_carried) rfl Γ ds C hF
abbrev s_made_table : Stmt := topS 57
abbrev N_made_table : List Str := ["sums", "_", "cap", "lines", "columns", "cells", "filled", "line", "steps", "giver", "taker", "many", "numbers"]
theorem sc_made_table : FnScope N_made_table ["sums"] (defScope s_made_table) := ⟨rfl, rfl, rfl, by decide +kernel, rfl, by decide +kernel, by decide +kernel⟩
theorem cf_made_table {f : Addr} {fd : FuncData} (T : Txt K mg V) (gd : Good V K) (f_places_by_entry : CF P w K mg base 1 "places_by_entry" (F_places_by_entry V).F) (f_Table_of : ClmX P w K mg base 6 (V.cls .cTable) "of" (spF K (F_Table_of V).F)) (f_road : CFX P w K mg base 8 "road" (F_road V).F) (f_level : CF P w K mg base 1 "level" (F_level V).F) (f_check_table_sums : CFX P w K mg base 7 "check_table_sums" (F_check_table_sums V).F) (f_has_table : CFX P w K mg base 7 "has_table" (F_has_table V).F) (f__with_units_carried : CF P w K mg base 1 "_with_units_carried" (F__with_units_carried V).F) (Df : Fun K "made_table" "made_table" s_made_table f fd) (hm : mg "made_table" = some (.ref f)) (hb : Binds K fd ["sums"] []) : CFX P w K mg base 9 "made_table" (F_made_table_2_nk24 V).F := by
  refine cfx_of Df hm hb sc_made_table (fun B ds C X h => h.1) fun cdv A outer s H E hr => ?_
  refine ⟨_, (pss_cons (ps_expr (pe_cE (takes_of rfl rfl rfl rfl) (fun _ _ _ _ h => h) f_check_table_sums hr (by decide) (by rfl) (pa_cons (pv 0) pa_nil)))
      (pss_cons (ps_asg (pv 0) (pg_seqK (K := K) (n := 4) rfl (pgs_cons (pg_name (i := 1) sc_made_table.nd rfl (Or.inl rfl)) (pgs_cons (pg_name (i := 2) sc_made_table.nd rfl (Or.inl rfl)) (pgs_cons (pg_name (i := 3) sc_made_table.nd rfl (Or.inl rfl)) (pgs_cons (pg_name (i := 4) sc_made_table.nd rfl (Or.inl rfl)) pgs_nil))))))
      (pss_cons (ps_if (pt_not (pt_val (pe_cE (takes_of rfl rfl rfl rfl) (fun _ _ _ _ h => h) f_has_table hr (by decide) (by rfl) (pa_cons (pv 2) (pa_cons (pv 3) (pa_cons (pv 4) pa_nil)))) (fun _ => rfl))) (pss_one (ps_ret pe_non)) pss_nil)
      (pss_cons (ps_set (i := 5) sc_made_table.nd rfl (Or.inl rfl) (pe_op (op_mulK (K := K)) (pe_lst (pa_cons (pe_tup pa_nil) pa_nil)) (pe_callB (cr_lenK (K := K)) (by rfl) T.b_len PySem.boot_len (pa_cons (pv 3) pa_nil))))
      (pss_cons (ps_for (passes_of rfl) rfl (pi_enumLK (K := K) (by rfl) T.b_enumerate (pa_cons (pe_f f_places_by_entry hr (by decide) (by rfl) (pa_cons (pv 3) pa_nil)) pa_nil)) (pg_seqK (K := K) (n := 2) rfl (pgs_cons (pg_name (i := 6) sc_made_table.nd rfl (Or.inl rfl)) (pgs_cons (pg_name (i := 7) sc_made_table.nd rfl (Or.inl rfl)) pgs_nil))) (pss_one (ps_asg (pe_f f_level hr (by decide) (by rfl) (pa_cons (pv 4) (pa_cons (pv 6) (pa_cons (pv 2) pa_nil)))) (pg_sub (pv 5) (pv 7) set_list))))
      (pss_cons (ps_set (i := 8) sc_made_table.nd rfl (Or.inl rfl) (pe_cE (takes_of rfl rfl rfl rfl) (fun _ _ _ _ h => h) f_road hr (by decide) (by rfl) (pa_cons (pe_callTy (cr_tupK (K := K)) (by rfl) T.b_tuple PyProof.Rows.boot_tuple (pa_cons (pe_lc (own := [("numbers", 12)])  rfl sc_made_table.nd  (pi_seqK (K := K) (pv 5)) (blkOk_by (N := N_made_table) (sc := defScope s_made_table) (by decide +kernel)) (fun _ _ _ _ _ => (pg_name (i := 12) sc_made_table.nd rfl (Or.inl rfl))) (fun _ _ _ _ _ => pts_nil) (fun _ _ _ _ _ => (pe_callB (cr_sumK (K := K) rfl) (by rfl) T.b_sum PyProof.Rows.boot_sum (pa_cons (pv 12) pa_nil)))) pa_nil)) (pa_cons (pv 3) pa_nil))))
      (pss_cons (ps_for (passes_of rfl) rfl (pi_seqK (K := K) (pv 8)) (pg_seqK (K := K) (n := 3) rfl (pgs_cons (pg_name (i := 9) sc_made_table.nd rfl (Or.inl rfl)) (pgs_cons (pg_name (i := 10) sc_made_table.nd rfl (Or.inl rfl)) (pgs_cons (pg_name (i := 11) sc_made_table.nd rfl (Or.inl rfl)) pgs_nil)))) pss_never)
      (pss_one (ps_ret (pe_clmE (takes_of rfl rfl rfl rfl) (fun _ _ _ _ h => h) f_Table_of hr (by decide) (C8.pe_gc (v := .ref (V.cls .cTable)) (by rfl) ⟨_, T.c_Table, rfl⟩) (pa_cons (pv 2) (pa_cons (pe_callTy (cr_tupK (K := K)) (by rfl) T.b_tuple PyProof.Rows.boot_tuple (pa_cons (pv 5) pa_nil)) pa_nil)))))))))))), ?_⟩
  intro Γ ds C hE hF
  subst hE
  exact body0 (n := 1) (m := 13) (s := (X_made_table_2_nk24 V)) gd (N := N_made_table) rfl Γ ds C hF
abbrev s_greatest_places : Stmt := topS 23
abbrev N_greatest_places : List Str := ["row", "many"]
theorem sc_greatest_places : FnScope N_greatest_places ["row", "many"] (defScope s_greatest_places) := ⟨rfl, rfl, rfl, by decide +kernel, rfl, by decide +kernel, by decide +kernel⟩
theorem cf_greatest_places {f : Addr} {fd : FuncData} (T : Txt K mg V) (gd : Good V K) (f_places_by_entry : CF P w K mg base 1 "places_by_entry" (F_places_by_entry V).F) (Df : Fun K "greatest_places" "greatest_places" s_greatest_places f fd) (hm : mg "greatest_places" = some (.ref f)) (hb : Binds K fd ["row", "many"] []) : CF P w K mg base 2 "greatest_places" (F_greatest_places V).F := by
  refine cf_of Df hm hb sc_greatest_places (fun B ds C X h => h.1) fun cdv A outer s H E hr => ?_
  refine ⟨_, (pss_one (ps_ret (pe_callTy (cr_tupK (K := K)) (by rfl) T.b_tuple PyProof.Rows.boot_tuple (pa_cons (pe_callB (cr_srt2K (K := K)) (by rfl) T.b_sorted PyProof.Rows.boot_sorted (pa_cons (pe_slice (sl_anyK (K := K)) (pe_f f_places_by_entry hr (by decide) (by rfl) (pa_cons (pv 0) pa_nil)) po_none (po_some (pv 1))) pa_nil)) pa_nil)))), ?_⟩
  intro Γ ds C hF
  exact body0 (n := 2) (m := 2) (s := (X_greatest_places V)) gd (N := N_greatest_places) rfl Γ ds C hF
abbrev s_table_paper : Stmt := topS 58
abbrev N_table_paper : List Str := ["sums", "_", "cap", "lines", "columns", "many"]
theorem sc_table_paper : FnScope N_table_paper ["sums"] (defScope s_table_paper) := ⟨rfl, rfl, rfl, by decide +kernel, rfl, by decide +kernel, by decide +kernel⟩
theorem cf_table_paper {f : Addr} {fd : FuncData} (T : Txt K mg V) (gd : Good V K) (f_greatest_places : CF P w K mg base 2 "greatest_places" (F_greatest_places V).F) (f_check_table_sums : CFX P w K mg base 7 "check_table_sums" (F_check_table_sums V).F) (f_made_table : CFX P w K mg base 9 "made_table" (F_made_table_2_nk24 V).F) (f__fewest_barring : CFX P w K mg base 6 "_fewest_barring" (F__fewest_barring V).F) (Df : Fun K "table_paper" "table_paper" s_table_paper f fd) (hm : mg "table_paper" = some (.ref f)) (hb : Binds K fd ["sums"] []) : CFX P w K mg base 10 "table_paper" (F_table_paper_2_nk24 V).F := by
  refine cfx_of Df hm hb sc_table_paper (fun B ds C X h => h.1) fun cdv A outer s H E hr => ?_
  refine ⟨_, (pss_cons (ps_expr (pe_cE (takes_of rfl rfl rfl rfl) (fun _ _ _ _ h => h) f_check_table_sums hr (by decide) (by rfl) (pa_cons (pv 0) pa_nil)))
      (pss_cons (ps_asg (pv 0) (pg_seqK (K := K) (n := 4) rfl (pgs_cons (pg_name (i := 1) sc_table_paper.nd rfl (Or.inl rfl)) (pgs_cons (pg_name (i := 2) sc_table_paper.nd rfl (Or.inl rfl)) (pgs_cons (pg_name (i := 3) sc_table_paper.nd rfl (Or.inl rfl)) (pgs_cons (pg_name (i := 4) sc_table_paper.nd rfl (Or.inl rfl)) pgs_nil))))))
      (pss_cons (ps_set (i := 5) sc_table_paper.nd rfl (Or.inl rfl) (pe_cE (takes_of rfl rfl rfl rfl) (fun _ _ _ _ h => h) f__fewest_barring hr (by decide) (by rfl) (pa_cons (pv 2) (pa_cons (pv 3) (pa_cons (pv 4) pa_nil)))))
      (pss_cons (ps_if (pt_cmp (pc_notN (pv 5))) (pss_one (ps_ret (pe_tup (pa_cons pe_str (pa_cons (pe_f f_greatest_places hr (by decide) (by rfl) (pa_cons (pv 3) (pa_cons (pv 5) pa_nil))) pa_nil))))) pss_nil)
      (pss_cons (ps_set (i := 5) sc_table_paper.nd rfl (Or.inl rfl) (pe_cE (takes_of rfl rfl rfl rfl) (fun _ _ _ _ h => h) f__fewest_barring hr (by decide) (by rfl) (pa_cons (pv 2) (pa_cons (pv 4) (pa_cons (pv 3) pa_nil)))))
      (pss_cons (ps_if (pt_cmp (pc_notN (pv 5))) (pss_one (ps_ret (pe_tup (pa_cons pe_str (pa_cons (pe_f f_greatest_places hr (by decide) (by rfl) (pa_cons (pv 4) (pa_cons (pv 5) pa_nil))) pa_nil))))) pss_nil)
      (pss_one (ps_ret (pe_tup (pa_cons pe_str (pa_cons (pe_cE (takes_of rfl rfl rfl rfl) (fun _ _ _ _ h => h) f_made_table hr (by decide) (by rfl) (pa_cons (pv 0) pa_nil)) pa_nil))))))))))), ?_⟩
  intro Γ ds C hE hF
  subst hE
  exact body0 (n := 1) (m := 6) (s := (X_table_paper_2_nk24 V)) gd (N := N_table_paper) rfl Γ ds C hF
abbrev s_Table_line_sums : Stmt := inClass (topS 32) 4
abbrev N_Table_line_sums : List Str := ["self", "cells"]
theorem sc_Table_line_sums : FnScope N_Table_line_sums ["self"] (defScope s_Table_line_sums) := ⟨rfl, rfl, rfl, by decide +kernel, rfl, by decide +kernel, by decide +kernel⟩
theorem cf_Table_line_sums (T : Txt K mg V) (gd : Good V K) (Df : PropF K "line_sums" "Table.line_sums" s_Table_line_sums (V.cls .cTable)) : PropN P w K mg base 1 (V.cls .cTable) "line_sums" (spF K (F_Table_line_sums V).F) := by
  refine prop_of Df sc_Table_line_sums (fun B ds C X h => h.1) fun g cdv A outer s H E hr => ?_
  refine ⟨_, (pss_one (ps_ret (pe_callTy (cr_tupK (K := K)) (by rfl) T.b_tuple PyProof.Rows.boot_tuple (pa_cons (pe_lc (own := [("cells", 1)])  rfl sc_Table_line_sums.nd  (pi_seqK (K := K) (pe_fldC T.cl_Table T.na_Table__lines (pv 0))) (blkOk_by (N := N_Table_line_sums) (sc := defScope s_Table_line_sums) (by decide +kernel)) (fun _ _ _ _ _ => (pg_name (i := 1) sc_Table_line_sums.nd rfl (Or.inl rfl))) (fun _ _ _ _ _ => pts_nil) (fun _ _ _ _ _ => (pe_callB (cr_sumK (K := K) rfl) (by rfl) T.b_sum PyProof.Rows.boot_sum (pa_cons (pv 1) pa_nil)))) pa_nil)))), ?_⟩
  intro Γ ds C hF
  exact body0 (n := 1) (m := 2) (s := X_Table_line_sums V) gd (N := N_Table_line_sums) rfl Γ ds C hF
abbrev s_Table_column_sums : Stmt := inClass (topS 32) 5
abbrev N_Table_column_sums : List Str := ["self", "cells"]
theorem sc_Table_column_sums : FnScope N_Table_column_sums ["self"] (defScope s_Table_column_sums) := ⟨rfl, rfl, rfl, by decide +kernel, rfl, by decide +kernel, by decide +kernel⟩
theorem cf_Table_column_sums (T : Txt K mg V) (gd : Good V K) (Df : PropF K "column_sums" "Table.column_sums" s_Table_column_sums (V.cls .cTable)) : PropN P w K mg base 1 (V.cls .cTable) "column_sums" (spF K (F_Table_column_sums V).F) := by
  refine prop_of Df sc_Table_column_sums (fun B ds C X h => h.1) fun g cdv A outer s H E hr => ?_
  refine ⟨_, (pss_one (ps_ret (pe_callTy (cr_tupK (K := K)) (by rfl) T.b_tuple PyProof.Rows.boot_tuple (pa_cons (pe_lc (own := [("cells", 1)])  rfl sc_Table_column_sums.nd  (pi_zipN (by rfl) T.b_zip (pe_fldC T.cl_Table T.na_Table__lines (pv 0))) (blkOk_by (N := N_Table_column_sums) (sc := defScope s_Table_column_sums) (by decide +kernel)) (fun _ _ _ _ _ => (pg_name (i := 1) sc_Table_column_sums.nd rfl (Or.inl rfl))) (fun _ _ _ _ _ => pts_nil) (fun _ _ _ _ _ => (pe_callB (cr_sumK (K := K) rfl) (by rfl) T.b_sum PyProof.Rows.boot_sum (pa_cons (pv 1) pa_nil)))) pa_nil)))), ?_⟩
  intro Γ ds C hF
  exact body0 (n := 1) (m := 2) (s := X_Table_column_sums V) gd (N := N_Table_column_sums) rfl Γ ds C hF
abbrev s_Table_sums : Stmt := inClass (topS 32) 7
abbrev N_Table_sums : List Str := ["self"]
theorem sc_Table_sums : FnScope N_Table_sums ["self"] (defScope s_Table_sums) := ⟨rfl, rfl, rfl, by decide +kernel, rfl, by decide +kernel, by decide +kernel⟩
theorem cf_Table_sums (T : Txt K mg V) (gd : Good V K) (f_Table_line_sums : PropN P w K mg base 1 (V.cls .cTable) "line_sums" (spF K (F_Table_line_sums V).F)) (f_Table_column_sums : PropN P w K mg base 1 (V.cls .cTable) "column_sums" (spF K (F_Table_column_sums V).F)) (Df : PropF K "sums" "Table.sums" s_Table_sums (V.cls .cTable)) : PropN P w K mg base 3 (V.cls .cTable) "sums" (spF K (F_Table_sums V).F) := by
  refine prop_of Df sc_Table_sums (fun B ds C X h => h.1) fun g cdv A outer s H E hr => ?_
  refine ⟨_, (pss_one (ps_ret (pe_tup (pa_cons pe_str (pa_cons (pe_fldC T.cl_Table T.na_Table__cap (pv 0)) (pa_cons (pe_pr f_Table_line_sums hr (by decide) (pv 0)) (pa_cons (pe_pr f_Table_column_sums hr (by decide) (pv 0)) pa_nil))))))), ?_⟩
  intro Γ ds C hF
  exact body0 (n := 1) (m := 1) (s := X_Table_sums V) gd (N := N_Table_sums) rfl Γ ds C hF
abbrev s_Web_degrees : Stmt := inClass (topS 33) 4
abbrev N_Web_degrees : List Str := ["self", "counts", "one", "other"]
theorem sc_Web_degrees : FnScope N_Web_degrees ["self"] (defScope s_Web_degrees) := ⟨rfl, rfl, rfl, by decide +kernel, rfl, by decide +kernel, by decide +kernel⟩
theorem cf_Web_degrees (T : Txt K mg V) (gd : Good V K) (Df : PropF K "degrees" "Web.degrees" s_Web_degrees (V.cls .cWeb)) : PropN P w K mg base 1 (V.cls .cWeb) "degrees" (spF K (F_Web_degrees V).F) := by
  refine prop_of Df sc_Web_degrees (fun B ds C X h => h.1) fun g cdv A outer s H E hr => ?_
  refine ⟨_, (pss_cons (ps_set (i := 1) sc_Web_degrees.nd rfl (Or.inl rfl) (pe_op (op_mulK (K := K)) (pe_lst (pa_cons pe_int pa_nil)) (pe_fldC T.cl_Web T.na_Web__places (pv 0))))
      (pss_cons (ps_for PassesOwn.never rfl (pi_seqK (K := K) (pe_fldC T.cl_Web T.na_Web__ties (pv 0))) (pg_seqK (K := K) (n := 2) rfl (pgs_cons (pg_name (i := 2) sc_Web_degrees.nd rfl (Or.inl rfl)) (pgs_cons (pg_name (i := 3) sc_Web_degrees.nd rfl (Or.inl rfl)) pgs_nil))) (pss_cons (ps_augS (pv 1) (pv 2) (get_listK (K := K)) pe_int ip_add set_list)
      (pss_one (ps_augS (pv 1) (pv 3) (get_listK (K := K)) pe_int ip_add set_list))))
      (pss_one (ps_ret (pe_callTy (cr_tupK (K := K)) (by rfl) T.b_tuple PyProof.Rows.boot_tuple (pa_cons (pv 1) pa_nil)))))), ?_⟩
  intro Γ ds C hF
  exact body0 (n := 1) (m := 4) (s := X_Web_degrees V) gd (N := N_Web_degrees) rfl Γ ds C hF
abbrev s_Web_sums : Stmt := inClass (topS 33) 5
abbrev N_Web_sums : List Str := ["self"]
theorem sc_Web_sums : FnScope N_Web_sums ["self"] (defScope s_Web_sums) := ⟨rfl, rfl, rfl, by decide +kernel, rfl, by decide +kernel, by decide +kernel⟩
theorem cf_Web_sums (T : Txt K mg V) (gd : Good V K) (f_Web_degrees : PropN P w K mg base 1 (V.cls .cWeb) "degrees" (spF K (F_Web_degrees V).F)) (Df : PropF K "sums" "Web.sums" s_Web_sums (V.cls .cWeb)) : PropN P w K mg base 3 (V.cls .cWeb) "sums" (spF K (F_Web_sums V).F) := by
  refine prop_of Df sc_Web_sums (fun B ds C X h => h.1) fun g cdv A outer s H E hr => ?_
  refine ⟨_, (pss_one (ps_ret (pe_tup (pa_cons pe_str (pa_cons (pe_pr f_Web_degrees hr (by decide) (pv 0)) pa_nil))))), ?_⟩
  intro Γ ds C hF
  exact body0 (n := 1) (m := 1) (s := X_Web_sums V) gd (N := N_Web_sums) rfl Γ ds C hF
abbrev s_Tournament_scores : Stmt := inClass (topS 34) 4
abbrev N_Tournament_scores : List Str := ["self", "losers"]
theorem sc_Tournament_scores : FnScope N_Tournament_scores ["self"] (defScope s_Tournament_scores) := ⟨rfl, rfl, rfl, by decide +kernel, rfl, by decide +kernel, by decide +kernel⟩
theorem cf_Tournament_scores (T : Txt K mg V) (gd : Good V K) (Df : PropF K "scores" "Tournament.scores" s_Tournament_scores (V.cls .cTour)) : PropN P w K mg base 1 (V.cls .cTour) "scores" (spF K (F_Tournament_scores V).F) := by
  refine prop_of Df sc_Tournament_scores (fun B ds C X h => h.1) fun g cdv A outer s H E hr => ?_
  refine ⟨_, (pss_one (ps_ret (pe_callTy (cr_tupK (K := K)) (by rfl) T.b_tuple PyProof.Rows.boot_tuple (pa_cons (pe_lc (own := [("losers", 1)])  rfl sc_Tournament_scores.nd  (pi_seqK (K := K) (pe_fldC T.cl_Tournament T.na_Tournament__beaten (pv 0))) (blkOk_by (N := N_Tournament_scores) (sc := defScope s_Tournament_scores) (by decide +kernel)) (fun _ _ _ _ _ => (pg_name (i := 1) sc_Tournament_scores.nd rfl (Or.inl rfl))) (fun _ _ _ _ _ => pts_nil) (fun _ _ _ _ _ => (pe_callB (cr_lenK (K := K)) (by rfl) T.b_len PySem.boot_len (pa_cons (pv 1) pa_nil)))) pa_nil)))), ?_⟩
  intro Γ ds C hF
  exact body0 (n := 1) (m := 2) (s := X_Tournament_scores V) gd (N := N_Tournament_scores) rfl Γ ds C hF
abbrev s_Tournament_sums : Stmt := inClass (topS 34) 5
abbrev N_Tournament_sums : List Str := ["self"]
theorem sc_Tournament_sums : FnScope N_Tournament_sums ["self"] (defScope s_Tournament_sums) := ⟨rfl, rfl, rfl, by decide +kernel, rfl, by decide +kernel, by decide +kernel⟩
theorem cf_Tournament_sums (T : Txt K mg V) (gd : Good V K) (f_Tournament_scores : PropN P w K mg base 1 (V.cls .cTour) "scores" (spF K (F_Tournament_scores V).F)) (Df : PropF K "sums" "Tournament.sums" s_Tournament_sums (V.cls .cTour)) : PropN P w K mg base 3 (V.cls .cTour) "sums" (spF K (F_Tournament_sums V).F) := by
  refine prop_of Df sc_Tournament_sums (fun B ds C X h => h.1) fun g cdv A outer s H E hr => ?_
  refine ⟨_, (pss_one (ps_ret (pe_tup (pa_cons pe_str (pa_cons (pe_pr f_Tournament_scores hr (by decide) (pv 0)) pa_nil))))), ?_⟩
  intro Γ ds C hF
  exact body0 (n := 1) (m := 1) (s := X_Tournament_sums V) gd (N := N_Tournament_sums) rfl Γ ds C hF
abbrev s_is_any_thing : Stmt := topS 35
abbrev N_is_any_thing : List Str := ["value"]
theorem sc_is_any_thing : FnScope N_is_any_thing ["value"] (defScope s_is_any_thing) := ⟨rfl, rfl, rfl, by decide +kernel, rfl, by decide +kernel, by decide +kernel⟩
theorem cf_is_any_thing {f : Addr} {fd : FuncData} (T : Txt K mg V) (gd : Good V K) (Df : Fun K "is_any_thing" "is_any_thing" s_is_any_thing f fd) (hm : mg "is_any_thing" = some (.ref f)) (hb : Binds K fd ["value"] []) : CF P w K mg base 1 "is_any_thing" (F_is_any_thing V).F := by
  refine cf_of Df hm hb sc_is_any_thing (fun B ds C X h => h.1) fun cdv A outer s H E hr => ?_
  refine ⟨_, (pss_one (ps_ret (pe_callB (cr_isiTK (K := K)) (by rfl) T.b_isinstance PyProof.Rows.boot_isinstance (pa_cons (pv 0) (pa_cons (pe_tup (pa_cons (C8.pe_gc (v := .ref (V.cls .cTable)) (by rfl) ⟨_, T.c_Table, rfl⟩) (pa_cons (C8.pe_gc (v := .ref (V.cls .cWeb)) (by rfl) ⟨_, T.c_Web, rfl⟩) (pa_cons (C8.pe_gc (v := .ref (V.cls .cTour)) (by rfl) ⟨_, T.c_Tournament, rfl⟩) pa_nil)))) pa_nil))))), ?_⟩
  intro Γ ds C hF
  exact body0 (n := 1) (m := 1) (s := (X_is_any_thing V)) gd (N := N_is_any_thing) rfl Γ ds C hF
abbrev s_is_thing : Stmt := topS 37
abbrev N_is_thing : List Str := ["sums", "value"]
theorem sc_is_thing : FnScope N_is_thing ["sums", "value"] (defScope s_is_thing) := ⟨rfl, rfl, rfl, by decide +kernel, rfl, by decide +kernel, by decide +kernel⟩
theorem cf_is_thing {f : Addr} {fd : FuncData} (T : Txt K mg V) (gd : Good V K) (f_Table_sums : PropN P w K mg base 3 (V.cls .cTable) "sums" (spF K (F_Table_sums V).F)) (f_Web_sums : PropN P w K mg base 3 (V.cls .cWeb) "sums" (spF K (F_Web_sums V).F)) (f_Tournament_sums : PropN P w K mg base 3 (V.cls .cTour) "sums" (spF K (F_Tournament_sums V).F)) (f_is_any_thing : CF P w K mg base 1 "is_any_thing" (F_is_any_thing V).F) (f_is_sums : CF P w K mg base 6 "is_sums" (F_is_sums V).F) (Df : Fun K "is_thing" "is_thing" s_is_thing f fd) (hm : mg "is_thing" = some (.ref f)) (hb : Binds K fd ["sums", "value"] []) : CFX P w K mg base 7 "is_thing" (F_is_thing_2 V).F := by
  refine cfx_of Df hm hb sc_is_thing (fun B ds C X h => h.1) fun cdv A outer s H E hr => ?_
  refine ⟨_, (pss_cons (ps_if (pt_not (pt_val (pe_f f_is_sums hr (by decide) (by rfl) (pa_cons (pv 0) pa_nil)) (fun _ => rfl))) (pss_one (ps_raiseO rfl (takes_of rfl rfl rfl rfl) T.x_InvalidSums (by rfl))) pss_nil)
      (pss_one (ps_ret (pe_and (pe_f f_is_any_thing hr (by decide) (by rfl) (pa_cons (pv 1) pa_nil)) (pe_one (pe_cmpR (op_eqK (K := K) hr.units) (pe_alt (pe_pr f_Table_sums hr (by decide) (pv 1)) (pe_alt (pe_pr f_Web_sums hr (by decide) (pv 1)) (pe_pr f_Tournament_sums hr (by decide) (pv 1)))) (pv 0) (nomark _))))))), ?_⟩
  intro Γ ds C hE hF
  subst hE
  exact body0 (n := 2) (m := 2) (s := (X_is_thing_2 V)) gd (N := N_is_thing) rfl Γ ds C hF
abbrev s_is_ascending : Stmt := topS 13
abbrev N_is_ascending : List Str := ["value", "many", "part", "later"]
theorem sc_is_ascending : FnScope N_is_ascending ["value", "many"] (defScope s_is_ascending) := ⟨rfl, rfl, rfl, by decide +kernel, rfl, by decide +kernel, by decide +kernel⟩
theorem cf_is_ascending {f : Addr} {fd : FuncData} (T : Txt K mg V) (gd : Good V K) (f_is_within : CF P w K mg base 2 "is_within" (F_is_within V).F) (Df : Fun K "is_ascending" "is_ascending" s_is_ascending f fd) (hm : mg "is_ascending" = some (.ref f)) (hb : Binds K fd ["value", "many"] []) : CF P w K mg base 3 "is_ascending" (F_is_ascending V).F := by
  refine cf_of Df hm hb sc_is_ascending (fun B ds C X h => h.1) fun cdv A outer s H E hr => ?_
  refine ⟨_, (pss_cons (ps_if (PW.pt (pw_or (pt_not (pt_val (pe_callB (cr_isiK (K := K)) (by rfl) T.b_isinstance PyProof.Rows.boot_isinstance (pa_cons (pv 0) (pa_cons (pe_bltn (v := .ty "tuple") (by rfl) T.b_tuple PyProof.Rows.boot_tuple rfl) pa_nil))) (fun _ => rfl))) (pw_or1 (pt_not (pt_val (pe_callB (cr_allK (K := K) rfl) (by rfl) T.b_all PyProof.Rows.boot_all (pa_cons (pe_lc (own := [("part", 2)])  rfl sc_is_ascending.nd  (pi_seqK (K := K) (pv 0)) (blkOk_by (N := N_is_ascending) (sc := defScope s_is_ascending) (by decide +kernel)) (fun _ _ _ _ _ => (pg_name (i := 2) sc_is_ascending.nd rfl (Or.inl rfl))) (fun _ _ _ _ _ => pts_nil) (fun _ _ _ _ _ => (pe_f f_is_within hr (by decide) (by rfl) (pa_cons (pv 2) (pa_cons pe_int (pa_cons (pe_op op_sub (pv 1) pe_int) pa_nil)))))) pa_nil)) (fun _ => rfl)))))) (pss_one (ps_ret pe_bl)) pss_nil)
      (pss_one (ps_ret (pe_callB (cr_allK (K := K) rfl) (by rfl) T.b_all PyProof.Rows.boot_all (pa_cons (pe_lc (own := [("part", 2), ("later", 3)])  rfl sc_is_ascending.nd  (pi_zipMK (K := K) (by rfl) T.b_zip (pa_cons (pv 0) (pa_cons (pe_slice (sl_anyK (K := K)) (pv 0) (po_some pe_int) po_none) pa_nil))) (blkOk_by (N := N_is_ascending) (sc := defScope s_is_ascending) (by decide +kernel)) (fun _ _ _ _ _ => (pg_seqK (K := K) (n := 2) rfl (pgs_cons (pg_name (i := 2) sc_is_ascending.nd rfl (Or.inl rfl)) (pgs_cons (pg_name (i := 3) sc_is_ascending.nd rfl (Or.inl rfl)) pgs_nil)))) (fun _ _ _ _ _ => pts_nil) (fun _ _ _ _ _ => (pe_cmpR op_lt (pv 2) (pv 3) (nomark _)))) pa_nil))))), ?_⟩
  intro Γ ds C hF
  exact body0 (n := 2) (m := 4) (s := (X_is_ascending V)) gd (N := N_is_ascending) rfl Γ ds C hF
abbrev s__is_barring : Stmt := topS 61
abbrev N__is_barring : List Str := ["cap", "lines", "columns", "some", "line"]
theorem sc__is_barring : FnScope N__is_barring ["cap", "lines", "columns", "some"] (defScope s__is_barring) := ⟨rfl, rfl, rfl, by decide +kernel, rfl, by decide +kernel, by decide +kernel⟩
theorem cf__is_barring {f : Addr} {fd : FuncData} (T : Txt K mg V) (gd : Good V K) (f_is_ascending : CF P w K mg base 3 "is_ascending" (F_is_ascending V).F) (f_room : CF P w K mg base 1 "room" (F_room V).F) (Df : Fun K "_is_barring" "_is_barring" s__is_barring f fd) (hm : mg "_is_barring" = some (.ref f)) (hb : Binds K fd ["cap", "lines", "columns", "some"] []) : CF P w K mg base 4 "_is_barring" (F__is_barring V).F := by
  refine cf_of Df hm hb sc__is_barring (fun B ds C X h => h.1) fun cdv A outer s H E hr => ?_
  refine ⟨_, (pss_cons (ps_if (pt_not (pt_val (pe_f f_is_ascending hr (by decide) (by rfl) (pa_cons (pv 3) (pa_cons (pe_callB (cr_lenK (K := K)) (by rfl) T.b_len PySem.boot_len (pa_cons (pv 1) pa_nil)) pa_nil))) (fun _ => rfl))) (pss_one (ps_ret pe_bl)) pss_nil)
      (pss_one (ps_ret (pe_cmpR op_gt (pe_callB (cr_sumK (K := K) rfl) (by rfl) T.b_sum PyProof.Rows.boot_sum (pa_cons (pe_lc (own := [("line", 4)])  rfl sc__is_barring.nd  (pi_seqK (K := K) (pv 3)) (blkOk_by (N := N__is_barring) (sc := defScope s__is_barring) (by decide +kernel)) (fun _ _ _ _ _ => (pg_name (i := 4) sc__is_barring.nd rfl (Or.inl rfl))) (fun _ _ _ _ _ => pts_nil) (fun _ _ _ _ _ => (pe_ix (ix_seqK (K := K)) (pv 1) (pv 4) (fun _ _ => rfl)))) pa_nil)) (pe_f f_room hr (by decide) (by rfl) (pa_cons (pv 0) (pa_cons (pe_callB (cr_lenK (K := K)) (by rfl) T.b_len PySem.boot_len (pa_cons (pv 3) pa_nil)) (pa_cons (pv 2) pa_nil)))) (nomark _))))), ?_⟩
  intro Γ ds C hF
  exact body0 (n := 4) (m := 5) (s := (X__is_barring V)) gd (N := N__is_barring) rfl Γ ds C hF
abbrev s_is_table_paper : Stmt := topS 59
abbrev N_is_table_paper : List Str := ["sums", "value", "_", "cap", "lines", "columns"]
theorem sc_is_table_paper : FnScope N_is_table_paper ["sums", "value"] (defScope s_is_table_paper) := ⟨rfl, rfl, rfl, by decide +kernel, rfl, by decide +kernel, by decide +kernel⟩
theorem cf_is_table_paper {f : Addr} {fd : FuncData} (T : Txt K mg V) (gd : Good V K) (f_is_thing : CFX P w K mg base 7 "is_thing" (F_is_thing_2 V).F) (f_check_table_sums : CFX P w K mg base 7 "check_table_sums" (F_check_table_sums V).F) (f__is_barring : CF P w K mg base 4 "_is_barring" (F__is_barring V).F) (Df : Fun K "is_table_paper" "is_table_paper" s_is_table_paper f fd) (hm : mg "is_table_paper" = some (.ref f)) (hb : Binds K fd ["sums", "value"] []) : CFX P w K mg base 8 "is_table_paper" (F_is_table_paper_2 V).F := by
  refine cfx_of Df hm hb sc_is_table_paper (fun B ds C X h => h.1) fun cdv A outer s H E hr => ?_
  refine ⟨_, (pss_cons (ps_expr (pe_cE (takes_of rfl rfl rfl rfl) (fun _ _ _ _ h => h) f_check_table_sums hr (by decide) (by rfl) (pa_cons (pv 0) pa_nil)))
      (pss_cons (ps_if (PW.pt (pw_or (pt_not (pt_val (pe_callB (cr_isiK (K := K)) (by rfl) T.b_isinstance PyProof.Rows.boot_isinstance (pa_cons (pv 1) (pa_cons (pe_bltn (v := .ty "tuple") (by rfl) T.b_tuple PyProof.Rows.boot_tuple rfl) pa_nil))) (fun _ => rfl))) (pw_or1 (pt_cmpR (op_neK (K := K) hr.units) (pe_callB (cr_lenK (K := K)) (by rfl) T.b_len PySem.boot_len (pa_cons (pv 1) pa_nil)) pe_int (nomark _))))) (pss_one (ps_ret pe_bl)) pss_nil)
      (pss_cons (ps_asg (pv 0) (pg_seqK (K := K) (n := 4) rfl (pgs_cons (pg_name (i := 2) sc_is_table_paper.nd rfl (Or.inl rfl)) (pgs_cons (pg_name (i := 3) sc_is_table_paper.nd rfl (Or.inl rfl)) (pgs_cons (pg_name (i := 4) sc_is_table_paper.nd rfl (Or.inl rfl)) (pgs_cons (pg_name (i := 5) sc_is_table_paper.nd rfl (Or.inl rfl)) pgs_nil))))))
      (pss_cons (ps_if (pt_cmpR (op_eqK (K := K) hr.units) (pe_ix (ix_seqK (K := K)) (pv 1) pe_int (fun _ _ => rfl)) pe_str (nomark _)) (pss_one (ps_ret (pe_f f__is_barring hr (by decide) (by rfl) (pa_cons (pv 3) (pa_cons (pv 4) (pa_cons (pv 5) (pa_cons (pe_ix (ix_seqK (K := K)) (pv 1) pe_int (fun _ _ => rfl)) pa_nil))))))) pss_nil)
      (pss_cons (ps_if (pt_cmpR (op_eqK (K := K) hr.units) (pe_ix (ix_seqK (K := K)) (pv 1) pe_int (fun _ _ => rfl)) pe_str (nomark _)) (pss_one (ps_ret (pe_f f__is_barring hr (by decide) (by rfl) (pa_cons (pv 3) (pa_cons (pv 5) (pa_cons (pv 4) (pa_cons (pe_ix (ix_seqK (K := K)) (pv 1) pe_int (fun _ _ => rfl)) pa_nil))))))) pss_nil)
      (pss_one (ps_ret (pe_and (pe_cmpR (op_eqK (K := K) hr.units) (pe_ix (ix_seqK (K := K)) (pv 1) pe_int (fun _ _ => rfl)) pe_str (nomark _)) (pe_one (pe_cE (takes_of rfl rfl rfl rfl) (fun _ _ _ _ h => h) f_is_thing hr (by decide) (by rfl) (pa_cons (pv 0) (pa_cons (pe_ix (ix_seqK (K := K)) (pv 1) pe_int (fun _ _ => rfl)) pa_nil)))))))))))), ?_⟩
  intro Γ ds C hE hF
  subst hE
  exact body0 (n := 2) (m := 6) (s := (X_is_table_paper_2 V)) gd (N := N_is_table_paper) rfl Γ ds C hF
abbrev s__bound : Stmt := topS 69
abbrev N__bound : List Str := ["cap", "lines", "columns", "some", "line"]
theorem sc__bound : FnScope N__bound ["cap", "lines", "columns", "some"] (defScope s__bound) := ⟨rfl, rfl, rfl, by decide +kernel, rfl, by decide +kernel, by decide +kernel⟩
theorem cf__bound {f : Addr} {fd : FuncData} (T : Txt K mg V) (gd : Good V K) (f_room : CF P w K mg base 1 "room" (F_room V).F) (Df : Fun K "_bound" "_bound" s__bound f fd) (hm : mg "_bound" = some (.ref f)) (hb : Binds K fd ["cap", "lines", "columns", "some"] []) : CF P w K mg base 2 "_bound" (F__bound V).F := by
  refine cf_of Df hm hb sc__bound (fun B ds C X h => h.1) fun cdv A outer s H E hr => ?_
  refine ⟨_, (pss_one (ps_ret (pe_op (op_addK (K := K)) (pe_op op_sub (pe_callB (cr_sumK (K := K) rfl) (by rfl) T.b_sum PyProof.Rows.boot_sum (pa_cons (pv 1) pa_nil)) (pe_callB (cr_sumK (K := K) rfl) (by rfl) T.b_sum PyProof.Rows.boot_sum (pa_cons (pe_lc (own := [("line", 4)])  rfl sc__bound.nd  (pi_seqK (K := K) (pv 3)) (blkOk_by (N := N__bound) (sc := defScope s__bound) (by decide +kernel)) (fun _ _ _ _ _ => (pg_name (i := 4) sc__bound.nd rfl (Or.inl rfl))) (fun _ _ _ _ _ => pts_nil) (fun _ _ _ _ _ => (pe_ix (ix_seqK (K := K)) (pv 1) (pv 4) (fun _ _ => rfl)))) pa_nil))) (pe_f f_room hr (by decide) (by rfl) (pa_cons (pv 0) (pa_cons (pe_callB (cr_lenK (K := K)) (by rfl) T.b_len PySem.boot_len (pa_cons (pv 3) pa_nil)) (pa_cons (pv 2) pa_nil))))))), ?_⟩
  intro Γ ds C hF
  exact body0 (n := 4) (m := 5) (s := (X__bound V)) gd (N := N__bound) rfl Γ ds C hF
abbrev s__bounds : Stmt := topS 70
abbrev N__bounds : List Str := ["cap", "lines", "columns", "many"]
theorem sc__bounds : FnScope N__bounds ["cap", "lines", "columns"] (defScope s__bounds) := ⟨rfl, rfl, rfl, by decide +kernel, rfl, by decide +kernel, by decide +kernel⟩
theorem cf__bounds {f : Addr} {fd : FuncData} (T : Txt K mg V) (gd : Good V K) (f_greatest_places : CF P w K mg base 2 "greatest_places" (F_greatest_places V).F) (f__bound : CF P w K mg base 2 "_bound" (F__bound V).F) (Df : Fun K "_bounds" "_bounds" s__bounds f fd) (hm : mg "_bounds" = some (.ref f)) (hb : Binds K fd ["cap", "lines", "columns"] []) : CF P w K mg base 3 "_bounds" (F__bounds V).F := by
  refine cf_of Df hm hb sc__bounds (fun B ds C X h => h.1) fun cdv A outer s H E hr => ?_
  refine ⟨_, (pss_one (ps_ret (pe_lc (own := [("many", 3)])  rfl sc__bounds.nd  (pi_range1 (by rfl) T.b_range (pa_cons (pe_op (op_addK (K := K)) (pe_callB (cr_lenK (K := K)) (by rfl) T.b_len PySem.boot_len (pa_cons (pv 1) pa_nil)) pe_int) pa_nil)) (blkOk_by (N := N__bounds) (sc := defScope s__bounds) (by decide +kernel)) (fun _ _ _ _ _ => (pg_name (i := 3) sc__bounds.nd rfl (Or.inl rfl))) (fun _ _ _ _ _ => pts_nil) (fun _ _ _ _ _ => (pe_f f__bound hr (by decide) (by rfl) (pa_cons (pv 0) (pa_cons (pv 1) (pa_cons (pv 2) (pa_cons (pe_f f_greatest_places hr (by decide) (by rfl) (pa_cons (pv 1) (pa_cons (pv 3) pa_nil))) pa_nil))))))))), ?_⟩
  intro Γ ds C hF
  exact body0 (n := 3) (m := 4) (s := (X__bounds V)) gd (N := N__bounds) rfl Γ ds C hF
abbrev s_most_units : Stmt := topS 64
abbrev N_most_units : List Str := ["sums", "_", "cap", "lines", "columns"]
theorem sc_most_units : FnScope N_most_units ["sums"] (defScope s_most_units) := ⟨rfl, rfl, rfl, by decide +kernel, rfl, by decide +kernel, by decide +kernel⟩
theorem cf_most_units {f : Addr} {fd : FuncData} (T : Txt K mg V) (gd : Good V K) (f_check_table_sums : CFX P w K mg base 7 "check_table_sums" (F_check_table_sums V).F) (f__bounds : CF P w K mg base 3 "_bounds" (F__bounds V).F) (Df : Fun K "most_units" "most_units" s_most_units f fd) (hm : mg "most_units" = some (.ref f)) (hb : Binds K fd ["sums"] []) : CFX P w K mg base 8 "most_units" (F_most_units V).F := by
  refine cfx_of Df hm hb sc_most_units (fun B ds C X h => h.1) fun cdv A outer s H E hr => ?_
  refine ⟨_, (pss_cons (ps_expr (pe_cE (takes_of rfl rfl rfl rfl) (fun _ _ _ _ h => h) f_check_table_sums hr (by decide) (by rfl) (pa_cons (pv 0) pa_nil)))
      (pss_cons (ps_asg (pv 0) (pg_seqK (K := K) (n := 4) rfl (pgs_cons (pg_name (i := 1) sc_most_units.nd rfl (Or.inl rfl)) (pgs_cons (pg_name (i := 2) sc_most_units.nd rfl (Or.inl rfl)) (pgs_cons (pg_name (i := 3) sc_most_units.nd rfl (Or.inl rfl)) (pgs_cons (pg_name (i := 4) sc_most_units.nd rfl (Or.inl rfl)) pgs_nil))))))
      (pss_one (ps_ret (pe_callB (cr_min4K (K := K) rfl) (by rfl) T.b_min PyProof.Rows.boot_min (pa_cons (pe_f f__bounds hr (by decide) (by rfl) (pa_cons (pv 2) (pa_cons (pv 3) (pa_cons (pv 4) pa_nil)))) pa_nil)))))), ?_⟩
  intro Γ ds C hE hF
  subst hE
  exact body0 (n := 1) (m := 5) (s := (X_most_units V)) gd (N := N_most_units) rfl Γ ds C hF
abbrev s__lessened : Stmt := topS 71
abbrev N__lessened : List Str := ["cap", "lines", "columns", "most", "less", "line", "without", "needed"]
theorem sc__lessened : FnScope N__lessened ["cap", "lines", "columns"] (defScope s__lessened) := ⟨rfl, rfl, rfl, by decide +kernel, rfl, by decide +kernel, by decide +kernel⟩
theorem cf__lessened {f : Addr} {fd : FuncData} (T : Txt K mg V) (gd : Good V K) (f__bounds : CF P w K mg base 3 "_bounds" (F__bounds V).F) (Df : Fun K "_lessened" "_lessened" s__lessened f fd) (hm : mg "_lessened" = some (.ref f)) (hb : Binds K fd ["cap", "lines", "columns"] []) : CF P w K mg base 4 "_lessened" (F__lessened V).F := by
  refine cf_of Df hm hb sc__lessened (fun B ds C X h => h.1) fun cdv A outer s H E hr => ?_
  refine ⟨_, (pss_cons (ps_set (i := 3) sc__lessened.nd rfl (Or.inl rfl) (pe_callB (cr_min4K (K := K) rfl) (by rfl) T.b_min PyProof.Rows.boot_min (pa_cons (pe_f f__bounds hr (by decide) (by rfl) (pa_cons (pv 0) (pa_cons (pv 1) (pa_cons (pv 2) pa_nil)))) pa_nil)))
      (pss_cons (ps_set (i := 4) sc__lessened.nd rfl (Or.inl rfl) (pv 1))
      (pss_cons (ps_for PassesOwn.never rfl (pi_range1 (by rfl) T.b_range (pa_cons (pe_callB (cr_lenK (K := K)) (by rfl) T.b_len PySem.boot_len (pa_cons (pv 1) pa_nil)) pa_nil)) (pg_name (i := 5) sc__lessened.nd rfl (Or.inl rfl)) (pss_cons (ps_set (i := 6) sc__lessened.nd rfl (Or.inl rfl) (pe_op (op_addK (K := K)) (pe_op (op_addK (K := K)) (pe_slice (sl_anyK (K := K)) (pv 4) po_none (po_some (pv 5))) (pe_tup (pa_cons pe_int pa_nil))) (pe_slice (sl_anyK (K := K)) (pv 4) (po_some (pe_op (op_addK (K := K)) (pv 5) pe_int)) po_none)))
      (pss_cons (ps_set (i := 7) sc__lessened.nd rfl (Or.inl rfl) (pe_op op_sub (pv 3) (pe_callB (cr_min4K (K := K) rfl) (by rfl) T.b_min PyProof.Rows.boot_min (pa_cons (pe_f f__bounds hr (by decide) (by rfl) (pa_cons (pv 0) (pa_cons (pv 6) (pa_cons (pv 2) pa_nil)))) pa_nil))))
      (pss_one (ps_set (i := 4) sc__lessened.nd rfl (Or.inl rfl) (pe_op (op_addK (K := K)) (pe_op (op_addK (K := K)) (pe_slice (sl_anyK (K := K)) (pv 4) po_none (po_some (pv 5))) (pe_tup (pa_cons (pv 7) pa_nil))) (pe_slice (sl_anyK (K := K)) (pv 4) (po_some (pe_op (op_addK (K := K)) (pv 5) pe_int)) po_none)))))))
      (pss_one (ps_ret (pv 4)))))), ?_⟩
  intro Γ ds C hF
  exact body0 (n := 3) (m := 8) (s := (X__lessened V)) gd (N := N__lessened) rfl Γ ds C hF
abbrev s_nearest_sums : Stmt := topS 68
abbrev N_nearest_sums : List Str := ["sums", "_", "cap", "lines", "columns", "less"]
theorem sc_nearest_sums : FnScope N_nearest_sums ["sums"] (defScope s_nearest_sums) := ⟨rfl, rfl, rfl, by decide +kernel, rfl, by decide +kernel, by decide +kernel⟩
theorem cf_nearest_sums {f : Addr} {fd : FuncData} (T : Txt K mg V) (gd : Good V K) (f_check_table_sums : CFX P w K mg base 7 "check_table_sums" (F_check_table_sums V).F) (f__lessened : CF P w K mg base 4 "_lessened" (F__lessened V).F) (Df : Fun K "nearest_sums" "nearest_sums" s_nearest_sums f fd) (hm : mg "nearest_sums" = some (.ref f)) (hb : Binds K fd ["sums"] []) : CFX P w K mg base 8 "nearest_sums" (F_nearest_sums V).F := by
  refine cfx_of Df hm hb sc_nearest_sums (fun B ds C X h => h.1) fun cdv A outer s H E hr => ?_
  refine ⟨_, (pss_cons (ps_expr (pe_cE (takes_of rfl rfl rfl rfl) (fun _ _ _ _ h => h) f_check_table_sums hr (by decide) (by rfl) (pa_cons (pv 0) pa_nil)))
      (pss_cons (ps_asg (pv 0) (pg_seqK (K := K) (n := 4) rfl (pgs_cons (pg_name (i := 1) sc_nearest_sums.nd rfl (Or.inl rfl)) (pgs_cons (pg_name (i := 2) sc_nearest_sums.nd rfl (Or.inl rfl)) (pgs_cons (pg_name (i := 3) sc_nearest_sums.nd rfl (Or.inl rfl)) (pgs_cons (pg_name (i := 4) sc_nearest_sums.nd rfl (Or.inl rfl)) pgs_nil))))))
      (pss_cons (ps_set (i := 5) sc_nearest_sums.nd rfl (Or.inl rfl) (pe_f f__lessened hr (by decide) (by rfl) (pa_cons (pv 2) (pa_cons (pv 3) (pa_cons (pv 4) pa_nil)))))
      (pss_one (ps_ret (pe_tup (pa_cons pe_str (pa_cons (pv 2) (pa_cons (pv 5) (pa_cons (pe_f f__lessened hr (by decide) (by rfl) (pa_cons (pv 2) (pa_cons (pv 4) (pa_cons (pv 5) pa_nil)))) pa_nil)))))))))), ?_⟩
  intro Γ ds C hE hF
  subst hE
  exact body0 (n := 1) (m := 6) (s := (X_nearest_sums V)) gd (N := N_nearest_sums) rfl Γ ds C hF
abbrev s_most_paper : Stmt := topS 65
abbrev N_most_paper : List Str := ["sums", "_", "cap", "lines", "columns", "bounds"]
theorem sc_most_paper : FnScope N_most_paper ["sums"] (defScope s_most_paper) := ⟨rfl, rfl, rfl, by decide +kernel, rfl, by decide +kernel, by decide +kernel⟩
theorem cf_most_paper {f : Addr} {fd : FuncData} (T : Txt K mg V) (gd : Good V K) (f_greatest_places : CF P w K mg base 2 "greatest_places" (F_greatest_places V).F) (f_check_table_sums : CFX P w K mg base 7 "check_table_sums" (F_check_table_sums V).F) (f_made_table : CFX P w K mg base 9 "made_table" (F_made_table_2_nk24 V).F) (f_nearest_sums : CFX P w K mg base 8 "nearest_sums" (F_nearest_sums V).F) (f__bounds : CF P w K mg base 3 "_bounds" (F__bounds V).F) (Df : Fun K "most_paper" "most_paper" s_most_paper f fd) (hm : mg "most_paper" = some (.ref f)) (hb : Binds K fd ["sums"] []) : CFX P w K mg base 10 "most_paper" (F_most_paper_2_nk24 V).F := by
  refine cfx_of Df hm hb sc_most_paper (fun B ds C X h => h.1) fun cdv A outer s H E hr => ?_
  refine ⟨_, (pss_cons (ps_expr (pe_cE (takes_of rfl rfl rfl rfl) (fun _ _ _ _ h => h) f_check_table_sums hr (by decide) (by rfl) (pa_cons (pv 0) pa_nil)))
      (pss_cons (ps_asg (pv 0) (pg_seqK (K := K) (n := 4) rfl (pgs_cons (pg_name (i := 1) sc_most_paper.nd rfl (Or.inl rfl)) (pgs_cons (pg_name (i := 2) sc_most_paper.nd rfl (Or.inl rfl)) (pgs_cons (pg_name (i := 3) sc_most_paper.nd rfl (Or.inl rfl)) (pgs_cons (pg_name (i := 4) sc_most_paper.nd rfl (Or.inl rfl)) pgs_nil))))))
      (pss_cons (ps_set (i := 5) sc_most_paper.nd rfl (Or.inl rfl) (pe_f f__bounds hr (by decide) (by rfl) (pa_cons (pv 2) (pa_cons (pv 3) (pa_cons (pv 4) pa_nil)))))
      pss_never))), ?_⟩
  intro Γ ds C hE hF
  subst hE
  exact body0 (n := 1) (m := 6) (s := (X_most_paper_2_nk24 V)) gd (N := N_most_paper) rfl Γ ds C hF
abbrev s_Table_units : Stmt := inClass (topS 32) 6
abbrev N_Table_units : List Str := ["self", "cells"]
theorem sc_Table_units : FnScope N_Table_units ["self"] (defScope s_Table_units) := ⟨rfl, rfl, rfl, by decide +kernel, rfl, by decide +kernel, by decide +kernel⟩
theorem cf_Table_units (T : Txt K mg V) (gd : Good V K) (Df : PropF K "units" "Table.units" s_Table_units (V.cls .cTable)) : PropN P w K mg base 1 (V.cls .cTable) "units" (spF K (F_Table_units V).F) := by
  refine prop_of Df sc_Table_units (fun B ds C X h => h.1) fun g cdv A outer s H E hr => ?_
  refine ⟨_, (pss_one (ps_ret (pe_callB (cr_sumK (K := K) rfl) (by rfl) T.b_sum PyProof.Rows.boot_sum (pa_cons (pe_lc (own := [("cells", 1)])  rfl sc_Table_units.nd  (pi_seqK (K := K) (pe_fldC T.cl_Table T.na_Table__lines (pv 0))) (blkOk_by (N := N_Table_units) (sc := defScope s_Table_units) (by decide +kernel)) (fun _ _ _ _ _ => (pg_name (i := 1) sc_Table_units.nd rfl (Or.inl rfl))) (fun _ _ _ _ _ => pts_nil) (fun _ _ _ _ _ => (pe_callB (cr_sumK (K := K) rfl) (by rfl) T.b_sum PyProof.Rows.boot_sum (pa_cons (pv 1) pa_nil)))) pa_nil)))), ?_⟩
  intro Γ ds C hF
  exact body0 (n := 1) (m := 2) (s := X_Table_units V) gd (N := N_Table_units) rfl Γ ds C hF
abbrev s_Table_cap : Stmt := inClass (topS 32) 2
abbrev N_Table_cap : List Str := ["self"]
theorem sc_Table_cap : FnScope N_Table_cap ["self"] (defScope s_Table_cap) := ⟨rfl, rfl, rfl, by decide +kernel, rfl, by decide +kernel, by decide +kernel⟩
theorem cf_Table_cap (T : Txt K mg V) (gd : Good V K) (Df : PropF K "cap" "Table.cap" s_Table_cap (V.cls .cTable)) : PropN P w K mg base 1 (V.cls .cTable) "cap" (spF K (F_Table_cap V).F) := by
  refine prop_of Df sc_Table_cap (fun B ds C X h => h.1) fun g cdv A outer s H E hr => ?_
  refine ⟨_, (pss_one (ps_ret (pe_fldC T.cl_Table T.na_Table__cap (pv 0)))), ?_⟩
  intro Γ ds C hF
  exact body0 (n := 1) (m := 1) (s := X_Table_cap V) gd (N := N_Table_cap) rfl Γ ds C hF
abbrev s__is_placing : Stmt := topS 72
abbrev N__is_placing : List Str := ["cap", "lines", "columns", "value", "held", "number", "most"]
theorem sc__is_placing : FnScope N__is_placing ["cap", "lines", "columns", "value"] (defScope s__is_placing) := ⟨rfl, rfl, rfl, by decide +kernel, rfl, by decide +kernel, by decide +kernel⟩
theorem cf__is_placing {f : Addr} {fd : FuncData} (T : Txt K mg V) (gd : Good V K) (f_Table_cap : PropN P w K mg base 1 (V.cls .cTable) "cap" (spF K (F_Table_cap V).F)) (f_Table_line_sums : PropN P w K mg base 1 (V.cls .cTable) "line_sums" (spF K (F_Table_line_sums V).F)) (f_Table_column_sums : PropN P w K mg base 1 (V.cls .cTable) "column_sums" (spF K (F_Table_column_sums V).F)) (Df : Fun K "_is_placing" "_is_placing" s__is_placing f fd) (hm : mg "_is_placing" = some (.ref f)) (hb : Binds K fd ["cap", "lines", "columns", "value"] []) : CF P w K mg base 3 "_is_placing" (F__is_placing_2 V).F := by
  refine cf_of Df hm hb sc__is_placing (fun B ds C X h => h.1) fun cdv A outer s H E hr => ?_
  refine ⟨_, (pss_cons (ps_if (PW.pt (pw_or (pt_not (pt_val (pe_callB (cr_isiK (K := K)) (by rfl) T.b_isinstance PyProof.Rows.boot_isinstance (pa_cons (pv 3) (pa_cons (C8.pe_gc (v := .ref (V.cls .cTable)) (by rfl) ⟨_, T.c_Table, rfl⟩) pa_nil))) (fun _ => rfl))) (pw_or1 (pt_cmpR (op_neK (K := K) hr.units) (pe_pr f_Table_cap hr (by decide) (pv 3)) (pv 0) (nomark _))))) (pss_one (ps_ret pe_bl)) pss_nil)
      (pss_cons (ps_if (PW.pt (pw_or (pt_cmpR (op_neK (K := K) hr.units) (pe_callB (cr_lenK (K := K)) (by rfl) T.b_len PySem.boot_len (pa_cons (pe_pr f_Table_line_sums hr (by decide) (pv 3)) pa_nil)) (pe_callB (cr_lenK (K := K)) (by rfl) T.b_len PySem.boot_len (pa_cons (pv 1) pa_nil)) (nomark _)) (pw_or1 (pt_cmpR (op_neK (K := K) hr.units) (pe_callB (cr_lenK (K := K)) (by rfl) T.b_len PySem.boot_len (pa_cons (pe_pr f_Table_column_sums hr (by decide) (pv 3)) pa_nil)) (pe_callB (cr_lenK (K := K)) (by rfl) T.b_len PySem.boot_len (pa_cons (pv 2) pa_nil)) (nomark _))))) (pss_one (ps_ret pe_bl)) pss_nil)
      (pss_cons (ps_set (i := 4) sc__is_placing.nd rfl (Or.inl rfl) (pe_op (op_addK (K := K)) (pe_pr f_Table_line_sums hr (by decide) (pv 3)) (pe_pr f_Table_column_sums hr (by decide) (pv 3))))
      (pss_one (ps_ret (pe_callB (cr_allK (K := K) rfl) (by rfl) T.b_all PyProof.Rows.boot_all (pa_cons (pe_lc (own := [("number", 5), ("most", 6)])  rfl sc__is_placing.nd  (pi_zipMK (K := K) (by rfl) T.b_zip (pa_cons (pv 4) (pa_cons (pe_op (op_addK (K := K)) (pv 1) (pv 2)) pa_nil))) (blkOk_by (N := N__is_placing) (sc := defScope s__is_placing) (by decide +kernel)) (fun _ _ _ _ _ => (pg_seqK (K := K) (n := 2) rfl (pgs_cons (pg_name (i := 5) sc__is_placing.nd rfl (Or.inl rfl)) (pgs_cons (pg_name (i := 6) sc__is_placing.nd rfl (Or.inl rfl)) pgs_nil)))) (fun _ _ _ _ _ => pts_nil) (fun _ _ _ _ _ => (pe_cmpR op_le (pv 5) (pv 6) (nomark _)))) pa_nil))))))), ?_⟩
  intro Γ ds C hF
  exact body0 (n := 4) (m := 7) (s := (X__is_placing_2 V)) gd (N := N__is_placing) rfl Γ ds C hF
abbrev s_is_most_paper : Stmt := topS 66
abbrev N_is_most_paper : List Str := ["sums", "value", "table", "some", "_", "cap", "lines", "columns"]
theorem sc_is_most_paper : FnScope N_is_most_paper ["sums", "value"] (defScope s_is_most_paper) := ⟨rfl, rfl, rfl, by decide +kernel, rfl, by decide +kernel, by decide +kernel⟩
theorem cf_is_most_paper {f : Addr} {fd : FuncData} (T : Txt K mg V) (gd : Good V K) (f_is_ascending : CF P w K mg base 3 "is_ascending" (F_is_ascending V).F) (f_Table_units : PropN P w K mg base 1 (V.cls .cTable) "units" (spF K (F_Table_units V).F)) (f_check_table_sums : CFX P w K mg base 7 "check_table_sums" (F_check_table_sums V).F) (f__bound : CF P w K mg base 2 "_bound" (F__bound V).F) (f__is_placing : CF P w K mg base 3 "_is_placing" (F__is_placing_2 V).F) (Df : Fun K "is_most_paper" "is_most_paper" s_is_most_paper f fd) (hm : mg "is_most_paper" = some (.ref f)) (hb : Binds K fd ["sums", "value"] []) : CFX P w K mg base 8 "is_most_paper" (F_is_most_paper_2 V).F := by
  refine cfx_of Df hm hb sc_is_most_paper (fun B ds C X h => h.1) fun cdv A outer s H E hr => ?_
  refine ⟨_, (pss_cons (ps_expr (pe_cE (takes_of rfl rfl rfl rfl) (fun _ _ _ _ h => h) f_check_table_sums hr (by decide) (by rfl) (pa_cons (pv 0) pa_nil)))
      (pss_cons (ps_if (PW.pt (pw_or (pt_not (pt_val (pe_callB (cr_isiK (K := K)) (by rfl) T.b_isinstance PyProof.Rows.boot_isinstance (pa_cons (pv 1) (pa_cons (pe_bltn (v := .ty "tuple") (by rfl) T.b_tuple PyProof.Rows.boot_tuple rfl) pa_nil))) (fun _ => rfl))) (pw_or1 (pt_cmpR (op_neK (K := K) hr.units) (pe_callB (cr_lenK (K := K)) (by rfl) T.b_len PySem.boot_len (pa_cons (pv 1) pa_nil)) pe_int (nomark _))))) (pss_one (ps_ret pe_bl)) pss_nil)
      (pss_cons (ps_asg (pv 1) (pg_seqK (K := K) (n := 2) rfl (pgs_cons (pg_name (i := 2) sc_is_most_paper.nd rfl (Or.inl rfl)) (pgs_cons (pg_name (i := 3) sc_is_most_paper.nd rfl (Or.inl rfl)) pgs_nil))))
      (pss_cons (ps_asg (pv 0) (pg_seqK (K := K) (n := 4) rfl (pgs_cons (pg_name (i := 4) sc_is_most_paper.nd rfl (Or.inl rfl)) (pgs_cons (pg_name (i := 5) sc_is_most_paper.nd rfl (Or.inl rfl)) (pgs_cons (pg_name (i := 6) sc_is_most_paper.nd rfl (Or.inl rfl)) (pgs_cons (pg_name (i := 7) sc_is_most_paper.nd rfl (Or.inl rfl)) pgs_nil))))))
      (pss_cons (ps_if (PW.pt (pw_or (pt_not (pt_val (pe_f f__is_placing hr (by decide) (by rfl) (pa_cons (pv 5) (pa_cons (pv 6) (pa_cons (pv 7) (pa_cons (pv 2) pa_nil))))) (fun _ => rfl))) (pw_or1 (pt_not (pt_val (pe_f f_is_ascending hr (by decide) (by rfl) (pa_cons (pv 3) (pa_cons (pe_callB (cr_lenK (K := K)) (by rfl) T.b_len PySem.boot_len (pa_cons (pv 6) pa_nil)) pa_nil))) (fun _ => rfl)))))) (pss_one (ps_ret pe_bl)) pss_nil)
      (pss_one (ps_ret (pe_cmpR (op_eqK (K := K) hr.units) (pe_pr f_Table_units hr (by decide) (pv 2)) (pe_f f__bound hr (by decide) (by rfl) (pa_cons (pv 5) (pa_cons (pv 6) (pa_cons (pv 7) (pa_cons (pv 3) pa_nil))))) (nomark _))))))))), ?_⟩
  intro Γ ds C hE hF
  subst hE
  exact body0 (n := 2) (m := 8) (s := (X_is_most_paper_2 V)) gd (N := N_is_most_paper) rfl Γ ds C hF
abbrev s_fewest_taken : Stmt := topS 67
abbrev N_fewest_taken : List Str := ["sums", "most"]
theorem sc_fewest_taken : FnScope N_fewest_taken ["sums"] (defScope s_fewest_taken) := ⟨rfl, rfl, rfl, by decide +kernel, rfl, by decide +kernel, by decide +kernel⟩
theorem cf_fewest_taken {f : Addr} {fd : FuncData} (T : Txt K mg V) (gd : Good V K) (f_most_units : CFX P w K mg base 8 "most_units" (F_most_units V).F) (Df : Fun K "fewest_taken" "fewest_taken" s_fewest_taken f fd) (hm : mg "fewest_taken" = some (.ref f)) (hb : Binds K fd ["sums"] []) : CFX P w K mg base 9 "fewest_taken" (F_fewest_taken V).F := by
  refine cfx_of Df hm hb sc_fewest_taken (fun B ds C X h => h.1) fun cdv A outer s H E hr => ?_
  refine ⟨_, (pss_cons (ps_set (i := 1) sc_fewest_taken.nd rfl (Or.inl rfl) (pe_cE (takes_of rfl rfl rfl rfl) (fun _ _ _ _ h => h) f_most_units hr (by decide) (by rfl) (pa_cons (pv 0) pa_nil)))
      (pss_one (ps_ret (pe_op op_sub (pe_op (op_addK (K := K)) (pe_callB (cr_sumK (K := K) rfl) (by rfl) T.b_sum PyProof.Rows.boot_sum (pa_cons (pe_ix (ix_seqK (K := K)) (pv 0) pe_int (fun _ _ => rfl)) pa_nil)) (pe_callB (cr_sumK (K := K) rfl) (by rfl) T.b_sum PyProof.Rows.boot_sum (pa_cons (pe_ix (ix_seqK (K := K)) (pv 0) pe_int (fun _ _ => rfl)) pa_nil))) (pe_op (op_mulK (K := K)) pe_int (pv 1)))))), ?_⟩
  intro Γ ds C hE hF
  subst hE
  exact body0 (n := 1) (m := 2) (s := (X_fewest_taken V)) gd (N := N_fewest_taken) rfl Γ ds C hF
abbrev s__law_pick : Stmt := topS 76
abbrev N__law_pick : List Str := ["_law_urn_here", "_law_items"]
theorem sc__law_pick : FnScope N__law_pick ["_law_urn_here", "_law_items"] (defScope s__law_pick) := ⟨rfl, rfl, rfl, by decide +kernel, rfl, by decide +kernel, by decide +kernel⟩
theorem cf__law_pick {f : Addr} {fd : FuncData} (T : Txt K mg V) (gd : Good V K) (f__law_ball : CF P w K mg base 1 "_law_ball" ladleF.F) (Df : Fun K "_law_pick" "_law_pick" s__law_pick f fd) (hm : mg "_law_pick" = some (.ref f)) (hb : Binds K fd ["_law_urn_here", "_law_items"] []) : CF P w K mg base 2 "_law_pick" (F__law_pick_2 V).F := by
  refine cf_of Df hm hb sc__law_pick (fun B ds C X h => h.1) fun cdv A outer s H E hr => ?_
  refine ⟨_, (pss_one (ps_ret (pe_ix (ix_seqK (K := K)) (pv 1) (pe_f f__law_ball hr (by decide) (by rfl) (pa_cons (pv 0) (pa_cons (pe_callB (cr_lenK (K := K)) (by rfl) T.b_len PySem.boot_len (pa_cons (pv 1) pa_nil)) pa_nil))) (fun _ _ => rfl)))), ?_⟩
  intro Γ ds C hF
  exact body0 (n := 2) (m := 2) (s := (X__law_pick_2 V)) gd (N := N__law_pick) rfl Γ ds C hF
abbrev s__law_wrong_sums : Stmt := topS 78
abbrev N__law_wrong_sums : List Str := ["_law_urn_here", "_law_found"]
theorem sc__law_wrong_sums : FnScope N__law_wrong_sums ["_law_urn_here"] (defScope s__law_wrong_sums) := ⟨rfl, rfl, rfl, by decide +kernel, rfl, by decide +kernel, by decide +kernel⟩
theorem cf__law_wrong_sums {f : Addr} {fd : FuncData} (T : Txt K mg V) (gd : Good V K) (f__law_pick : CF P w K mg base 2 "_law_pick" (F__law_pick_2 V).F) (Df : Fun K "_law_wrong_sums" "_law_wrong_sums" s__law_wrong_sums f fd) (hm : mg "_law_wrong_sums" = some (.ref f)) (hb : Binds K fd ["_law_urn_here"] []) : CF P w K mg base 3 "_law_wrong_sums" (F__law_wrong_sums V).F := by
  refine cf_of Df hm hb sc__law_wrong_sums (fun B ds C X h => h.1) fun cdv A outer s H E hr => ?_
  refine ⟨_, (pss_cons (ps_set (i := 1) sc__law_wrong_sums.nd rfl (Or.inl rfl) (pe_lst (pa_cons pe_non (pa_cons pe_int (pa_cons (pe_tup pa_nil) (pa_cons pe_str (pa_cons (pe_tup (pa_cons pe_str pa_nil)) (pa_cons (pe_tup (pa_cons pe_str (pa_cons pe_int (pa_cons (pe_tup (pa_cons pe_int pa_nil)) pa_nil)))) (pa_cons (pe_tup (pa_cons pe_str (pa_cons pe_int (pa_cons (pe_tup (pa_cons pe_int pa_nil)) (pa_cons (pe_tup (pa_cons pe_int pa_nil)) pa_nil))))) (pa_cons (pe_tup (pa_cons pe_str (pa_cons pe_int (pa_cons (pe_tup (pa_cons pe_int pa_nil)) (pa_cons (pe_tup (pa_cons pe_int pa_nil)) pa_nil))))) pa_nil))))))))))
      (pss_cons (ps_set (i := 1) sc__law_wrong_sums.nd rfl (Or.inl rfl) (pe_op (op_addK (K := K)) (pv 1) (pe_lst (pa_cons (pe_tup (pa_cons pe_str (pa_cons pe_bl (pa_cons (pe_tup (pa_cons pe_int pa_nil)) (pa_cons (pe_tup (pa_cons pe_int pa_nil)) pa_nil))))) (pa_cons (pe_tup (pa_cons pe_str (pa_cons pe_int (pa_cons (pe_tup pa_nil) (pa_cons (pe_tup (pa_cons pe_int pa_nil)) pa_nil))))) (pa_cons (pe_tup (pa_cons pe_str (pa_cons pe_int (pa_cons (pe_tup (pa_cons pe_int pa_nil)) (pa_cons (pe_tup pa_nil) pa_nil))))) pa_nil))))))
      (pss_cons (ps_set (i := 1) sc__law_wrong_sums.nd rfl (Or.inl rfl) (pe_op (op_addK (K := K)) (pv 1) (pe_lst (pa_cons (pe_tup (pa_cons pe_str (pa_cons pe_int (pa_cons (pe_lst (pa_cons pe_int pa_nil)) (pa_cons (pe_tup (pa_cons pe_int pa_nil)) pa_nil))))) (pa_cons (pe_tup (pa_cons pe_str (pa_cons pe_int (pa_cons (pe_tup (pa_cons pe_int pa_nil)) (pa_cons (pe_lst (pa_cons pe_int pa_nil)) pa_nil))))) pa_nil)))))
      (pss_cons (ps_set (i := 1) sc__law_wrong_sums.nd rfl (Or.inl rfl) (pe_op (op_addK (K := K)) (pv 1) (pe_lst (pa_cons (pe_tup (pa_cons pe_str (pa_cons pe_int (pa_cons (pe_op (op_mulK (K := K)) (pe_tup (pa_cons pe_int pa_nil)) pe_int) (pa_cons (pe_tup (pa_cons pe_int pa_nil)) pa_nil))))) (pa_cons (pe_tup (pa_cons pe_str (pa_cons pe_int (pa_cons (pe_tup (pa_cons pe_int pa_nil)) (pa_cons (pe_op (op_mulK (K := K)) (pe_tup (pa_cons pe_int pa_nil)) pe_int) pa_nil))))) (pa_cons (pe_tup (pa_cons pe_str (pa_cons pe_int (pa_cons (pe_tup (pa_cons (pe_un un_neg pe_int) pa_nil)) (pa_cons (pe_tup (pa_cons pe_int pa_nil)) pa_nil))))) pa_nil))))))
      (pss_cons (ps_set (i := 1) sc__law_wrong_sums.nd rfl (Or.inl rfl) (pe_op (op_addK (K := K)) (pv 1) (pe_lst (pa_cons (pe_tup (pa_cons pe_str (pa_cons pe_int (pa_cons (pe_tup (pa_cons pe_bl pa_nil)) (pa_cons (pe_tup (pa_cons pe_int pa_nil)) pa_nil))))) (pa_cons (pe_tup (pa_cons pe_str (pa_cons pe_int (pa_cons (pe_tup (pa_cons pe_non pa_nil)) (pa_cons (pe_tup (pa_cons pe_int pa_nil)) pa_nil))))) (pa_cons (pe_tup (pa_cons pe_str (pa_cons pe_int (pa_cons (pe_tup (pa_cons (pe_op op_powW pe_int pe_int) pa_nil)) (pa_cons (pe_tup (pa_cons pe_int pa_nil)) pa_nil))))) pa_nil))))))
      (pss_cons (ps_set (i := 1) sc__law_wrong_sums.nd rfl (Or.inl rfl) (pe_op (op_addK (K := K)) (pv 1) (pe_lst (pa_cons (pe_tup (pa_cons pe_str (pa_cons (pe_tup (pa_cons pe_int (pa_cons pe_int pa_nil))) pa_nil))) (pa_cons (pe_tup (pa_cons pe_str (pa_cons (pe_tup (pa_cons pe_int (pa_cons pe_int pa_nil))) pa_nil))) (pa_cons (pe_lst (pa_cons pe_str (pa_cons pe_int (pa_cons (pe_tup (pa_cons pe_int pa_nil)) (pa_cons (pe_tup (pa_cons pe_int pa_nil)) pa_nil))))) (pa_cons (pe_tup (pa_cons pe_str (pa_cons pe_int (pa_cons (pe_tup (pa_cons pe_int pa_nil)) (pa_cons (pe_tup (pa_cons pe_int pa_nil)) pa_nil))))) pa_nil)))))))
      (pss_one (ps_ret (pe_f f__law_pick hr (by decide) (by rfl) (pa_cons (pv 0) (pa_cons (pe_op (op_addK (K := K)) (pv 1) (pe_lst (pa_cons (pe_tup (pa_cons pe_str (pa_cons pe_str (pa_cons (pe_tup (pa_cons pe_int pa_nil)) (pa_cons (pe_tup (pa_cons pe_int pa_nil)) pa_nil))))) (pa_cons (pe_tup (pa_cons pe_str (pa_cons pe_int (pa_cons (pe_tup (pa_cons pe_int pa_nil)) (pa_cons (pe_tup (pa_cons pe_int pa_nil)) (pa_cons pe_int pa_nil)))))) (pa_cons pe_dnewK (pa_cons pe_bl pa_nil)))))) pa_nil))))))))))), ?_⟩
  intro Γ ds C hF
  exact body0 (n := 1) (m := 2) (s := (X__law_wrong_sums V)) gd (N := N__law_wrong_sums) rfl Γ ds C hF
abbrev s__law_right : Stmt := topS 79
abbrev N__law_right : List Str := ["_law_urn_here", "_law_odd", "_law_value", "_law_told", "_law_cap", "_law_row", "_law_many", "_law_due"]
theorem sc__law_right : FnScope N__law_right ["_law_urn_here"] (defScope s__law_right) := ⟨rfl, rfl, rfl, by decide +kernel, rfl, by decide +kernel, by decide +kernel⟩
theorem cf__law_right {f c P0 : Addr} {fd : FuncData} (T : Txt K mg V) (gd : Good V K) (hn : ∀ c ∈ cl__law_met, c.1 ∈ V.names) (TB : LamX.TabB base mg c P0) (hT : (P0, lamQ "_law_right") ∈ V.T0) (hU : ∀ p ∈ V.T0, p.1 = P0 → p.2 = lamQ "_law_right") (g__law_met : Giv K mg "_law_met" s__law_met "_law_call") (f_Table___init__ : MakX P w K mg base 4 "Table" (V.cls .cTable) (spI K (V.cls .cTable) (F_Table___init__ V).F)) (f_greatest_row : CFX P w K mg base 5 "greatest_row" (F_greatest_row V).F) (f_filled_table : CFX P w K mg base 8 "filled_table" (F_filled_table_2 V).F) (f_has_table : CFX P w K mg base 7 "has_table" (F_has_table V).F) (f_made_table : CFX P w K mg base 9 "made_table" (F_made_table_2_nk24 V).F) (f_table_paper : CFX P w K mg base 10 "table_paper" (F_table_paper_2_nk24 V).F) (f_is_table_paper : CFX P w K mg base 8 "is_table_paper" (F_is_table_paper_2 V).F) (f_most_units : CFX P w K mg base 8 "most_units" (F_most_units V).F) (f_most_paper : CFX P w K mg base 10 "most_paper" (F_most_paper_2_nk24 V).F) (f_is_most_paper : CFX P w K mg base 8 "is_most_paper" (F_is_most_paper_2 V).F) (f_fewest_taken : CFX P w K mg base 9 "fewest_taken" (F_fewest_taken V).F) (f_nearest_sums : CFX P w K mg base 8 "nearest_sums" (F_nearest_sums V).F) (f__law_pick : CF P w K mg base 2 "_law_pick" (F__law_pick_2 V).F) (f__law_wrong_sums : CF P w K mg base 3 "_law_wrong_sums" (F__law_wrong_sums V).F) (Df : FunC K "_law_right" s__law_right f fd c) (hm : mg "_law_right" = some (.ref f)) (hb : Binds K fd ["_law_urn_here"] []) : CFG P w K mg base 13 "_law_right" (F__law_right_92_nk24 V hn).F := by
  refine cfg_of Df hm hb sc__law_right (fun B ds C X h => h.1) fun A outer s H E hu hr => ?_
  refine ⟨_, (pss_cons (ps_asg (pe_tup (pa_cons (pe_f f__law_wrong_sums hr (by decide) (by rfl) (pa_cons (pv 0) pa_nil)) (pa_cons (pe_f f__law_pick hr (by decide) (by rfl) (pa_cons (pv 0) (pa_cons (pe_lst (pa_cons pe_non (pa_cons (pe_tup (pa_cons pe_str (pa_cons (pe_mk0 f_Table___init__ hr (by decide) (by rfl) (pa_cons pe_int (pa_cons (pe_tup (pa_cons pe_int pa_nil)) pa_nil))) pa_nil))) (pa_cons (pe_tup (pa_cons pe_str (pa_cons (pe_tup (pa_cons pe_int pa_nil)) pa_nil))) (pa_cons (pe_tup pa_nil) (pa_cons pe_int pa_nil)))))) pa_nil))) pa_nil))) (pg_seqK (K := K) (n := 2) rfl (pgs_cons (pg_name (i := 1) sc__law_right.nd rfl (Or.inr rfl)) (pgs_cons (pg_name (i := 2) sc__law_right.nd rfl (Or.inr rfl)) pgs_nil))))
      (pss_cons (ps_set (i := 3) sc__law_right.nd rfl (Or.inl rfl) (pe_lst (pa_cons (pe_lam 9 "_law_right" (defScope s__law_right) (by rfl) (by rfl) g__law_met sc__law_met rfl (Or.inl rfl) (fun g cdg => gives__law_met V T hu (Room.mono hr (by decide))) TB rfl hT hU hr (by decide) (by rfl) (LamX.lamS_by (by decide +kernel)) rfl (fun _ _ _ _ _ => rfl) (fun A1 outer1 s1 H1 E1 f1 c1 hr1 => (pe_cE (takes_of rfl rfl rfl rfl) (fun _ _ _ _ h => h) f_made_table hr1 (by decide) (by rfl) (pa_cons (pv 1) pa_nil)))) pa_nil)))
      (pss_cons (ps_expr (pe_bm PySem.F.plainAttrs_list PySem.F.slot_list_append PySem.F.type_list_append mt_append (pv 3) (pa_cons (pe_lam 10 "_law_right" (defScope s__law_right) (by rfl) (by rfl) g__law_met sc__law_met rfl (Or.inl rfl) (fun g cdg => gives__law_met V T hu (Room.mono hr (by decide))) TB rfl hT hU hr (by decide) (by rfl) (LamX.lamS_by (by decide +kernel)) rfl (fun _ _ _ _ _ => rfl) (fun A1 outer1 s1 H1 E1 f1 c1 hr1 => (pe_cE (takes_of rfl rfl rfl rfl) (fun _ _ _ _ h => h) f_table_paper hr1 (by decide) (by rfl) (pa_cons (pv 1) pa_nil)))) pa_nil)))
      (pss_cons (ps_expr (pe_bm PySem.F.plainAttrs_list PySem.F.slot_list_append PySem.F.type_list_append mt_append (pv 3) (pa_cons (pe_lam 8 "_law_right" (defScope s__law_right) (by rfl) (by rfl) g__law_met sc__law_met rfl (Or.inl rfl) (fun g cdg => gives__law_met V T hu (Room.mono hr (by decide))) TB rfl hT hU hr (by decide) (by rfl) (LamX.lamS_by (by decide +kernel)) rfl (fun _ _ _ _ _ => rfl) (fun A1 outer1 s1 H1 E1 f1 c1 hr1 => (pe_cE (takes_of rfl rfl rfl rfl) (fun _ _ _ _ h => h) f_is_table_paper hr1 (by decide) (by rfl) (pa_cons (pv 1) (pa_cons (pv 2) pa_nil))))) pa_nil)))
      (pss_cons (ps_expr (pe_bm PySem.F.plainAttrs_list PySem.F.slot_list_append PySem.F.type_list_append mt_append (pv 3) (pa_cons (pe_lam 8 "_law_right" (defScope s__law_right) (by rfl) (by rfl) g__law_met sc__law_met rfl (Or.inl rfl) (fun g cdg => gives__law_met V T hu (Room.mono hr (by decide))) TB rfl hT hU hr (by decide) (by rfl) (LamX.lamS_by (by decide +kernel)) rfl (fun _ _ _ _ _ => rfl) (fun A1 outer1 s1 H1 E1 f1 c1 hr1 => (pe_cE (takes_of rfl rfl rfl rfl) (fun _ _ _ _ h => h) f_most_units hr1 (by decide) (by rfl) (pa_cons (pv 1) pa_nil)))) pa_nil)))
      (pss_cons (ps_expr (pe_bm PySem.F.plainAttrs_list PySem.F.slot_list_append PySem.F.type_list_append mt_append (pv 3) (pa_cons (pe_lam 10 "_law_right" (defScope s__law_right) (by rfl) (by rfl) g__law_met sc__law_met rfl (Or.inl rfl) (fun g cdg => gives__law_met V T hu (Room.mono hr (by decide))) TB rfl hT hU hr (by decide) (by rfl) (LamX.lamS_by (by decide +kernel)) rfl (fun _ _ _ _ _ => rfl) (fun A1 outer1 s1 H1 E1 f1 c1 hr1 => (pe_cE (takes_of rfl rfl rfl rfl) (fun _ _ _ _ h => h) f_most_paper hr1 (by decide) (by rfl) (pa_cons (pv 1) pa_nil)))) pa_nil)))
      (pss_cons (ps_expr (pe_bm PySem.F.plainAttrs_list PySem.F.slot_list_append PySem.F.type_list_append mt_append (pv 3) (pa_cons (pe_lam 8 "_law_right" (defScope s__law_right) (by rfl) (by rfl) g__law_met sc__law_met rfl (Or.inl rfl) (fun g cdg => gives__law_met V T hu (Room.mono hr (by decide))) TB rfl hT hU hr (by decide) (by rfl) (LamX.lamS_by (by decide +kernel)) rfl (fun _ _ _ _ _ => rfl) (fun A1 outer1 s1 H1 E1 f1 c1 hr1 => (pe_cE (takes_of rfl rfl rfl rfl) (fun _ _ _ _ h => h) f_is_most_paper hr1 (by decide) (by rfl) (pa_cons (pv 1) (pa_cons (pv 2) pa_nil))))) pa_nil)))
      (pss_cons (ps_expr (pe_bm PySem.F.plainAttrs_list PySem.F.slot_list_append PySem.F.type_list_append mt_append (pv 3) (pa_cons (pe_lam 9 "_law_right" (defScope s__law_right) (by rfl) (by rfl) g__law_met sc__law_met rfl (Or.inl rfl) (fun g cdg => gives__law_met V T hu (Room.mono hr (by decide))) TB rfl hT hU hr (by decide) (by rfl) (LamX.lamS_by (by decide +kernel)) rfl (fun _ _ _ _ _ => rfl) (fun A1 outer1 s1 H1 E1 f1 c1 hr1 => (pe_cE (takes_of rfl rfl rfl rfl) (fun _ _ _ _ h => h) f_fewest_taken hr1 (by decide) (by rfl) (pa_cons (pv 1) pa_nil)))) pa_nil)))
      (pss_cons (ps_expr (pe_bm PySem.F.plainAttrs_list PySem.F.slot_list_append PySem.F.type_list_append mt_append (pv 3) (pa_cons (pe_lam 8 "_law_right" (defScope s__law_right) (by rfl) (by rfl) g__law_met sc__law_met rfl (Or.inl rfl) (fun g cdg => gives__law_met V T hu (Room.mono hr (by decide))) TB rfl hT hU hr (by decide) (by rfl) (LamX.lamS_by (by decide +kernel)) rfl (fun _ _ _ _ _ => rfl) (fun A1 outer1 s1 H1 E1 f1 c1 hr1 => (pe_cE (takes_of rfl rfl rfl rfl) (fun _ _ _ _ h => h) f_nearest_sums hr1 (by decide) (by rfl) (pa_cons (pv 1) pa_nil)))) pa_nil)))
      (pss_cons (ps_if (pt_cmpR (op_neK (K := K) hr.units) (pv 3) (pe_op (op_mulK (K := K)) (pe_lst (pa_cons pe_str pa_nil)) pe_int) (nomark _)) (pss_one (ps_ret pe_bl)) pss_nil)
      (pss_cons (ps_set (i := 4) sc__law_right.nd rfl (Or.inr rfl) (pe_f f__law_pick hr (by decide) (by rfl) (pa_cons (pv 0) (pa_cons (pe_lst (pa_cons pe_non (pa_cons pe_int (pa_cons pe_int (pa_cons (pe_un un_neg pe_int) (pa_cons pe_bl (pa_cons pe_str (pa_cons (pe_tup (pa_cons pe_int pa_nil)) (pa_cons (pe_lst pa_nil) (pa_cons pe_dnewK (pa_cons (pe_op op_powW pe_int pe_int) pa_nil))))))))))) pa_nil))))
      (pss_cons (ps_set (i := 5) sc__law_right.nd rfl (Or.inr rfl) (pe_f f__law_pick hr (by decide) (by rfl) (pa_cons (pv 0) (pa_cons (pe_lst (pa_cons pe_non (pa_cons pe_int (pa_cons (pe_tup pa_nil) (pa_cons (pe_lst (pa_cons pe_int pa_nil)) (pa_cons (pe_tup (pa_cons (pe_un un_neg pe_int) pa_nil)) (pa_cons (pe_tup (pa_cons pe_bl pa_nil)) (pa_cons (pe_tup (pa_cons pe_non pa_nil)) (pa_cons (pe_tup (pa_cons pe_str pa_nil)) (pa_cons (pe_tup (pa_cons (pe_op op_powW pe_int pe_int) pa_nil)) (pa_cons (pe_op (op_mulK (K := K)) (pe_tup (pa_cons pe_int pa_nil)) pe_int) (pa_cons pe_dnewK (pa_cons pe_str pa_nil))))))))))))) pa_nil))))
      (pss_cons (ps_set (i := 6) sc__law_right.nd rfl (Or.inr rfl) (pe_f f__law_pick hr (by decide) (by rfl) (pa_cons (pv 0) (pa_cons (pe_lst (pa_cons pe_non (pa_cons pe_int (pa_cons pe_int (pa_cons (pe_un un_neg pe_int) (pa_cons pe_bl (pa_cons pe_str (pa_cons (pe_tup (pa_cons pe_int pa_nil)) (pa_cons (pe_lst pa_nil) (pa_cons pe_dnewK (pa_cons (pe_op op_powW pe_int pe_int) pa_nil))))))))))) pa_nil))))
      (pss_cons (ps_set (i := 3) sc__law_right.nd rfl (Or.inl rfl) (pe_lst (pa_cons (pe_lam 5 "_law_right" (defScope s__law_right) (by rfl) (by rfl) g__law_met sc__law_met rfl (Or.inl rfl) (fun g cdg => gives__law_met V T hu (Room.mono hr (by decide))) TB rfl hT hU hr (by decide) (by rfl) (LamX.lamS_by (by decide +kernel)) rfl (fun _ _ _ _ _ => rfl) (fun A1 outer1 s1 H1 E1 f1 c1 hr1 => (pe_cE (takes_of rfl rfl rfl rfl) (fun _ _ _ _ h => h) f_greatest_row hr1 (by decide) (by rfl) (pa_cons (pv 4) (pa_cons (pv 5) (pa_cons (pv 6) pa_nil)))))) pa_nil)))
      (pss_cons (ps_expr (pe_bm PySem.F.plainAttrs_list PySem.F.slot_list_append PySem.F.type_list_append mt_append (pv 3) (pa_cons (pe_lam 5 "_law_right" (defScope s__law_right) (by rfl) (by rfl) g__law_met sc__law_met rfl (Or.inl rfl) (fun g cdg => gives__law_met V T hu (Room.mono hr (by decide))) TB rfl hT hU hr (by decide) (by rfl) (LamX.lamS_by (by decide +kernel)) rfl (fun _ _ _ _ _ => rfl) (fun A1 outer1 s1 H1 E1 f1 c1 hr1 => (pe_cE (takes_of rfl rfl rfl rfl) (fun _ _ _ _ h => h) f_greatest_row hr1 (by decide) (by rfl) (pa_cons pe_int (pa_cons (pv 5) (pa_cons (pv 6) pa_nil)))))) pa_nil)))
      (pss_cons (ps_expr (pe_bm PySem.F.plainAttrs_list PySem.F.slot_list_append PySem.F.type_list_append mt_append (pv 3) (pa_cons (pe_lam 5 "_law_right" (defScope s__law_right) (by rfl) (by rfl) g__law_met sc__law_met rfl (Or.inl rfl) (fun g cdg => gives__law_met V T hu (Room.mono hr (by decide))) TB rfl hT hU hr (by decide) (by rfl) (LamX.lamS_by (by decide +kernel)) rfl (fun _ _ _ _ _ => rfl) (fun A1 outer1 s1 H1 E1 f1 c1 hr1 => (pe_cE (takes_of rfl rfl rfl rfl) (fun _ _ _ _ h => h) f_greatest_row hr1 (by decide) (by rfl) (pa_cons pe_int (pa_cons (pe_op (op_mulK (K := K)) (pe_tup (pa_cons pe_int pa_nil)) pe_int) (pa_cons (pv 6) pa_nil)))))) pa_nil)))
      (pss_cons (ps_expr (pe_bm PySem.F.plainAttrs_list PySem.F.slot_list_append PySem.F.type_list_append mt_append (pv 3) (pa_cons (pe_lam 8 "_law_right" (defScope s__law_right) (by rfl) (by rfl) g__law_met sc__law_met rfl (Or.inl rfl) (fun g cdg => gives__law_met V T hu (Room.mono hr (by decide))) TB rfl hT hU hr (by decide) (by rfl) (LamX.lamS_by (by decide +kernel)) rfl (fun _ _ _ _ _ => rfl) (fun A1 outer1 s1 H1 E1 f1 c1 hr1 => (pe_cE (takes_of rfl rfl rfl rfl) (fun _ _ _ _ h => h) f_filled_table hr1 (by decide) (by rfl) (pa_cons (pv 4) (pa_cons (pv 5) (pa_cons (pv 6) pa_nil)))))) pa_nil)))
      (pss_cons (ps_expr (pe_bm PySem.F.plainAttrs_list PySem.F.slot_list_append PySem.F.type_list_append mt_append (pv 3) (pa_cons (pe_lam 8 "_law_right" (defScope s__law_right) (by rfl) (by rfl) g__law_met sc__law_met rfl (Or.inl rfl) (fun g cdg => gives__law_met V T hu (Room.mono hr (by decide))) TB rfl hT hU hr (by decide) (by rfl) (LamX.lamS_by (by decide +kernel)) rfl (fun _ _ _ _ _ => rfl) (fun A1 outer1 s1 H1 E1 f1 c1 hr1 => (pe_cE (takes_of rfl rfl rfl rfl) (fun _ _ _ _ h => h) f_filled_table hr1 (by decide) (by rfl) (pa_cons pe_int (pa_cons (pv 5) (pa_cons (pv 6) pa_nil)))))) pa_nil)))
      (pss_cons (ps_expr (pe_bm PySem.F.plainAttrs_list PySem.F.slot_list_append PySem.F.type_list_append mt_append (pv 3) (pa_cons (pe_lam 8 "_law_right" (defScope s__law_right) (by rfl) (by rfl) g__law_met sc__law_met rfl (Or.inl rfl) (fun g cdg => gives__law_met V T hu (Room.mono hr (by decide))) TB rfl hT hU hr (by decide) (by rfl) (LamX.lamS_by (by decide +kernel)) rfl (fun _ _ _ _ _ => rfl) (fun A1 outer1 s1 H1 E1 f1 c1 hr1 => (pe_cE (takes_of rfl rfl rfl rfl) (fun _ _ _ _ h => h) f_filled_table hr1 (by decide) (by rfl) (pa_cons pe_int (pa_cons (pe_op (op_mulK (K := K)) (pe_tup (pa_cons pe_int pa_nil)) pe_int) (pa_cons (pv 6) pa_nil)))))) pa_nil)))
      (pss_cons (ps_expr (pe_bm PySem.F.plainAttrs_list PySem.F.slot_list_append PySem.F.type_list_append mt_append (pv 3) (pa_cons (pe_lam 7 "_law_right" (defScope s__law_right) (by rfl) (by rfl) g__law_met sc__law_met rfl (Or.inl rfl) (fun g cdg => gives__law_met V T hu (Room.mono hr (by decide))) TB rfl hT hU hr (by decide) (by rfl) (LamX.lamS_by (by decide +kernel)) rfl (fun _ _ _ _ _ => rfl) (fun A1 outer1 s1 H1 E1 f1 c1 hr1 => (pe_cE (takes_of rfl rfl rfl rfl) (fun _ _ _ _ h => h) f_has_table hr1 (by decide) (by rfl) (pa_cons (pv 4) (pa_cons (pv 5) (pa_cons (pv 5) pa_nil)))))) pa_nil)))
      (pss_cons (ps_expr (pe_bm PySem.F.plainAttrs_list PySem.F.slot_list_append PySem.F.type_list_append mt_append (pv 3) (pa_cons (pe_lam 7 "_law_right" (defScope s__law_right) (by rfl) (by rfl) g__law_met sc__law_met rfl (Or.inl rfl) (fun g cdg => gives__law_met V T hu (Room.mono hr (by decide))) TB rfl hT hU hr (by decide) (by rfl) (LamX.lamS_by (by decide +kernel)) rfl (fun _ _ _ _ _ => rfl) (fun A1 outer1 s1 H1 E1 f1 c1 hr1 => (pe_cE (takes_of rfl rfl rfl rfl) (fun _ _ _ _ h => h) f_has_table hr1 (by decide) (by rfl) (pa_cons pe_int (pa_cons (pv 5) (pa_cons (pe_tup (pa_cons pe_int pa_nil)) pa_nil)))))) pa_nil)))
      (pss_cons (ps_expr (pe_bm PySem.F.plainAttrs_list PySem.F.slot_list_append PySem.F.type_list_append mt_append (pv 3) (pa_cons (pe_lam 7 "_law_right" (defScope s__law_right) (by rfl) (by rfl) g__law_met sc__law_met rfl (Or.inl rfl) (fun g cdg => gives__law_met V T hu (Room.mono hr (by decide))) TB rfl hT hU hr (by decide) (by rfl) (LamX.lamS_by (by decide +kernel)) rfl (fun _ _ _ _ _ => rfl) (fun A1 outer1 s1 H1 E1 f1 c1 hr1 => (pe_cE (takes_of rfl rfl rfl rfl) (fun _ _ _ _ h => h) f_has_table hr1 (by decide) (by rfl) (pa_cons pe_int (pa_cons (pe_tup (pa_cons pe_int pa_nil)) (pa_cons (pv 5) pa_nil)))))) pa_nil)))
      (pss_cons (ps_set (i := 7) sc__law_right.nd rfl (Or.inl rfl) (pe_lst (pa_cons (pe_op (op_addK (K := K)) pe_str (pe_callB (cr_reprAK (K := K) hu hr) (by rfl) T.b_repr PyProof.Rows.bootS_repr (pa_cons (pv 4) pa_nil))) (pa_cons pe_str (pa_cons (pe_op (op_addK (K := K)) pe_str (pe_callB (cr_reprAK (K := K) hu hr) (by rfl) T.b_repr PyProof.Rows.bootS_repr (pa_cons (pv 6) pa_nil))) pa_nil)))))
      (pss_one (ps_ret (pe_cmpR (op_eqK (K := K) hr.units) (pv 3) (pe_op (op_addK (K := K)) (pe_op (op_addK (K := K)) (pv 7) (pv 7)) (pe_lst (pa_cons (pe_op (op_addK (K := K)) pe_str (pe_callB (cr_reprAK (K := K) hu hr) (by rfl) T.b_repr PyProof.Rows.bootS_repr (pa_cons (pv 4) pa_nil))) (pa_cons pe_str (pa_cons pe_str pa_nil))))) (nomark _))))))))))))))))))))))))))), ?_⟩
  intro Γ ds C hF
  exact body0 (n := 1) (m := 8) (s := (X__law_right_92_nk24 V hn)) gd (N := N__law_right) rfl Γ ds C hF
abbrev s_law : Stmt := topS 80
abbrev N_law : List Str := ["_law_script", "_law_at", "_law_urn_here", "_law_turn", "_law_told"]
theorem sc_law : FnScope N_law ["_law_script"] (defScope s_law) := ⟨rfl, rfl, rfl, by decide +kernel, rfl, by decide +kernel, by decide +kernel⟩
theorem cf_law {f c P0 : Addr} {fd : FuncData} (T : Txt K mg V) (gd : Good V K) (hn : ∀ c ∈ cl__law_met, c.1 ∈ V.names) (TB : LamX.TabB base mg c P0) (hT : (P0, lamQ "law") ∈ V.T0) (hU : ∀ p ∈ V.T0, p.1 = P0 → p.2 = lamQ "law") (g__law_met : Giv K mg "_law_met" s__law_met "_law_call") (f_greatest_row : CFX P w K mg base 5 "greatest_row" (F_greatest_row V).F) (f_filled_table : CFX P w K mg base 8 "filled_table" (F_filled_table_2 V).F) (f__law_urn : CalN P w K mg base 1 "_law_urn" (spO K FB)) (f__law_right : CFG P w K mg base 13 "_law_right" (F__law_right_92_nk24 V hn).F) (Df : FunC K "law" s_law f fd c) : FnG P w K mg base 14 f fd ["_law_script"] (spF K (F_law_104_nk24 V hn).F) := by
  refine fng_of Df sc_law (fun B ds C X h => h.1) fun A outer s H E hu hr => ?_
  refine ⟨_, (pss_cons (ps_for PassesOwn.never rfl (pi_range1 (by rfl) T.b_range (pa_cons (pe_callB (cr_max4K (K := K) rfl) (by rfl) T.b_max PyProof.Rows.boot_max (pa_cons pe_int (pa_cons (pe_callB (cr_min4K (K := K) rfl) (by rfl) T.b_min PyProof.Rows.boot_min (pa_cons pe_int (pa_cons (pe_callB (cr_lenK (K := K)) (by rfl) T.b_len PySem.boot_len (pa_cons (pv 0) pa_nil)) pa_nil))) pa_nil))) pa_nil)) (pg_name (i := 1) sc_law.nd rfl (Or.inl rfl)) (pss_cons (ps_set (i := 2) sc_law.nd rfl (Or.inl rfl) (pe_f f__law_urn hr (by decide) (by rfl) (pa_cons (pv 0) (pa_cons (pv 1) pa_nil))))
      (pss_one (ps_for PassesOwn.never rfl (pi_range1 (by rfl) T.b_range (pa_cons pe_int pa_nil)) (pg_name (i := 3) sc_law.nd rfl (Or.inl rfl)) (pss_one (ps_if (pt_not (pt_val (pe_g f__law_right hr (by decide) hu (by rfl) (pa_cons (pv 2) pa_nil)) (fun _ => rfl))) (pss_one (ps_ret pe_bl)) pss_nil))))))
      (pss_cons (ps_set (i := 4) sc_law.nd rfl (Or.inl rfl) (pe_lst (pa_cons (pe_lam 8 "law" (defScope s_law) (by rfl) (by rfl) g__law_met sc__law_met rfl (Or.inl rfl) (fun g cdg => gives__law_met V T hu (Room.mono hr (by decide))) TB rfl hT hU hr (by decide) (by rfl) (LamX.lamS_by (by decide +kernel)) rfl (fun _ _ _ _ _ => rfl) (fun A1 outer1 s1 H1 E1 f1 c1 hr1 => (pe_cE (takes_of rfl rfl rfl rfl) (fun _ _ _ _ h => h) f_filled_table hr1 (by decide) (by rfl) (pa_cons pe_int (pa_cons (pe_op (op_mulK (K := K)) (pe_tup (pa_cons pe_int pa_nil)) pe_int) (pa_cons pe_int pa_nil)))))) pa_nil)))
      (pss_cons (ps_expr (pe_bm PySem.F.plainAttrs_list PySem.F.slot_list_append PySem.F.type_list_append mt_append (pv 4) (pa_cons (pe_lam 8 "law" (defScope s_law) (by rfl) (by rfl) g__law_met sc__law_met rfl (Or.inl rfl) (fun g cdg => gives__law_met V T hu (Room.mono hr (by decide))) TB rfl hT hU hr (by decide) (by rfl) (LamX.lamS_by (by decide +kernel)) rfl (fun _ _ _ _ _ => rfl) (fun A1 outer1 s1 H1 E1 f1 c1 hr1 => (pe_cE (takes_of rfl rfl rfl rfl) (fun _ _ _ _ h => h) f_filled_table hr1 (by decide) (by rfl) (pa_cons pe_int (pa_cons (pe_tup (pa_cons pe_int (pa_cons pe_int pa_nil))) (pa_cons pe_int pa_nil)))))) pa_nil)))
      (pss_cons (ps_expr (pe_bm PySem.F.plainAttrs_list PySem.F.slot_list_append PySem.F.type_list_append mt_append (pv 4) (pa_cons (pe_lam 8 "law" (defScope s_law) (by rfl) (by rfl) g__law_met sc__law_met rfl (Or.inl rfl) (fun g cdg => gives__law_met V T hu (Room.mono hr (by decide))) TB rfl hT hU hr (by decide) (by rfl) (LamX.lamS_by (by decide +kernel)) rfl (fun _ _ _ _ _ => rfl) (fun A1 outer1 s1 H1 E1 f1 c1 hr1 => (pe_cE (takes_of rfl rfl rfl rfl) (fun _ _ _ _ h => h) f_filled_table hr1 (by decide) (by rfl) (pa_cons pe_int (pa_cons (pe_tup (pa_cons pe_int pa_nil)) (pa_cons pe_int pa_nil)))))) pa_nil)))
      (pss_cons (ps_expr (pe_bm PySem.F.plainAttrs_list PySem.F.slot_list_append PySem.F.type_list_append mt_append (pv 4) (pa_cons (pe_lam 8 "law" (defScope s_law) (by rfl) (by rfl) g__law_met sc__law_met rfl (Or.inl rfl) (fun g cdg => gives__law_met V T hu (Room.mono hr (by decide))) TB rfl hT hU hr (by decide) (by rfl) (LamX.lamS_by (by decide +kernel)) rfl (fun _ _ _ _ _ => rfl) (fun A1 outer1 s1 H1 E1 f1 c1 hr1 => (pe_cE (takes_of rfl rfl rfl rfl) (fun _ _ _ _ h => h) f_filled_table hr1 (by decide) (by rfl) (pa_cons pe_int (pa_cons (pe_op (op_mulK (K := K)) (pe_tup (pa_cons pe_int pa_nil)) pe_int) (pa_cons pe_int pa_nil)))))) pa_nil)))
      (pss_cons (ps_expr (pe_bm PySem.F.plainAttrs_list PySem.F.slot_list_append PySem.F.type_list_append mt_append (pv 4) (pa_cons (pe_lam 5 "law" (defScope s_law) (by rfl) (by rfl) g__law_met sc__law_met rfl (Or.inl rfl) (fun g cdg => gives__law_met V T hu (Room.mono hr (by decide))) TB rfl hT hU hr (by decide) (by rfl) (LamX.lamS_by (by decide +kernel)) rfl (fun _ _ _ _ _ => rfl) (fun A1 outer1 s1 H1 E1 f1 c1 hr1 => (pe_callB (cr_lenK (K := K)) (by rfl) T.b_len PySem.boot_len (pa_cons (pe_cE (takes_of rfl rfl rfl rfl) (fun _ _ _ _ h => h) f_greatest_row hr1 (by decide) (by rfl) (pa_cons pe_int (pa_cons (pe_tup (pa_cons pe_int pa_nil)) (pa_cons pe_int pa_nil)))) pa_nil)))) pa_nil)))
      (pss_one (ps_ret (pe_cmpR (op_eqK (K := K) hr.units) (pv 4) (pe_lst (pa_cons pe_str (pa_cons pe_str (pa_cons pe_str (pa_cons pe_str (pa_cons pe_int pa_nil)))))) (nomark _)))))))))), ?_⟩
  intro Γ ds C hF
  exact body0 (n := 1) (m := 5) (s := (X_law_104_nk24 V hn)) gd (N := N_law) rfl Γ ds C hF
end
end Y
namespace Sp
open PySem PySem.Spec PyProof.Rows L2 SQ XQ XD
variable {V : Ve} {B : Sc} {X : XP} {C : D → Prop}
def isWhole : D → Bool
  | .int _ => true
  | _ => false
def isEntry : D → Bool
  | .int i => decide (0 ≤ i ∧ i < 10 ^ 30)
  | _ => false
def isRow : D → Bool
  | .tup xs => decide (1 ≤ xs.length ∧ xs.length ≤ 64) && xs.all isEntry
  | _ => false
def Typed1 (d : D) : Prop := Typed d ∧ ∀ xs, d = .tup xs → ∀ x ∈ xs, Typed x
/-- a row of ints -/
abbrev row (ns : List Int) : D := .tup (ns.map D.int)
structure Row (ns : List Int) : Prop where
  l1 : 1 ≤ ns.length
  l2 : ns.length ≤ 64
  e : ∀ n ∈ ns, 0 ≤ n ∧ n < 10 ^ 30
theorem typed1_row (ns : List Int) : Typed1 (row ns) := ⟨⟨_, rfl⟩, fun xs e x m => by
  cases e
  obtain ⟨n, _, rfl⟩ := List.mem_map.mp m
  exact ⟨_, rfl⟩⟩
theorem isRow_row {ns : List Int} (h : Row ns) : isRow (row ns) = true := by
  simp only [isRow, List.length_map, h.l1, h.l2, and_self, decide_true, Bool.true_and, List.all_map, List.all_eq_true, Function.comp, isEntry, decide_eq_true_eq]
  exact h.e
theorem row_of {d : D} (h : isRow d = true) : ∃ ns, d = row ns ∧ Row ns := by
  cases d <;> simp [isRow] at h
  rename_i xs
  obtain ⟨⟨h1, h2⟩, h3⟩ := h
  obtain ⟨ns, rfl⟩ : ∃ ns : List Int, xs = ns.map D.int := by
    clear h1 h2
    induction xs with
    | nil => exact ⟨[], rfl⟩
    | cons x r ih =>
      obtain ⟨ns, e⟩ := ih fun y m => h3 y (List.mem_cons_of_mem _ m)
      have := h3 x List.mem_cons_self
      cases x <;> simp [isEntry] at this
      exact ⟨_ :: ns, by rw [e]; rfl⟩
  refine ⟨ns, rfl, by simpa using h1, by simpa using h2, fun n m => ?_⟩
  have := h3 (.int n) (List.mem_map.mpr ⟨n, m, rfl⟩)
  simpa [isEntry] using this
@[simp] theorem pow30 : (10 : Int) ^ Int.toNat 30 = 10 ^ 30 := rfl
@[simp] theorem cpow30 : CPowW 10 30 = True := eq_true ⟨by decide, by decide +kernel⟩
@[simp] theorem is_whole {d : D} (h : Typed d) : (F_is_whole V).F B [d] C X = C (.bl (isWhole d)) := by
  cases d <;> simp [F_is_whole, X_is_whole, xf_F, h, dInt, dBl, isWhole]
@[simp] theorem is_entry {d : D} (h : Typed d) : (F_is_entry V).F B [d] C X = C (.bl (isEntry d)) := by
  cases d <;> simp [F_is_entry, X_is_entry, xf_F, h, isWhole, isEntry]
  rename_i i
  by_cases h : 0 ≤ i <;> simp [h]
  · exact fun h => by omega
  · intro; omega
theorem is_row {d : D} (h : Typed1 d) : (F_is_row V).F B [d] C X = C (.bl (isRow d)) := by
  cases d <;> simp [F_is_row, X_is_row, xf_F, h.1, dTup, isRow]
  rename_i xs
  rw [lcW_mapD (f := fun d => .bl (isEntry d)) (fun d hd Q => by simp [h.2 _ rfl d hd])]
  rw [List.nil_append, blsM, allP_lst]
  by_cases h1 : 1 ≤ xs.length <;> by_cases h2 : xs.length ≤ 64
  · have e1 : (1 : Int) ≤ xs.length := by omega
    have e2 : (xs.length : Int) ≤ 64 := by omega
    simp [h1, h2, e1, e2, show ¬ ((xs.length : Int) < 1) by omega, show ¬ (64 < (xs.length : Int)) by omega, show xs.length ≤ 100000 by omega]
  · simp [h1, h2, show (64 < (xs.length : Int)) by omega, show ¬ ((xs.length : Int) < 1) by omega, show (1 : Int) ≤ xs.length by omega, show ¬ ((xs.length : Int) ≤ 64) by omega]
  · simp [h1, show ((xs.length : Int) < 1) by omega]
    intro h3; omega
  · omega
theorem check_row {d : D} (h : Typed1 d) : (F_check_row V).F B [d] C X = if isRow d = true then C .non else X ⟨V.cls .sums, [], []⟩ := by
  simp [F_check_row, X_check_row, xf_F, is_row h]
  cases isRow d <;> simp
theorem check_rows {d d' : D} (h : Typed1 d) (h' : Typed1 d') : (F_check_rows V).F B [d, d'] C X = if isRow d = true ∧ isRow d' = true then C .non else X ⟨V.cls .sums, [], []⟩ := by
  simp [F_check_rows, X_check_rows, xf_F, check_row h, check_row h']
  cases isRow d <;> simp
@[simp] theorem have_equal_measures {a b : List Int} : (F_have_equal_measures V).F B [row a, row b] C X = C (.bl (decide (a.length = b.length ∧ a.sum = b.sum))) := by
  simp [F_have_equal_measures, X_have_equal_measures, xf_F]
  by_cases h : a.length = b.length
  · have e : (a.length : Int) = b.length := by omega
    simp [h, e]
    by_cases h2 : a.sum = b.sum
    · simp [h2]
    · have e2 : (a.sum == b.sum) = false := by simpa using h2
      simp [h2, e2]
  · have e : ¬ (a.length : Int) = b.length := by omega
    simp [h, e]
@[simp] theorem descending {a : List Int} : (F_descending V).F B [row a] C X = C (row (down a)) := by
  simp [F_descending, X_descending, xf_F, seqOf]
theorem sums_so_far {a : List Int} (hl : a.length ≤ 99999) : (F_sums_so_far V).F B [row a] C X = C (row (heads 0 a)) := by
  simp [F_sums_so_far, X_sums_so_far, xf_F]
  refine forW_iff (S := fun q : List Int × Int × Sl => [.val (row a), .own (q.1.map D.int), .val (.int q.2.1), q.2.2]) (g := D.int) (f := fun q n => (q.1 ++ [q.2.1 + n], q.2.1 + n, .val (.int n)))
    (P := fun i q => q.1 = heads 0 (a.take i) ∧ q.2.1 = (a.take i).sum) (xs := a) (a0 := ([], 0, .un)) ⟨rfl, rfl⟩ (fun i n q e' hi h => ?_) fun q hq => ?_
  · obtain ⟨l, t, s⟩ := q
    obtain ⟨h1, h2⟩ := h
    simp at h1 h2
    subst h1 h2
    have : i < a.length := (List.getElem?_eq_some_iff.mp hi).1
    refine ⟨?_, ?_, ?_⟩
    · simp [X_sums_so_far_L1, heads_len, show min i a.length < 100000 by omega]
    · simp; rw [heads_take hi]
    · simp; rw [sum_take hi]
  · obtain ⟨l, t, s⟩ := q
    obtain ⟨h1, h2⟩ := hq
    simp at h1 h2
    subst h1 h2
    simp
theorem prefix_sums {a : List Int} (h : Row a) : (F_prefix_sums V).F B [row a] C X = C (row (heads 0 (down a))) := by
  simp [F_prefix_sums, X_prefix_sums, xf_F, check_row (typed1_row a), isRow_row h]
  rw [sums_so_far]
  have := h.l2
  rw [down_len]; omega
/-- the first place where the sums of the greatest are greater -/
def firstB (a b : List Int) : D := match (((heads 0 (down a)).zip (heads 0 (down b))).zipIdx).find? (fun q => decide (q.1.2 < q.1.1)) with
  | some q => .int (q.2 + 1)
  | none => .non
theorem first_bar {a b : List Int} (ha : Row a) (hb : Row b) : (F__first_bar V).F B [row a, row b] C X = C (firstB a b) := by
  simp [F__first_bar, X__first_bar, xf_F, prefix_sums ha, prefix_sums hb, zipII]
  rw [enumD_map]
  refine Iff.trans (iff_of_eq (forW_find (β := (Int × Int) × Nat) (σ := Sl × Sl × Sl) (g := fun p => D.tup [.int p.2, .tup [.int p.1.1, .int p.1.2]]) (S := fun s => [.val (row a), .val (row b), s.1, s.2.1, s.2.2]) (p := fun q => decide (q.1.2 < q.1.1)) (r := fun q => .val (.int (q.2 + 1)))
    (n := fun q => (.val (.int q.2), .val (.int q.1.1), .val (.int q.1.2))) (fun q s e' _ => by
      by_cases h : q.1.2 < q.1.1
      · simp [X__first_bar_L1, h, show ¬ q.1.1 ≤ q.1.2 by omega]
      · simp [X__first_bar_L1, h, show q.1.1 ≤ q.1.2 by omega]) (.un, .un, .un))) ?_
  unfold firstB
  split <;> rename_i h <;> simp [h]
def leB (a b : List Int) : Bool := ((heads 0 (down a)).zip (heads 0 (down b))).all fun q => decide (q.1 ≤ q.2)
theorem firstB_iff (a b : List Int) : (firstB a b = .non) ↔ leB a b = true := by
  unfold firstB leB
  rw [List.all_eq_true]
  split
  · rename_i q h
    have h1 := List.find?_some h
    have h2 := List.mem_of_find?_eq_some h
    simp only [reduceCtorEq, false_iff]
    intro z
    have := z q.1 (List.fst_mem_of_mem_zipIdx h2)
    simp at h1 this
    omega
  · rename_i h
    simp only [true_iff]
    intro q m
    obtain ⟨i, hi, e⟩ := List.mem_iff_getElem.mp m
    have := List.find?_eq_none.mp h (q, i) (by rw [List.mem_zipIdx_iff_getElem?]; exact List.getElem?_eq_some_iff.mpr ⟨hi, e⟩)
    simp at this ⊢
    omega
theorem firstB_some {a b : List Int} (h : leB a b = false) : ∃ i : Nat, firstB a b = .int (i + 1) ∧ i < (heads 0 (down a)).length ∧ i < (heads 0 (down b)).length ∧ nth0 (heads 0 (down b)) i < nth0 (heads 0 (down a)) i := by
  have hn : ¬ firstB a b = .non := by rw [firstB_iff, h]; simp
  unfold firstB at hn ⊢
  split at hn
  · rename_i q hq
    have h1 := List.find?_some hq
    have h2 := List.mem_of_find?_eq_some hq
    rw [List.mem_zipIdx_iff_getElem?] at h2
    have h3 := List.getElem?_eq_some_iff.mp h2
    obtain ⟨h3, h4⟩ := h3
    rw [List.length_zip] at h3
    rw [List.getElem_zip] at h4
    refine ⟨q.2, rfl, by omega, by omega, ?_⟩
    simp at h1
    rw [nth0_get (by omega), nth0_get (by omega)]
    rw [← h4] at h1
    simpa using h1
  · exact absurd rfl hn
/-- whether a row is under another one -/
def undB (a b : List Int) : Bool := decide (a.length = b.length ∧ a.sum = b.sum) && leB a b
@[simp] theorem isNon_firstB (a b : List Int) : isNon (firstB a b) = leB a b := by
  cases h : leB a b with
  | true => rw [(firstB_iff a b).mpr h]; rfl
  | false => obtain ⟨i, e, _⟩ := firstB_some h; rw [e]; rfl
theorem is_under {a b : List Int} (ha : Row a) (hb : Row b) : (F_is_under V).F B [row a, row b] C X = C (.bl (undB a b)) := by
  simp [F_is_under, X_is_under, xf_F, check_rows (typed1_row a) (typed1_row b), isRow_row ha, isRow_row hb, first_bar ha hb]
  unfold undB
  by_cases h : a.length = b.length
  · by_cases h2 : a.sum = b.sum
    · simp [h, h2]
    · simp [h, h2]
  · simp [h]
end Sp
/-! a row is under another: by sums of the greatest, by what stands above each entry; plain mathematics -/
namespace MQ3
open SQ
/-- what stands above t -/
def ex (L : List Int) (t : Int) : Int := (L.map fun x => max 0 (x - t)).sum
/-- under: by the sums of the greatest -/
def Und (a b : List Int) : Prop := ∀ k, k ≤ a.length → ((down a).take k).sum ≤ ((down b).take k).sum
end MQ3
/-! the greatest sums of so many entries, by all lots; plain mathematics -/
namespace MQ4
open SQ MQ3
/-- the lot that a number's bits tell -/
def lotF : List Int → Nat → List Int
  | [], _ => []
  | x :: r, c => if c % 2 = 1 then x :: lotF r (c / 2) else lotF r (c / 2)
/-- the greatest sum of k entries -/
def best (L : List Int) (k : Nat) : Int := ((down L).take k).sum
def stepF (L f : List Int) (c : Nat) : List Int := f.set (lotF L c).length (max (f.getD (lotF L c).length 0) (lotF L c).sum)
def fndF (L : List Int) (m : Nat) : List Int := (List.range m).foldl (stepF L) (List.replicate (L.length + 1) 0)
end MQ4
namespace Sp
open PySem PySem.Spec PyProof.Rows L2 SQ XQ XD
variable {V : Ve} {B : Sc} {X : XP} {C : D → Prop}
/-- whether a value is an int within -/
def isIn (d : D) (lo hi : Int) : Bool := match d with
  | .int i => decide (lo ≤ i ∧ i ≤ hi)
  | _ => false
theorem is_within {d : D} {lo hi : Int} (h : Typed d) : (F_is_within V).F B [d, .int lo, .int hi] C X = C (.bl (isIn d lo hi)) := by
  cases d <;> simp [F_is_within, X_is_within, xf_F, h, isWhole, isIn]
  rename_i i
  by_cases h : lo ≤ i
  · simp [h, show ¬ i < lo by omega]
  · simp [h, show i < lo by omega]
def isBarB (a b : List Int) (d : D) : Bool := match d with
  | .int i => decide (1 ≤ i ∧ i ≤ a.length) && decide (nth0 (heads 0 (down b)) (i - 1).toNat < nth0 (heads 0 (down a)) (i - 1).toNat)
  | _ => false
/-! ### this law's own -/
end Sp
namespace Sp
open PySem PySem.Spec PyProof.Rows L2 SQ XQ XD
variable {V : Ve} {B : Sc} {X : XP} {C : D → Prop}
def bits7 : List D := [.int 1, .int 2, .int 4, .int 8, .int 16, .int 32, .int 64]
end Sp
namespace Sp
open PySem PySem.Spec PyProof.Rows L2 SQ XQ XD
variable {V : Ve} {B : Sc} {X : XP} {C : D → Prop}
/-! ### shown values -/
@[simp] theorem shw_non : shw .non = true := rfl
@[simp] theorem shw_bl {b : Bool} : shw (.bl b) = true := rfl
end Sp
namespace Sp
open PySem PySem.Spec PyProof.Rows L2 SQ XQ XD
variable {V : Ve} {B : Sc} {X : XP} {C : D → Prop}
/-- all bars -/
def barsL (a b : List Int) : List Int := ((List.range a.length).filter fun k => decide (nth0 (heads 0 (down b)) k < nth0 (heads 0 (down a)) k)).map fun k : Nat => (k : Int) + 1
/-- the values that are tried as bars -/
def oddB : List D := [.non, .int 0, .bl true, .bl false, .str "1", .tup [.int 1], .lst [.int 1], .dk [] [], .int (10 ^ 39)]
end Sp
namespace Sp
open PySem PySem.Spec PyProof.Rows L2 SQ XQ XD
variable {V : Ve} {B : Sc} {X : XP} {C : D → Prop}
theorem atI_in {xs : List D} {r : Int} (h0 : 0 ≤ r) (h1 : r < xs.length) : ∃ d ∈ xs, atI xs r = some d := by
  obtain ⟨k, rfl⟩ : ∃ k : Nat, r = k := ⟨r.toNat, by omega⟩
  exact ⟨xs[k]'(by omega), List.getElem_mem _, atI_nat (by simp [show k < xs.length by omega])⟩
theorem len200 {n : Nat} (h : n ≤ 100000) : (n : Int) < 1606938044258990275541962092341162602522202993782792835301376 := by
  have : (n : Int) ≤ 100000 := by omega
  have h2 : (100000 : Int) < 1606938044258990275541962092341162602522202993782792835301376 := by decide +kernel
  exact Int.lt_of_le_of_lt this h2
theorem rng_in {lo : Int} {n : Nat} {d : D} (h : d ∈ rngD lo n) : ∃ i : Int, d = .int i ∧ lo ≤ i ∧ i < lo + n := by
  obtain ⟨k, hk, rfl⟩ := List.mem_map.mp h
  exact ⟨_, rfl, by omega, by have := List.mem_range.mp hk; omega⟩
/-- the mathematics of what is dealt -/
def dif (x : Int) : List Int → List Int
  | [] => []
  | y :: r => (y - x) :: dif y r
def movF (ns : List Int) (s g : Nat) (m : Int) : List Int :=
  (ns.set s (ns.getD s 0 - m)).set g ((ns.set s (ns.getD s 0 - m)).getD g 0 + m)
theorem getD_mem {L : List Int} {k : Nat} (h : k < L.length) : L.getD k 0 ∈ L := by
  rw [List.getD_eq_getElem?_getD, List.getElem?_eq_getElem h]
  exact List.getElem_mem h
def typedB (d : D) : Bool := (tyName d).isSome && match d with
  | .tup xs => xs.all fun x => (tyName x).isSome
  | _ => true
theorem typed_of {d : D} (h : typedB d = true) : Typed1 d := by
  unfold typedB at h
  simp only [Bool.and_eq_true] at h
  refine ⟨Option.isSome_iff_exists.mp h.1, fun xs e x hx => ?_⟩
  subst e
  have := List.all_eq_true.mp h.2 x hx
  exact Option.isSome_iff_exists.mp this
end Sp
/-! the least row above sums: what the walk over corners tells; plain mathematics -/
namespace MQ
open SQ
def at0 (s : List Int) (i : Nat) : Int := s.getD i 0
/-- the turn at the middle goes down -/
def bends (s : List Int) (a b i : Nat) : Bool := decide ((at0 s b - at0 s a) * ((i : Int) - b) > (at0 s i - at0 s b) * ((b : Int) - a))
/-- the pile of corners, the last one first -/
def popR (s : List Int) (i : Nat) : List Nat → List Nat
  | b :: a :: r => if bends s a b i then b :: a :: r else popR s i (a :: r)
  | l => l
def cornersR (s : List Int) : Nat → List Nat
  | 0 => []
  | i + 1 => i :: popR s i (cornersR s i)
def hsF (s : List Int) (sl k : Int) : List Int := (List.range s.length).map fun i => at0 s i + sl * (k - (i : Nat))
def hmax (s : List Int) (sl k : Int) : Int := (hsF s sl k).foldl max ((hsF s sl k).headD 0)
def segF (s : List Int) (a b : Nat) : List Int := (List.range (b - a)).map fun (j : Nat) => min (hmax s ((at0 s b - at0 s a) / ((b : Int) - a)) ((a : Int) + 1 + (j : Nat))) (hmax s ((at0 s b - at0 s a) / ((b : Int) - a) + 1) ((a : Int) + 1 + (j : Nat)))
def topsF (s : List Int) (cs : List Nat) : List Int := ((cs.zip cs.tail).map fun p => segF s p.1 p.2).flatten
def difF (t : List Int) : List Int := List.zipWith (fun a b => b - a) (0 :: t) t
def lraF (s : List Int) : List Int := difF (topsF s (cornersR s s.length).reverse)
/-! the greatest of a list -/
/-! sums that bend down -/
def conc (f : Nat → Int) (n : Nat) : Prop := ∀ i j, i ≤ j → j + 1 < n → f (j + 1) - f j ≤ f (i + 1) - f i
def flat (f : Nat → Int) (a b : Nat) : Prop := ∀ j, a ≤ j → j < b → f (j + 1) - f j = f (a + 1) - f a
/-- the pile of corners, the last one first, down to 0, each piece flat -/
def Pile (f : Nat → Int) : List Nat → Prop
  | [] => False
  | [a] => a = 0
  | b :: a :: r => a < b ∧ flat f a b ∧ Pile f (a :: r)
/-! of a falling row -/
end MQ
namespace Sp
open PySem PySem.Spec PyProof.Rows L2 SQ XQ XD
variable {V : Ve} {B : Sc} {X : XP} {C : D → Prop}
@[simp] theorem outc_pre {l : List Cl} {hn : ∀ c ∈ l, c.1 ∈ V.names} {a : XE (Good V)} {ss : List Sl} : (outc V l hn a).pre B X ss C = (B.tb V.T0 ∧ ∀ B', Sc.le B B' → a.pre B' (fun x => oX V l x C) (deown ss) C) := rfl
@[simp] theorem sc_all {Q : Prop} : (∀ B' : Sc, Sc.le B B' → Q) ↔ Q := ⟨fun h => h B ⟨fun _ h => h, fun _ h => h⟩, fun h _ _ => h⟩
@[simp] theorem deown_val {d : D} {r : List Sl} : deown (.val d :: r) = .val d :: deown r := rfl
@[simp] theorem deown_own {d : List D} {r : List Sl} : deown (.own d :: r) = .un :: deown r := rfl
@[simp] theorem deown_un {r : List Sl} : deown (.un :: r) = .un :: deown r := rfl
@[simp] theorem deown_nil : deown [] = [] := rfl
theorem typed_int (n : Int) : Typed (.int n) := ⟨_, rfl⟩
end Sp
/-! rows that are turned: mathematics -/
namespace Sp
open PySem PySem.Spec PyProof.Rows L2 SQ XQ XD
/-- what stands on the j-th level of e -/
def lev (e c : Int) (j : Nat) : Int := min c (max 0 (e - c * j))
def tq (a : List Int) (m : Nat) (c : Int) : List Int := (List.range m).map fun j => (a.map fun e => lev e c j).sum
def hd (a : List Int) (k : Nat) : Int := ((down a).take k).sum
/-- how far a and b hold together -/
def tog (a b : List Int) (c : Int) : Prop := ∀ k, k ≤ a.length → hd a k + MQ3.ex b (c * k) ≤ b.sum
end Sp
namespace Sp
open PySem PySem.Spec PyProof.Rows L2 SQ XQ XD
variable {V : Ve} {B : Sc} {X : XP} {C : D → Prop}
theorem check_within {d : D} {lo hi : Int} (h : Typed d) : (F_check_within V).F B [d, .int lo, .int hi] C X = if isIn d lo hi = true then C .non else X ⟨V.cls .number, ["value"], [d]⟩ := by
  simp [F_check_within, X_check_within, xf_F, is_within h]
  cases isIn d lo hi <;> simp
theorem level {a : List Int} {j : Nat} {c : Int} (hl : a.length ≤ 1000) (hj : j ≤ 1000) : (F_level V).F B [row a, .int j, .int c] C X = C (row (a.map fun e => lev e c j)) := by
  simp [F_level, X_level, xf_F, show a.length ≤ 100000 by omega]
  rw [lcW_map (f := fun e : Int => .int (lev e c j)) (fun e _ Q => by
    simp [show CMul c ↑j ∨ CMulW c ↑j from cmul2 ⟨by omega, by omega⟩, lev])]
  rw [List.nil_append, show (fun e : Int => D.int (lev e c j)) = D.int ∘ fun e => lev e c j from rfl, ← List.map_map]
theorem levels {a : List Int} {m : Nat} {c : Int} (hl : a.length ≤ 1000) (hm : m ≤ 1000) : (F_levels V).F B [row a, .int m, .int c] C X = C (row (tq a m c)) := by
  simp [F_levels, X_levels, xf_F, show (m : Int) < 4611686018427387904 by omega, show (rngD 0 m).length ≤ 100000 by simp [rngD]; omega]
  rw [rng0, lcW_map (f := fun j : Nat => .int (a.map fun e => lev e c j).sum) (fun j hj Q => by
    have hj := List.mem_range.mp hj
    simp [level hl (show j ≤ 1000 by omega)])]
  rw [List.nil_append, show (fun j : Nat => D.int (a.map fun e => lev e c j).sum) = D.int ∘ fun j => (a.map fun e => lev e c j).sum from rfl, ← List.map_map]
  rfl
theorem turned {a : List Int} {m : Nat} {c : Int} (h : Row a) (h1 : 1 ≤ m) (h2 : m ≤ 64) (c1 : 1 ≤ c) (c2 : c < 10 ^ 30) : (F_turned V).F B [row a, .int m, .int c] C X = if a.all (fun e => decide (e ≤ c * m)) = true then C (row (tq a m c)) else X ⟨V.cls .operation, [], []⟩ := by
  have l1 := h.l1
  have l2 := h.l2
  simp [F_turned, X_turned, xf_F, check_row (typed1_row a), isRow_row h, check_within (typed_int _), isIn, h1, h2, c1, show CMul c ↑m ∨ CMulW c ↑m from cmul2 ⟨by omega, by omega⟩, levels (show a.length ≤ 1000 by omega) (show m ≤ 1000 by omega)]
  rw [if_pos ⟨by omega, by omega⟩, if_pos (by omega)]
  simp [show 0 < a.length by omega]
  have ne : a ≠ [] := fun e => by rw [e] at l1; simp at l1
  by_cases q : ∀ x ∈ a, x ≤ c * m
  · have t1 : top a ≤ c * m := q _ (top_mem ne)
    rw [if_pos q]
    simp [t1, Int.not_lt.mpr t1]
  · have : ¬ top a ≤ c * m := fun h => q fun x m => Int.le_trans (le_top m) h
    simp [this, Int.not_le.mp this, q]
/-- what is no number within, and can be told -/
def oddN (lo hi : Int) (d : D) : Bool := typedB d && !isIn d lo hi
abbrev toldOf (dm dc : D) : D := .lst [.lst [.str "sums"], .lst [.str "number", dm], .lst [.str "number", dm], .lst [.str "number", dc]]
end Sp
/-! sums of tables: what is none -/
namespace Sp
open PySem PySem.Spec PyProof.Rows L2 SQ XQ XD
variable {V : Ve} {B : Sc} {X : XP} {C : D → Prop}
theorem law_pick_2 {p : Addr} {xs : List D} (b : B p) (h1 : xs ≠ []) (h2 : xs.length ≤ 100000) (c : ∀ x ∈ xs, C x) : (F__law_pick_2 V).F B [.cell p, .lst xs] C X := by
  have l0 : 0 < xs.length := List.length_pos_iff.mpr h1
  simp [F__law_pick_2, X__law_pick_2, xf_F, b, h2, l0]
  refine ⟨len200 h2, fun r r0 r1 => ?_⟩
  obtain ⟨d, m, e⟩ := atI_in r0 r1
  exact ⟨d, e, c d m⟩
def isShort (m : Int) : D → Bool
  | .tup xs => isRow (.tup xs) && decide ((xs.length : Int) ≤ m)
  | _ => false
theorem isRow_tup {d : D} (h : isRow d = true) : ∃ xs, d = .tup xs := by
  obtain ⟨ns, rfl, _⟩ := row_of h
  exact ⟨_, rfl⟩
theorem short_row {d : D} {m : Int} (h : Typed1 d) : (F__is_short_row V).F B [d, .int m] C X = C (.bl (isShort m d)) := by
  simp [F__is_short_row, X__is_short_row, xf_F, is_row h]
  cases hr : isRow d with
  | true =>
    obtain ⟨xs, rfl⟩ := isRow_tup hr
    simp [isShort, hr]
  | false =>
    cases d <;> simp_all [isShort]
theorem lines_sums {d d' : D} (h : Typed1 d) (h' : Typed1 d') : (F__are_lines_sums V).F B [d, d'] C X = C (.bl (isShort 12 d && isShort 12 d')) := by
  simp [F__are_lines_sums, X__are_lines_sums, xf_F, short_row h, short_row h']
  cases isShort 12 d <;> simp
/-- what are sums -/
def isSums : D → Bool
  | .tup (x :: r) => if eqD x (.str "table") = true then (match r with
      | [c, l, k] => isIn c 1 9 && (isShort 12 l && isShort 12 k)
      | _ => false) else (eqD (.str "web") x || eqD (.str "tournament") x) && (match r with
      | [d] => isShort 16 d
      | _ => false)
  | _ => false
def plainB (d : D) : Bool := typedB d && pyk 64 d
def sumsB (d : D) : Bool := (tyName d).isSome && match d with
  | .tup xs => xs.all plainB
  | _ => true
theorem sumsB_ty {d : D} (h : sumsB d = true) : Typed d := by
  unfold sumsB at h
  simp only [Bool.and_eq_true] at h
  exact Option.isSome_iff_exists.mp h.1
theorem sumsB_at {xs : List D} (h : sumsB (.tup xs) = true) : ∀ x ∈ xs, Typed1 x ∧ pyk 64 x = true := fun x m => by
  unfold sumsB at h
  simp only [Bool.and_eq_true] at h
  have := List.all_eq_true.mp h.2 x m
  simp only [plainB, Bool.and_eq_true] at this
  exact ⟨typed_of this.1, this.2⟩
theorem pk_table : pyk 64 (D.str (Str.ofString "table")) = true := by decide +kernel
theorem pk_web : pyk 63 (D.str (Str.ofString "web")) = true := by decide +kernel
theorem pk_tour : pyk 63 (D.str (Str.ofString "tournament")) = true := by decide +kernel
theorem pks_wt : pyks 63 [D.str (Str.ofString "web"), D.str (Str.ofString "tournament")] = true := by decide +kernel
theorem is_sums {d : D} (h : sumsB d = true) : (F_is_sums V).F B [d] C X = C (.bl (isSums d)) := by
  have ht := sumsB_ty h
  simp only [F_is_sums, X_is_sums, xf_F]
  cases d with
  | tup xs =>
    have hp := sumsB_at h
    rcases xs with _ | ⟨x, _ | ⟨a, _ | ⟨b, _ | ⟨c, _ | ⟨e, r⟩⟩⟩⟩⟩
    · simp [ht, dTup, isSums]
    · have h1 := hp x (by simp)
      cases he : eqD x (.str "table") <;> cases hw : eqD (.str "web") x <;> cases hq : eqD (.str "tournament") x <;> simp [ht, dTup, isSums, h1, he, hw, hq, inA, seqOf, pk_table, pk_web, pk_tour, pks_wt]
    · have h1 := hp x (by simp)
      have h2 := hp a (by simp)
      cases he : eqD x (.str "table") <;> cases hw : eqD (.str "web") x <;> cases hq : eqD (.str "tournament") x <;> simp [ht, dTup, isSums, h1, h2, he, hw, hq, inA, seqOf, pk_table, pk_web, pk_tour, pks_wt, short_row]
    · have h1 := hp x (by simp)
      cases he : eqD x (.str "table") <;> cases hw : eqD (.str "web") x <;> cases hq : eqD (.str "tournament") x <;> simp [ht, dTup, isSums, h1, he, hw, hq, inA, seqOf, pk_table, pk_web, pk_tour, pks_wt]
    · have h1 := hp x (by simp)
      have h2 := hp a (by simp)
      have h3 := hp b (by simp)
      have h4 := hp c (by simp)
      have l3 := lines_sums (V := V) (B := B) (X := fun _ => False) (C := C) h3.1 h4.1
      cases he : eqD x (.str "table") <;> cases hw : eqD (.str "web") x <;> cases hq : eqD (.str "tournament") x <;> cases hi : isIn a 1 9 <;> simp [ht, dTup, isSums, h1, h2.1.1, he, hw, hq, hi, is_within, inA, seqOf, pk_table, pk_web, pk_tour, pks_wt, l3, show atI [x, a, b, c] 3 = some c from rfl]
    · have h1 := hp x (by simp)
      have n4 : ¬ ((r.length : Int) + 1 + 1 + 1 + 1 + 1 = 4) := by omega
      have n2 : ¬ ((r.length : Int) + 1 + 1 + 1 + 1 + 1 = 2) := by omega
      have n0 : ¬ ((r.length : Int) + 1 + 1 + 1 + 1 + 1 = 0) := by omega
      cases he : eqD x (.str "table") <;> cases hw : eqD (.str "web") x <;> cases hq : eqD (.str "tournament") x <;> simp [ht, dTup, isSums, h1, he, hw, hq, inA, seqOf, pk_table, pk_web, pk_tour, pks_wt, n4, n2, n0]
  | _ => simp [ht, dTup, isSums]
/-- the sums of a table -/
def isTS (d : D) : Bool := isSums d && match d with
  | .tup (x :: _) => eqD x (.str "table")
  | _ => false
theorem check_ts {d : D} (h : sumsB d = true) : (F_check_table_sums V).F B [d] C X = if isTS d = true then C .non else X ⟨V.cls .sums, [], []⟩ := by
  simp only [F_check_table_sums, X_check_table_sums, xf_F]
  cases hs : isSums d with
  | false => simp [is_sums h, hs, isTS]
  | true =>
    cases d <;> simp [isSums] at hs
    rename_i xs
    rcases xs with _ | ⟨x, r⟩
    · simp at hs
    have h1 := sumsB_at h x (by simp)
    have hs' : isSums (.tup (x :: r)) = true := hs
    cases he : eqD x (.str "table") <;> simp [is_sums h, hs', isTS, he, h1, pk_table]
end Sp
/-! k24: what is refused -/
namespace Sp
open PySem PySem.Spec PyProof.Rows L2 SQ XQ XD
variable {V : Ve} {B : Sc} {X : XP} {C : D → Prop}
/-- no sums of a table, as far as the law asks -/
def noTS (d : D) : Bool := sumsB d && !isTS d
section
variable {d : D} (h : noTS d = true)
include h
theorem no_check : (F_check_table_sums V).F B [d] C X = X ⟨V.cls .sums, [], []⟩ := by
  simp only [noTS, Bool.and_eq_true, Bool.not_eq_true'] at h
  rw [check_ts h.1, h.2]; simp
theorem no_made : (F_made_table_2_nk24 V).F B [d] C X = X ⟨V.cls .sums, [], []⟩ := by
  simp [F_made_table_2_nk24, X_made_table_2_nk24, xf_F, no_check h]
theorem no_paper : (F_table_paper_2_nk24 V).F B [d] C X = X ⟨V.cls .sums, [], []⟩ := by
  simp [F_table_paper_2_nk24, X_table_paper_2_nk24, xf_F, no_check h]
theorem no_is_paper {v : D} : (F_is_table_paper_2 V).F B [d, v] C X = X ⟨V.cls .sums, [], []⟩ := by
  simp [F_is_table_paper_2, X_is_table_paper_2, xf_F, no_check h]
theorem no_units : (F_most_units V).F B [d] C X = X ⟨V.cls .sums, [], []⟩ := by
  simp [F_most_units, X_most_units, xf_F, no_check h]
theorem no_most : (F_most_paper_2_nk24 V).F B [d] C X = X ⟨V.cls .sums, [], []⟩ := by
  simp [F_most_paper_2_nk24, X_most_paper_2_nk24, xf_F, no_check h]
theorem no_is_most {v : D} : (F_is_most_paper_2 V).F B [d, v] C X = X ⟨V.cls .sums, [], []⟩ := by
  simp [F_is_most_paper_2, X_is_most_paper_2, xf_F, no_check h]
theorem no_fewest : (F_fewest_taken V).F B [d] C X = X ⟨V.cls .sums, [], []⟩ := by
  simp [F_fewest_taken, X_fewest_taken, xf_F, no_units h]
theorem no_nearest : (F_nearest_sums V).F B [d] C X = X ⟨V.cls .sums, [], []⟩ := by
  simp [F_nearest_sums, X_nearest_sums, xf_F, no_check h]
end
theorem law_wrong_sums {p : Addr} (b : B p) (c : ∀ d, noTS d = true → C d) : (F__law_wrong_sums V).F B [.cell p] C X := by
  simp [F__law_wrong_sums, X__law_wrong_sums, xf_F, b]
  refine law_pick_2 b (by simp) (by simp) fun d hd => c d ?_
  have key : ∀ l : List D, l.all noTS = true → ∀ x ∈ l, noTS x = true := fun l h => List.all_eq_true.mp h
  exact key _ (by decide +kernel) d hd
/-! the three functions with a cap, a row and a number of lines -/
section
variable {cap row' many : D}
theorem gr_cap (h : Typed cap) (no : isIn cap 1 9 = false) : (F_greatest_row V).F B [cap, row', many] C X = X ⟨V.cls .number, ["value"], [cap]⟩ := by
  simp [F_greatest_row, X_greatest_row, xf_F, check_within h, no]
theorem ft_cap (h : Typed cap) (no : isIn cap 1 9 = false) : (F_filled_table_2 V).F B [cap, row', many] C X = X ⟨V.cls .number, ["value"], [cap]⟩ := by
  simp [F_filled_table_2, X_filled_table_2, xf_F, check_within h, no]
theorem ht_cap (h : Typed cap) (no : isIn cap 1 9 = false) : (F_has_table V).F B [cap, row', many] C X = X ⟨V.cls .number, ["value"], [cap]⟩ := by
  simp [F_has_table, X_has_table, xf_F, check_within h, no]
theorem in19 : isIn (.int 1) 1 9 = true := by decide
theorem gr_row (h : Typed1 row') (no : isRow row' = false) : (F_greatest_row V).F B [.int 1, row', many] C X = X ⟨V.cls .sums, [], []⟩ := by
  simp [F_greatest_row, X_greatest_row, xf_F, check_within (typed_int 1), in19, check_row h, no]
theorem ft_row (h : Typed1 row') (no : isRow row' = false) : (F_filled_table_2 V).F B [.int 1, row', many] C X = X ⟨V.cls .sums, [], []⟩ := by
  simp [F_filled_table_2, X_filled_table_2, xf_F, check_within (typed_int 1), in19, check_row h, no]
theorem ht_row {d d' : D} (h : Typed1 d) (h' : Typed1 d') (no : isRow d = false ∨ isRow d' = false) : (F_has_table V).F B [.int 1, d, d'] C X = X ⟨V.cls .sums, [], []⟩ := by
  have : ¬ (isRow d = true ∧ isRow d' = true) := by rcases no with n | n <;> simp [n]
  simp [F_has_table, X_has_table, xf_F, check_within (typed_int 1), in19, check_rows h h', this]
theorem gr_many {a : List Int} (ha : Row a) (h : Typed many) (no : isIn many 1 64 = false) : (F_greatest_row V).F B [.int 1, row a, many] C X = X ⟨V.cls .number, ["value"], [many]⟩ := by
  simp [F_greatest_row, X_greatest_row, xf_F, check_within (typed_int 1), in19, check_row (typed1_row a), isRow_row ha, check_within h, no]
theorem ft_many {a : List Int} (ha : Row a) (l : a.length ≤ 12) (h : Typed many) (no : isIn many 1 12 = false) : (F_filled_table_2 V).F B [.int 1, row a, many] C X = X ⟨V.cls .number, ["value"], [many]⟩ := by
  simp [F_filled_table_2, X_filled_table_2, xf_F, check_within (typed_int 1), in19, check_row (typed1_row a), isRow_row ha, check_within h, no, show (12 < (a.length : Int)) = False from eq_false (by omega), show (a.length : Int) ≤ 12 by omega]
end
end Sp
/-! k24 -/
namespace Sp
open PySem PySem.Spec PyProof.Rows L2 SQ XQ XD
variable {V : Ve} {B : Sc} {X : XP} {C : D → Prop}
theorem table_init {B : Sc} {X : XP} {C : D → Prop} (c : ∀ d, C d) : (F_Table___init__ V).F B [.int 1, .tup [.int 1]] C X := by
  have t1 : Typed (.tup [.int 1]) := ⟨_, rfl⟩
  simp [F_Table___init__, xstar_F, xi_F, X_Table___init__, F__are_table, X__are_table, xf_F, is_within, typed_int, show isIn (.int 1) 1 9 = true by decide, show isIn (.int 1) 0 1 = true by decide, lcW_cons, lc2W_cons, lcWb_cons, t1, dTup, allP]
  have b1 : bolOf [D.bl true] = some [true] := rfl
  refine ⟨_, b1, .inr ⟨by decide, _, b1, .inr ⟨by decide, _, b1, .inr ⟨by decide, by decide, c _⟩⟩⟩⟩
def numS (d : D) : D := .str (Str.ofString "number " ++ (rp d).shown)
/-- a number that is none from lo to hi, and can be shown -/
def oddS (lo hi : Int) (d : D) : Bool := oddN lo hi d && shw d && decide ((Str.ofString "number ").length + (rp d).shown.length ≤ 2000000) && pyk 63 (numS d)
theorem oddS_of {lo hi : Int} {d : D} (h : oddS lo hi d = true) : Typed d ∧ isIn d lo hi = false ∧ shw d = true ∧ (Str.ofString "number ").length + (rp d).shown.length ≤ 2000000 ∧ pyk 63 (.str (Str.ofString "number " ++ (rp d).shown)) = true := by
  simp only [oddS, oddN, Bool.and_eq_true, Bool.not_eq_true', decide_eq_true_eq] at h
  exact ⟨(typed_of h.1.1.1.1).1, h.1.1.1.2, h.1.1.2, h.1.2, h.2⟩
def oddR (d : D) : Bool := typedB d && !isRow d
theorem oddR_of {d : D} (h : oddR d = true) : Typed1 d ∧ isRow d = false := by
  simp only [oddR, Bool.and_eq_true, Bool.not_eq_true'] at h
  exact ⟨typed_of h.1, h.2⟩
theorem all_of {l : List D} {f : D → Bool} (h : l.all f = true) : ∀ x ∈ l, f x = true := List.all_eq_true.mp h
theorem row_ones {n : Nat} (h : 1 ≤ n ∧ n ≤ 64) : Row (List.replicate n 1) := ⟨by simp; omega, by simp; omega, fun x m => by rw [(List.mem_replicate.mp m).2]; decide⟩
theorem row_rep (n : Nat) (x : Int) : D.tup (List.replicate n (D.int x)) = row (List.replicate n x) := by rw [row, List.map_replicate]
theorem right24 (hn : ∀ c ∈ cl__law_met, c.1 ∈ V.names) {p : Addr} (bp : B p) (hT : B.tb V.T0) (k : C (.bl true)) : (F__law_right_92_nk24 V hn).F B [.cell p] C X := by
  unfold F__law_right_92_nk24
  rw [xf_F, X__law_right_92_nk24_split]
  refine ⟨rfl, ?_⟩
  simp [bp]
  refine law_wrong_sums bp fun od ho => ?_
  refine table_init fun tv => ?_
  refine law_pick_2 bp (by simp) (by simp) fun v _ => ?_

  unfold X__law_right_92_nk24_L23
  refine one_step (.str "sums") (by simp) (mt_U hT fun B' _ => by simp [no_made ho, cl__law_met]) ?_
  simp only [List.set_cons_succ, List.set_cons_zero, List.cons_append, List.nil_append]
  unfold X__law_right_92_nk24_L22
  refine app_step (.str "sums") rfl (by simp) (mt_U hT fun B' _ => by simp [no_paper ho, cl__law_met]) ?_
  simp only [List.set_cons_succ, List.set_cons_zero, List.cons_append, List.nil_append]
  unfold X__law_right_92_nk24_L21
  refine app_step (.str "sums") rfl (by simp) (mt_U hT fun B' _ => by simp [no_is_paper ho, cl__law_met]) ?_
  simp only [List.set_cons_succ, List.set_cons_zero, List.cons_append, List.nil_append]
  unfold X__law_right_92_nk24_L20
  refine app_step (.str "sums") rfl (by simp) (mt_U hT fun B' _ => by simp [no_units ho, cl__law_met]) ?_
  simp only [List.set_cons_succ, List.set_cons_zero, List.cons_append, List.nil_append]
  unfold X__law_right_92_nk24_L19
  refine app_step (.str "sums") rfl (by simp) (mt_U hT fun B' _ => by simp [no_most ho, cl__law_met]) ?_
  simp only [List.set_cons_succ, List.set_cons_zero, List.cons_append, List.nil_append]
  unfold X__law_right_92_nk24_L18
  refine app_step (.str "sums") rfl (by simp) (mt_U hT fun B' _ => by simp [no_is_most ho, cl__law_met]) ?_
  simp only [List.set_cons_succ, List.set_cons_zero, List.cons_append, List.nil_append]
  unfold X__law_right_92_nk24_L17
  refine app_step (.str "sums") rfl (by simp) (mt_U hT fun B' _ => by simp [no_fewest ho, cl__law_met]) ?_
  simp only [List.set_cons_succ, List.set_cons_zero, List.cons_append, List.nil_append]
  unfold X__law_right_92_nk24_L16
  refine app_step (.str "sums") rfl (by simp) (mt_U hT fun B' _ => by simp [no_nearest ho, cl__law_met]) ?_
  simp only [List.set_cons_succ, List.set_cons_zero, List.cons_append, List.nil_append]
  have w : pyk 63 (D.str (Str.ofString "sums")) = true := by decide +kernel
  simp [X__law_right_92_nk24_L15, w]
  simp [X__law_right_92_nk24_L14]
  refine law_pick_2 bp (by simp) (by simp) fun cap hc => ?_
  simp [X__law_right_92_nk24_L13]
  refine law_pick_2 bp (by simp) (by simp) fun rw_ hr => ?_
  simp [X__law_right_92_nk24_L12]
  refine law_pick_2 bp (by simp) (by simp) fun many hm => ?_
  obtain ⟨tc, nc, sc, lc, pc⟩ := oddS_of (lo := 1) (hi := 9) (all_of (by decide +kernel) cap hc)
  obtain ⟨tr, nr⟩ := oddR_of (all_of (by decide +kernel) rw_ hr)
  obtain ⟨tm, nm, sm, lm, pm⟩ := oddS_of (lo := 1) (hi := 64) (all_of (by decide +kernel) many hm)
  obtain ⟨_, nm2, _, _, _⟩ := oddS_of (lo := 1) (hi := 12) (all_of (by decide +kernel) many hm)
  clear hc hr hm
  have t1 : Typed1 (.tup [.int 1]) := typed1_row [1]
  have g64 := fun (B : Sc) (X : XP) (C : D → Prop) => gr_many (V := V) (B := B) (X := X) (C := C) (row_ones (n := 64) (by decide)) tm nm
  have g12 := fun (B : Sc) (X : XP) (C : D → Prop) => ft_many (V := V) (B := B) (X := X) (C := C) (row_ones (n := 12) (by decide)) (by decide) tm nm2

  unfold X__law_right_92_nk24_L11
  refine one_step (.str (Str.ofString "number " ++ (rp cap).shown)) (by simp) (mt_U hT fun B' _ => by simp [gr_cap tc nc, sc, lc, cl__law_met]) ?_
  simp only [List.set_cons_succ, List.set_cons_zero, List.cons_append, List.nil_append]
  unfold X__law_right_92_nk24_L10
  refine app_step (.str "sums") rfl (by simp) (mt_U hT fun B' _ => by simp [gr_row tr nr, cl__law_met]) ?_
  simp only [List.set_cons_succ, List.set_cons_zero, List.cons_append, List.nil_append]
  unfold X__law_right_92_nk24_L9
  refine app_step (.str (Str.ofString "number " ++ (rp many).shown)) rfl (by simp) (mt_U hT fun B' _ => by simp [-List.reduceReplicate, row_rep, g64, sm, lm, cl__law_met]) ?_
  simp only [List.set_cons_succ, List.set_cons_zero, List.cons_append, List.nil_append]
  unfold X__law_right_92_nk24_L8
  refine app_step (.str (Str.ofString "number " ++ (rp cap).shown)) rfl (by simp) (mt_U hT fun B' _ => by simp [ft_cap tc nc, sc, lc, cl__law_met]) ?_
  simp only [List.set_cons_succ, List.set_cons_zero, List.cons_append, List.nil_append]
  unfold X__law_right_92_nk24_L7
  refine app_step (.str "sums") rfl (by simp) (mt_U hT fun B' _ => by simp [ft_row tr nr, cl__law_met]) ?_
  simp only [List.set_cons_succ, List.set_cons_zero, List.cons_append, List.nil_append]
  unfold X__law_right_92_nk24_L6
  refine app_step (.str (Str.ofString "number " ++ (rp many).shown)) rfl (by simp) (mt_U hT fun B' _ => by simp [-List.reduceReplicate, row_rep, g12, sm, lm, cl__law_met]) ?_
  simp only [List.set_cons_succ, List.set_cons_zero, List.cons_append, List.nil_append]
  unfold X__law_right_92_nk24_L5
  refine app_step (.str (Str.ofString "number " ++ (rp cap).shown)) rfl (by simp) (mt_U hT fun B' _ => by simp [ht_cap tc nc, sc, lc, cl__law_met]) ?_
  simp only [List.set_cons_succ, List.set_cons_zero, List.cons_append, List.nil_append]
  unfold X__law_right_92_nk24_L4
  refine app_step (.str "sums") rfl (by simp) (mt_U hT fun B' _ => by simp [ht_row tr t1 (.inl nr), cl__law_met]) ?_
  simp only [List.set_cons_succ, List.set_cons_zero, List.cons_append, List.nil_append]
  unfold X__law_right_92_nk24_L3
  refine app_step (.str "sums") rfl (by simp) (mt_U hT fun B' _ => by simp [ht_row t1 tr (.inr nr), cl__law_met]) ?_
  simp only [List.set_cons_succ, List.set_cons_zero, List.cons_append, List.nil_append]
  simp [X__law_right_92_nk24_L2, sc, lc, sm, lm]
  simp [X__law_right_92_nk24_L1, sc, lc, sm, lm, w, pc, pm]
  exact k
end Sp
/-! k24: the law -/
namespace Sp
open PySem PySem.Spec PyProof.Rows L2 SQ XQ XD
variable {V : Ve} {B : Sc} {X : XP} {C : D → Prop}
theorem ft_long {a : List Int} {many : D} (ha : Row a) (l : 12 < a.length) : (F_filled_table_2 V).F B [.int 1, row a, many] C X = X ⟨V.cls .sums, [], []⟩ := by
  simp [F_filled_table_2, X_filled_table_2, xf_F, check_within (typed_int 1), in19, check_row (typed1_row a), isRow_row ha, show (12 < (a.length : Int)) = True from eq_true (by omega), show ((a.length : Int) ≤ 12) = False from eq_false (by omega)]
theorem row_reps {n : Nat} {x : Int} (h : 1 ≤ n ∧ n ≤ 64) (hx : 0 ≤ x ∧ x < 10 ^ 30) : Row (List.replicate n x) := ⟨by simp; omega, by simp; omega, fun y m => by rw [(List.mem_replicate.mp m).2]; exact hx⟩
theorem ft_lit2 : (F_filled_table_2 V).F B [.int 2, .tup [.int 5, .int 0], .int 2] C X = X ⟨V.cls .operation, [], []⟩ := by
  have r : Row [5, 0] := ⟨by decide, by decide, by decide⟩
  show (F_filled_table_2 V).F B [.int 2, row [5, 0], .int 2] C X = _
  rw [F_filled_table_2, X_filled_table_2, xf_F]
  simp [check_within (typed_int 2), show isIn (.int 2) 1 9 = true by decide, check_row (typed1_row [5, 0]), isRow_row r, check_within (typed_int 2), show isIn (.int 2) 1 12 = true by decide]
  rw [show top [5, 0] = 5 by decide +kernel]
  simp [show CMul 2 2 ∨ CMulW 2 2 from cmul2 ⟨by decide, by decide⟩]
theorem gr_right {a : List Int} {m : Nat} (ha : Row a) (h : 1 ≤ m ∧ m ≤ 64) : (F_greatest_row V).F B [.int 1, row a, .int m] C X = C (row (tq a m 1)) := by
  have l := ha.l2
  simp [F_greatest_row, X_greatest_row, xf_F, check_within (typed_int 1), in19, check_row (typed1_row a), isRow_row ha, check_within (typed_int m), show isIn (.int m) 1 64 = true by simp [isIn]; omega]
  rw [levels (by omega) (by omega)]
theorem law_24 (hn : ∀ c ∈ cl__law_met, c.1 ∈ V.names) {ns : List Int} (hT : B.tb V.T0) (c : C (.bl true)) : (F_law_104_nk24 V hn).F B [.scr ns] C X := by
  simp [F_law_104_nk24, X_law_104_nk24_split, xf_F]
  refine ⟨by omega, ?_⟩
  refine forW_inv (fun _ ss => ∃ s1 s2 s3 : Sl, ss = [.val (.scr ns), s1, s2, s3, .un]) ⟨_, _, _, rfl⟩ ?_ ?_
  · rintro i d ss' hi ⟨s1, s2, s3, rfl⟩ e' n1 n2 n3 n4
    obtain ⟨z, rfl, z0, z1⟩ := rng_in (List.mem_of_getElem? hi)
    obtain ⟨j, rfl⟩ : ∃ j : Nat, z = j := ⟨z.toNat, by omega⟩
    simp [X_law_104_nk24_L2]
    refine ⟨⟨_, _, ⟨rfl, rfl⟩, by omega⟩, fun B' p bp hB => ?_⟩
    refine forW_inv (fun _ ss => ∃ s3 : Sl, ss = [.val (.scr ns), .val (.int j), .val (.cell p), s3, .un]) ⟨_, rfl⟩ ?_ ?_
    · rintro i2 d2 ss2 hi2 ⟨s3', rfl⟩ e2 m1 m2 m3 m4
      simp [X_law_104_nk24_L1]
      refine right24 hn bp (hB.tb _ hT) ?_
      simp
      exact m1 _ ⟨_, rfl⟩
    · rintro ss2 ⟨s3', rfl⟩
      exact n1 _ ⟨_, _, _, rfl⟩
  · rintro ss' ⟨s1, s2, s3, rfl⟩
    have a1 := fun (B : Sc) (X : XP) (C : D → Prop) (d : D) => ft_long (V := V) (B := B) (X := X) (C := C) (many := d) (row_ones (n := 13) (by decide)) (by decide)
    have a4 := fun (B : Sc) (X : XP) (C : D → Prop) (d : D) => ft_long (V := V) (B := B) (X := X) (C := C) (many := d) (row_reps (n := 13) (x := 0) (by decide) (by decide)) (by decide)
    have a3 : ∀ (B : Sc) (X : XP) (C : D → Prop), (F_filled_table_2 V).F B [.int 1, .tup [.int 1], .int 13] C X = X ⟨V.cls .number, ["value"], [.int 13]⟩ := fun B X C => ft_many (a := [1]) (many := .int 13) ⟨by decide, by decide, by decide⟩ (by decide) (typed_int 13) (by decide)
    have a5 : ∀ (B : Sc) (X : XP) (C : D → Prop), (F_greatest_row V).F B [.int 1, .tup [.int 0], .int 64] C X = C (row (tq [0] 64 1)) := fun B X C => gr_right (a := [0]) (m := 64) ⟨by decide, by decide, by decide⟩ (by decide)
    have q5 : (tq [0] 64 1).length = 64 := rfl
    have s13 : shw (.int 13) = true := by decide +kernel
    have l13 : (Str.ofString "number ").length + (rp (.int 13)).shown.length ≤ 2000000 := by decide +kernel
    unfold X_law_104_nk24_L8
    refine one_step (.str "sums") (by simp) (mt_U hT fun B' _ => by simp [-List.reduceReplicate, row_rep, a1, cl__law_met]) ?_
    simp only [List.set_cons_succ, List.set_cons_zero, List.cons_append, List.nil_append]
    unfold X_law_104_nk24_L7
    refine app_step (.str "operation") rfl (by simp) (mt_U hT fun B' _ => by simp [ft_lit2, cl__law_met]) ?_
    simp only [List.set_cons_succ, List.set_cons_zero, List.cons_append, List.nil_append]
    unfold X_law_104_nk24_L6
    refine app_step (.str "number 13") rfl (by simp) (mt_U hT fun B' _ => by simp [a3, cl__law_met, s13]; exact ⟨l13, by decide +kernel⟩) ?_
    simp only [List.set_cons_succ, List.set_cons_zero, List.cons_append, List.nil_append]
    unfold X_law_104_nk24_L5
    refine app_step (.str "sums") rfl (by simp) (mt_U hT fun B' _ => by simp [-List.reduceReplicate, row_rep, a4, cl__law_met]) ?_
    simp only [List.set_cons_succ, List.set_cons_zero, List.cons_append, List.nil_append]
    unfold X_law_104_nk24_L4
    refine app_step (.int 64) rfl (by simp) (mt_U hT fun B' _ => by simp [a5, cl__law_met, q5]) ?_
    simp only [List.set_cons_succ, List.set_cons_zero, List.cons_append, List.nil_append]
    have w : pyk 63 (D.str (Str.ofString "sums")) = true := by decide +kernel
    have w2 : pyk 63 (D.str (Str.ofString "operation")) = true := by decide +kernel
    have w3 : pyk 63 (D.str (Str.ofString "number 13")) = true := by decide +kernel
    have w4 : pyk 63 (D.int 64) = true := by decide +kernel
    simp [X_law_104_nk24_L3, w, w2, w3, w4]
    exact c
end Sp
namespace W30
open PySem PySem.Spec PyProof.Rows L2 SQ XQ XD
def clsV (E_sums E_operation E_number E_table E_web E_tournament E_cTable E_cWeb E_cTour : Nat) : XN → Nat
  | .sums => E_sums
  | .operation => E_operation
  | .number => E_number
  | .many => E_sums + E_operation + E_number + E_table + E_web + E_tournament + E_cTable + E_cWeb + E_cTour + 1
  | .table => E_table
  | .web => E_web
  | .tournament => E_tournament
  | .filling => E_sums + E_operation + E_number + E_table + E_web + E_tournament + E_cTable + E_cWeb + E_cTour + 2
  | .undo => E_sums + E_operation + E_number + E_table + E_web + E_tournament + E_cTable + E_cWeb + E_cTour + 3
  | .parse => E_sums + E_operation + E_number + E_table + E_web + E_tournament + E_cTable + E_cWeb + E_cTour + 4
  | .unknown => E_sums + E_operation + E_number + E_table + E_web + E_tournament + E_cTable + E_cWeb + E_cTour + 5
  | .refused => E_sums + E_operation + E_number + E_table + E_web + E_tournament + E_cTable + E_cWeb + E_cTour + 6
  | .command => E_sums + E_operation + E_number + E_table + E_web + E_tournament + E_cTable + E_cWeb + E_cTour + 7
  | .cOrder => E_sums + E_operation + E_number + E_table + E_web + E_tournament + E_cTable + E_cWeb + E_cTour + 8
  | .cTable => E_cTable
  | .cWeb => E_cWeb
  | .cTour => E_cTour
  | .cPress => E_sums + E_operation + E_number + E_table + E_web + E_tournament + E_cTable + E_cWeb + E_cTour + 9
  | .cBench => E_sums + E_operation + E_number + E_table + E_web + E_tournament + E_cTable + E_cWeb + E_cTour + 10
  | .cShell => E_sums + E_operation + E_number + E_table + E_web + E_tournament + E_cTable + E_cWeb + E_cTour + 11
theorem clsV_inj {E_sums E_operation E_number E_table E_web E_tournament E_cTable E_cWeb E_cTour : Nat} (q_sums_operation : E_sums ≠ E_operation) (q_sums_number : E_sums ≠ E_number) (q_sums_table : E_sums ≠ E_table) (q_sums_web : E_sums ≠ E_web) (q_sums_tournament : E_sums ≠ E_tournament) (q_sums_cTable : E_sums ≠ E_cTable) (q_sums_cWeb : E_sums ≠ E_cWeb) (q_sums_cTour : E_sums ≠ E_cTour) (q_operation_number : E_operation ≠ E_number) (q_operation_table : E_operation ≠ E_table) (q_operation_web : E_operation ≠ E_web) (q_operation_tournament : E_operation ≠ E_tournament) (q_operation_cTable : E_operation ≠ E_cTable) (q_operation_cWeb : E_operation ≠ E_cWeb) (q_operation_cTour : E_operation ≠ E_cTour) (q_number_table : E_number ≠ E_table) (q_number_web : E_number ≠ E_web) (q_number_tournament : E_number ≠ E_tournament) (q_number_cTable : E_number ≠ E_cTable) (q_number_cWeb : E_number ≠ E_cWeb) (q_number_cTour : E_number ≠ E_cTour) (q_table_web : E_table ≠ E_web) (q_table_tournament : E_table ≠ E_tournament) (q_table_cTable : E_table ≠ E_cTable) (q_table_cWeb : E_table ≠ E_cWeb) (q_table_cTour : E_table ≠ E_cTour) (q_web_tournament : E_web ≠ E_tournament) (q_web_cTable : E_web ≠ E_cTable) (q_web_cWeb : E_web ≠ E_cWeb) (q_web_cTour : E_web ≠ E_cTour) (q_tournament_cTable : E_tournament ≠ E_cTable) (q_tournament_cWeb : E_tournament ≠ E_cWeb) (q_tournament_cTour : E_tournament ≠ E_cTour) (q_cTable_cWeb : E_cTable ≠ E_cWeb) (q_cTable_cTour : E_cTable ≠ E_cTour) (q_cWeb_cTour : E_cWeb ≠ E_cTour) : ∀ a b, clsV E_sums E_operation E_number E_table E_web E_tournament E_cTable E_cWeb E_cTour a = clsV E_sums E_operation E_number E_table E_web E_tournament E_cTable E_cWeb E_cTour b → a = b := by
  intro a b h
  cases a <;> cases b <;> first | rfl | (exfalso; simp only [clsV] at h; clear q_sums_operation q_sums_number q_sums_table q_sums_web q_sums_tournament q_sums_cTable q_sums_cWeb q_sums_cTour q_operation_number q_operation_table q_operation_web q_operation_tournament q_operation_cTable q_operation_cWeb q_operation_cTour q_number_table q_number_web q_number_tournament q_number_cTable q_number_cWeb q_number_cTour q_table_web q_table_tournament q_table_cTable q_table_cWeb q_table_cTour q_web_tournament q_web_cTable q_web_cWeb q_web_cTour q_tournament_cTable q_tournament_cWeb q_tournament_cTour q_cTable_cWeb q_cTable_cTour q_cWeb_cTour; omega) | (exfalso; simp only [clsV] at h; first | exact q_sums_operation h | exact q_sums_operation h.symm | exact q_sums_number h | exact q_sums_number h.symm | exact q_sums_table h | exact q_sums_table h.symm | exact q_sums_web h | exact q_sums_web h.symm | exact q_sums_tournament h | exact q_sums_tournament h.symm | exact q_sums_cTable h | exact q_sums_cTable h.symm | exact q_sums_cWeb h | exact q_sums_cWeb h.symm | exact q_sums_cTour h | exact q_sums_cTour h.symm | exact q_operation_number h | exact q_operation_number h.symm | exact q_operation_table h | exact q_operation_table h.symm | exact q_operation_web h | exact q_operation_web h.symm | exact q_operation_tournament h | exact q_operation_tournament h.symm | exact q_operation_cTable h | exact q_operation_cTable h.symm | exact q_operation_cWeb h | exact q_operation_cWeb h.symm | exact q_operation_cTour h | exact q_operation_cTour h.symm | exact q_number_table h | exact q_number_table h.symm | exact q_number_web h | exact q_number_web h.symm | exact q_number_tournament h | exact q_number_tournament h.symm | exact q_number_cTable h | exact q_number_cTable h.symm | exact q_number_cWeb h | exact q_number_cWeb h.symm | exact q_number_cTour h | exact q_number_cTour h.symm | exact q_table_web h | exact q_table_web h.symm | exact q_table_tournament h | exact q_table_tournament h.symm | exact q_table_cTable h | exact q_table_cTable h.symm | exact q_table_cWeb h | exact q_table_cWeb h.symm | exact q_table_cTour h | exact q_table_cTour h.symm | exact q_web_tournament h | exact q_web_tournament h.symm | exact q_web_cTable h | exact q_web_cTable h.symm | exact q_web_cWeb h | exact q_web_cWeb h.symm | exact q_web_cTour h | exact q_web_cTour h.symm | exact q_tournament_cTable h | exact q_tournament_cTable h.symm | exact q_tournament_cWeb h | exact q_tournament_cWeb h.symm | exact q_tournament_cTour h | exact q_tournament_cTour h.symm | exact q_cTable_cWeb h | exact q_cTable_cWeb h.symm | exact q_cTable_cTour h | exact q_cTable_cTour h.symm | exact q_cWeb_cTour h | exact q_cWeb_cTour h.symm)
theorem all_mk {P : Program} {w : World} {K : PySem.W.Frag} {h : Heap} {mg : Str → Option Value} {fa E_sums E_operation E_number E_table E_web E_tournament E_cTable E_cWeb E_cTour P__law_right P_law c__law_right c_law : Addr} (X : K.In h) (hfa : mg "law" = some (.ref fa))
    (b_abs : mg "abs" = none)
    (b_all : mg "all" = none)
    (b_bool : mg "bool" = none)
    (b_enumerate : mg "enumerate" = none)
    (b_int : mg "int" = none)
    (b_isinstance : mg "isinstance" = none)
    (b_len : mg "len" = none)
    (b_list : mg "list" = none)
    (b_max : mg "max" = none)
    (b_min : mg "min" = none)
    (b_range : mg "range" = none)
    (b_repr : mg "repr" = none)
    (b_sorted : mg "sorted" = none)
    (b_sum : mg "sum" = none)
    (b_tuple : mg "tuple" = none)
    (b_zip : mg "zip" = none)
    (k_MAX_CAP : ∃ u, mg "MAX_CAP" = some u ∧ RelV (.int 9) u)
    (k_MAX_LENGTH : ∃ u, mg "MAX_LENGTH" = some u ∧ RelV (.int 64) u)
    (k_MAX_LINES : ∃ u, mg "MAX_LINES" = some u ∧ RelV (.int 12) u)
    (k_MAX_PLACES : ∃ u, mg "MAX_PLACES" = some u ∧ RelV (.int 16) u)
    (x_InvalidNumber : OwnX K mg "InvalidNumber" "value" E_number)
    (x_InvalidOperation : Own0 K mg "InvalidOperation" E_operation)
    (x_InvalidSums : Own0 K mg "InvalidSums" E_sums)
    (x_InvalidTable : Own0 K mg "InvalidTable" E_table)
    (x_InvalidTournament : Own0 K mg "InvalidTournament" E_tournament)
    (x_InvalidWeb : Own0 K mg "InvalidWeb" E_web)
    (c_Table : mg "Table" = some (.ref E_cTable))
    (c_Tournament : mg "Tournament" = some (.ref E_cTour))
    (c_Web : mg "Web" = some (.ref E_cWeb))
    (cl_Table : Cls K E_cTable)
    (cl_Tournament : Cls K E_cTour)
    (cl_Web : Cls K E_cWeb)
    (na_Table__cap : NoAttr K E_cTable "_cap")
    (na_Table__lines : NoAttr K E_cTable "_lines")
    (na_Tournament__beaten : NoAttr K E_cTour "_beaten")
    (na_Web__places : NoAttr K E_cWeb "_places")
    (na_Web__ties : NoAttr K E_cWeb "_ties")
    (e_sums_sums : PySem.W.exmOne K (.ref E_sums) (.ref E_sums) = some true)
    (e_sums_operation : PySem.W.exmOne K (.ref E_sums) (.ref E_operation) = some false)
    (e_sums_number : PySem.W.exmOne K (.ref E_sums) (.ref E_number) = some false)
    (e_sums_table : PySem.W.exmOne K (.ref E_sums) (.ref E_table) = some false)
    (e_sums_web : PySem.W.exmOne K (.ref E_sums) (.ref E_web) = some false)
    (e_sums_tournament : PySem.W.exmOne K (.ref E_sums) (.ref E_tournament) = some false)
    (e_operation_sums : PySem.W.exmOne K (.ref E_operation) (.ref E_sums) = some false)
    (e_operation_operation : PySem.W.exmOne K (.ref E_operation) (.ref E_operation) = some true)
    (e_operation_number : PySem.W.exmOne K (.ref E_operation) (.ref E_number) = some false)
    (e_operation_table : PySem.W.exmOne K (.ref E_operation) (.ref E_table) = some false)
    (e_operation_web : PySem.W.exmOne K (.ref E_operation) (.ref E_web) = some false)
    (e_operation_tournament : PySem.W.exmOne K (.ref E_operation) (.ref E_tournament) = some false)
    (e_number_sums : PySem.W.exmOne K (.ref E_number) (.ref E_sums) = some false)
    (e_number_operation : PySem.W.exmOne K (.ref E_number) (.ref E_operation) = some false)
    (e_number_number : PySem.W.exmOne K (.ref E_number) (.ref E_number) = some true)
    (e_number_table : PySem.W.exmOne K (.ref E_number) (.ref E_table) = some false)
    (e_number_web : PySem.W.exmOne K (.ref E_number) (.ref E_web) = some false)
    (e_number_tournament : PySem.W.exmOne K (.ref E_number) (.ref E_tournament) = some false)
    (e_table_sums : PySem.W.exmOne K (.ref E_table) (.ref E_sums) = some false)
    (e_table_operation : PySem.W.exmOne K (.ref E_table) (.ref E_operation) = some false)
    (e_table_number : PySem.W.exmOne K (.ref E_table) (.ref E_number) = some false)
    (e_table_table : PySem.W.exmOne K (.ref E_table) (.ref E_table) = some true)
    (e_table_web : PySem.W.exmOne K (.ref E_table) (.ref E_web) = some false)
    (e_table_tournament : PySem.W.exmOne K (.ref E_table) (.ref E_tournament) = some false)
    (e_web_sums : PySem.W.exmOne K (.ref E_web) (.ref E_sums) = some false)
    (e_web_operation : PySem.W.exmOne K (.ref E_web) (.ref E_operation) = some false)
    (e_web_number : PySem.W.exmOne K (.ref E_web) (.ref E_number) = some false)
    (e_web_table : PySem.W.exmOne K (.ref E_web) (.ref E_table) = some false)
    (e_web_web : PySem.W.exmOne K (.ref E_web) (.ref E_web) = some true)
    (e_web_tournament : PySem.W.exmOne K (.ref E_web) (.ref E_tournament) = some false)
    (e_tournament_sums : PySem.W.exmOne K (.ref E_tournament) (.ref E_sums) = some false)
    (e_tournament_operation : PySem.W.exmOne K (.ref E_tournament) (.ref E_operation) = some false)
    (e_tournament_number : PySem.W.exmOne K (.ref E_tournament) (.ref E_number) = some false)
    (e_tournament_table : PySem.W.exmOne K (.ref E_tournament) (.ref E_table) = some false)
    (e_tournament_web : PySem.W.exmOne K (.ref E_tournament) (.ref E_web) = some false)
    (e_tournament_tournament : PySem.W.exmOne K (.ref E_tournament) (.ref E_tournament) = some true)
    (q_sums_operation : E_sums ≠ E_operation)
    (q_sums_number : E_sums ≠ E_number)
    (q_sums_table : E_sums ≠ E_table)
    (q_sums_web : E_sums ≠ E_web)
    (q_sums_tournament : E_sums ≠ E_tournament)
    (q_sums_cTable : E_sums ≠ E_cTable)
    (q_sums_cWeb : E_sums ≠ E_cWeb)
    (q_sums_cTour : E_sums ≠ E_cTour)
    (q_operation_number : E_operation ≠ E_number)
    (q_operation_table : E_operation ≠ E_table)
    (q_operation_web : E_operation ≠ E_web)
    (q_operation_tournament : E_operation ≠ E_tournament)
    (q_operation_cTable : E_operation ≠ E_cTable)
    (q_operation_cWeb : E_operation ≠ E_cWeb)
    (q_operation_cTour : E_operation ≠ E_cTour)
    (q_number_table : E_number ≠ E_table)
    (q_number_web : E_number ≠ E_web)
    (q_number_tournament : E_number ≠ E_tournament)
    (q_number_cTable : E_number ≠ E_cTable)
    (q_number_cWeb : E_number ≠ E_cWeb)
    (q_number_cTour : E_number ≠ E_cTour)
    (q_table_web : E_table ≠ E_web)
    (q_table_tournament : E_table ≠ E_tournament)
    (q_table_cTable : E_table ≠ E_cTable)
    (q_table_cWeb : E_table ≠ E_cWeb)
    (q_table_cTour : E_table ≠ E_cTour)
    (q_web_tournament : E_web ≠ E_tournament)
    (q_web_cTable : E_web ≠ E_cTable)
    (q_web_cWeb : E_web ≠ E_cWeb)
    (q_web_cTour : E_web ≠ E_cTour)
    (q_tournament_cTable : E_tournament ≠ E_cTable)
    (q_tournament_cWeb : E_tournament ≠ E_cWeb)
    (q_tournament_cTour : E_tournament ≠ E_cTour)
    (q_cTable_cWeb : E_cTable ≠ E_cWeb)
    (q_cTable_cTour : E_cTable ≠ E_cTour)
    (q_cWeb_cTour : E_cWeb ≠ E_cTour)
    (d_is_whole : DefF K mg "is_whole" Y.s_is_whole ["value"])
    (d_is_within : DefF K mg "is_within" Y.s_is_within ["value", "least", "most"])
    (d_check_within : DefF K mg "check_within" Y.s_check_within ["value", "least", "most"])
    (d_is_entry : DefF K mg "is_entry" Y.s_is_entry ["value"])
    (d_is_row : DefF K mg "is_row" Y.s_is_row ["value"])
    (d_check_row : DefF K mg "check_row" Y.s_check_row ["value"])
    (d_level : DefF K mg "level" Y.s_level ["row", "index", "cap"])
    (d_levels : DefF K mg "levels" Y.s_levels ["row", "many", "cap"])
    (d_greatest_row : DefF K mg "greatest_row" Y.s_greatest_row ["cap", "columns", "many"])
    (d__are_table : DefF K mg "_are_table" Y.s__are_table ["cap", "lines"])
    (d_Table___init__ : InitF K mg "Table" "Table.__init__" Y.s_Table___init__ E_cTable)
    (d_Table_of : ClmF K "of" "Table.of" Y.s_Table_of E_cTable)
    (d_filled_table : DefF K mg "filled_table" Y.s_filled_table ["cap", "columns", "many"])
    (d__law_urn : DefF K mg "_law_urn" Y.s__law_urn ["_law_script", "_law_at"])
    (d__law_met : DefF K mg "_law_met" Y.s__law_met ["_law_call"])
    (d_check_rows : DefF K mg "check_rows" Y.s_check_rows ["one", "other"])
    (d_descending : DefF K mg "descending" Y.s_descending ["row"])
    (d_sums_so_far : DefF K mg "sums_so_far" Y.s_sums_so_far ["entries"])
    (d_prefix_sums : DefF K mg "prefix_sums" Y.s_prefix_sums ["row"])
    (d_room : DefF K mg "room" Y.s_room ["cap", "many", "columns"])
    (d__fewest_barring : DefF K mg "_fewest_barring" Y.s__fewest_barring ["cap", "lines", "columns"])
    (d_has_table : DefF K mg "has_table" Y.s_has_table ["cap", "lines", "columns"])
    (d_places_by_entry : DefF K mg "places_by_entry" Y.s_places_by_entry ["row"])
    (d_have_equal_measures : DefF K mg "have_equal_measures" Y.s_have_equal_measures ["one", "other"])
    (d__first_bar : DefF K mg "_first_bar" Y.s__first_bar ["one", "other"])
    (d_is_under : DefF K mg "is_under" Y.s_is_under ["one", "other"])
    (d_is_arranged_alike : DefF K mg "is_arranged_alike" Y.s_is_arranged_alike ["one", "other"])
    (d__dealt : DefF K mg "_dealt" Y.s__dealt ["givers", "takers"])
    (d_road : DefF K mg "road" Y.s_road ["row", "lower"])
    (d__is_short_row : DefF K mg "_is_short_row" Y.s__is_short_row ["value", "most"])
    (d__are_lines_sums : DefF K mg "_are_lines_sums" Y.s__are_lines_sums ["lines", "columns"])
    (d_is_sums : DefF K mg "is_sums" Y.s_is_sums ["value"])
    (d_check_table_sums : DefF K mg "check_table_sums" Y.s_check_table_sums ["sums"])
    (d__with_units_carried : DefF K mg "_with_units_carried" Y.s__with_units_carried ["giver", "taker", "many"])
    (d_made_table : DefF K mg "made_table" Y.s_made_table ["sums"])
    (d_greatest_places : DefF K mg "greatest_places" Y.s_greatest_places ["row", "many"])
    (d_table_paper : DefF K mg "table_paper" Y.s_table_paper ["sums"])
    (d_Table_line_sums : PropF K "line_sums" "Table.line_sums" Y.s_Table_line_sums E_cTable)
    (d_Table_column_sums : PropF K "column_sums" "Table.column_sums" Y.s_Table_column_sums E_cTable)
    (d_Table_sums : PropF K "sums" "Table.sums" Y.s_Table_sums E_cTable)
    (d_Web_degrees : PropF K "degrees" "Web.degrees" Y.s_Web_degrees E_cWeb)
    (d_Web_sums : PropF K "sums" "Web.sums" Y.s_Web_sums E_cWeb)
    (d_Tournament_scores : PropF K "scores" "Tournament.scores" Y.s_Tournament_scores E_cTour)
    (d_Tournament_sums : PropF K "sums" "Tournament.sums" Y.s_Tournament_sums E_cTour)
    (d_is_any_thing : DefF K mg "is_any_thing" Y.s_is_any_thing ["value"])
    (d_is_thing : DefF K mg "is_thing" Y.s_is_thing ["sums", "value"])
    (d_is_ascending : DefF K mg "is_ascending" Y.s_is_ascending ["value", "many"])
    (d__is_barring : DefF K mg "_is_barring" Y.s__is_barring ["cap", "lines", "columns", "some"])
    (d_is_table_paper : DefF K mg "is_table_paper" Y.s_is_table_paper ["sums", "value"])
    (d__bound : DefF K mg "_bound" Y.s__bound ["cap", "lines", "columns", "some"])
    (d__bounds : DefF K mg "_bounds" Y.s__bounds ["cap", "lines", "columns"])
    (d_most_units : DefF K mg "most_units" Y.s_most_units ["sums"])
    (d__lessened : DefF K mg "_lessened" Y.s__lessened ["cap", "lines", "columns"])
    (d_nearest_sums : DefF K mg "nearest_sums" Y.s_nearest_sums ["sums"])
    (d_most_paper : DefF K mg "most_paper" Y.s_most_paper ["sums"])
    (d_Table_units : PropF K "units" "Table.units" Y.s_Table_units E_cTable)
    (d_Table_cap : PropF K "cap" "Table.cap" Y.s_Table_cap E_cTable)
    (d__is_placing : DefF K mg "_is_placing" Y.s__is_placing ["cap", "lines", "columns", "value"])
    (d_is_most_paper : DefF K mg "is_most_paper" Y.s_is_most_paper ["sums", "value"])
    (d_fewest_taken : DefF K mg "fewest_taken" Y.s_fewest_taken ["sums"])
    (d__law_ball : DefF K mg "_law_ball" Y.s__law_ball ["_law_urn_here", "_law_total"])
    (d__law_pick : DefF K mg "_law_pick" Y.s__law_pick ["_law_urn_here", "_law_items"])
    (d__law_wrong_sums : DefF K mg "_law_wrong_sums" Y.s__law_wrong_sums ["_law_urn_here"])
    (d__law_right : DefC K mg "_law_right" Y.s__law_right ["_law_urn_here"] c__law_right)
    (d_law : DefC K mg "law" Y.s_law ["_law_script"] c_law)
    (t__law_right : h.get? P__law_right = some tob)
    (n__law_right : K.lookup P__law_right = none)
    (o__law_right : PySem.W.codeHdIn K c__law_right P__law_right = true)
    (t_law : h.get? P_law = some tob)
    (n_law : K.lookup P_law = none)
    (o_law : PySem.W.codeHdIn K c_law P_law = true)
    (ne__law_right_law : P__law_right ≠ P_law) : Ends P w 14 63 "_law_script" mg fa h := by
  obtain ⟨fL, fdL, DL, gL, bL, uL⟩ := d_law.ex
  have e := hfa.symm.trans gL
  cases e
  let V : Ve := ⟨clsV E_sums E_operation E_number E_table E_web E_tournament E_cTable E_cWeb E_cTour, clsV_inj q_sums_operation q_sums_number q_sums_table q_sums_web q_sums_tournament q_sums_cTable q_sums_cWeb q_sums_cTour q_operation_number q_operation_table q_operation_web q_operation_tournament q_operation_cTable q_operation_cWeb q_operation_cTour q_number_table q_number_web q_number_tournament q_number_cTable q_number_cWeb q_number_cTour q_table_web q_table_tournament q_table_cTable q_table_cWeb q_table_cTour q_web_tournament q_web_cTable q_web_cWeb q_web_cTour q_tournament_cTable q_tournament_cWeb q_tournament_cTour q_cTable_cWeb q_cTable_cTour q_cWeb_cTour, [.sums, .operation, .number, .table, .web, .tournament], [(P__law_right, lamQ "_law_right"), (P_law, lamQ "law")], []⟩
  have g_ins : ∀ a ∈ V.insts, InsT K (V.cls a) := fun a ha => by
    exact (List.not_mem_nil ha).elim
  have g_kit : ∀ a ∈ V.insts, ∀ b ∈ V.insts, PySem.W.kitOne K (.ref (V.cls a)) (.ref (V.cls b)) = some (decide (a = b)) := fun a ha b hb => by
    exact (List.not_mem_nil ha).elim
  have g_ky : ∀ a ∈ V.insts, ∀ n ∈ tyNames, PySem.W.kitOne K (.type n) (.ref (V.cls a)) = some false := fun a ha n hn => by
    exact (List.not_mem_nil ha).elim
  have g_kb : ∀ a ∈ V.insts, ∀ n ∈ tyNames, PySem.W.kitOne K (.ref (V.cls a)) (.type n) = some false := fun a ha n hn => by
    exact (List.not_mem_nil ha).elim
  have gd : Good V K := ⟨g_ins, g_kit, g_ky, g_kb, fun a b ha hb => by
    simp only [V, List.mem_cons, List.not_mem_nil, or_false] at ha hb
    rcases ha with rfl | rfl | rfl | rfl | rfl | rfl <;> rcases hb with rfl | rfl | rfl | rfl | rfl | rfl
    · exact e_sums_sums
    · exact e_sums_operation
    · exact e_sums_number
    · exact e_sums_table
    · exact e_sums_web
    · exact e_sums_tournament
    · exact e_operation_sums
    · exact e_operation_operation
    · exact e_operation_number
    · exact e_operation_table
    · exact e_operation_web
    · exact e_operation_tournament
    · exact e_number_sums
    · exact e_number_operation
    · exact e_number_number
    · exact e_number_table
    · exact e_number_web
    · exact e_number_tournament
    · exact e_table_sums
    · exact e_table_operation
    · exact e_table_number
    · exact e_table_table
    · exact e_table_web
    · exact e_table_tournament
    · exact e_web_sums
    · exact e_web_operation
    · exact e_web_number
    · exact e_web_table
    · exact e_web_web
    · exact e_web_tournament
    · exact e_tournament_sums
    · exact e_tournament_operation
    · exact e_tournament_number
    · exact e_tournament_table
    · exact e_tournament_web
    · exact e_tournament_tournament⟩
  have T : Y.Txt K mg V := ⟨b_abs, b_all, b_bool, b_enumerate, b_int, b_isinstance, b_len, b_list, b_max, b_min, b_range, b_repr, b_sorted, b_sum, b_tuple, b_zip, k_MAX_CAP, k_MAX_LENGTH, k_MAX_LINES, k_MAX_PLACES, x_InvalidNumber, x_InvalidOperation, x_InvalidSums, x_InvalidTable, x_InvalidTournament, x_InvalidWeb, c_Table, c_Tournament, c_Web, cl_Table, cl_Tournament, cl_Web, na_Table__cap, na_Table__lines, na_Tournament__beaten, na_Web__places, na_Web__ties⟩
  have hn_cl__law_met : ∀ c ∈ cl__law_met, c.1 ∈ V.names := show ∀ c ∈ cl__law_met, c.1 ∈ ([.sums, .operation, .number, .table, .web, .tournament] : List XN) from by decide
  have two : ∀ {Q : Addr × Addr → Prop}, Q (c__law_right, P__law_right) → Q (c_law, P_law) → ∀ p ∈ [(c__law_right, P__law_right), (c_law, P_law)], Q p := fun a0 a1 p hp => by
    simp only [List.mem_cons, List.not_mem_nil, or_false] at hp
    rcases hp with rfl | rfl
    · exact a0
    · exact a1
  refine ⟨K, fdL, [(c__law_right, P__law_right), (c_law, P_law)], spF K (F_law_104_nk24 V hn_cl__law_met).F, X, two t__law_right t_law, two n__law_right n_law, two o__law_right o_law, fun s u => .of_eq (uL [u] rfl), fun H a ns hl _ ht hs => ?_, fun base kb gb tb => ?_⟩
  · refine law_pre (T := V.T0) (fun p hp => ?_) hs (Sp.law_24 hn_cl__law_met (cx0_tb V.T0) rfl)
    simp only [V, List.mem_cons, List.not_mem_nil, or_false] at hp
    rcases hp with rfl | rfl
    · exact ht (c__law_right, P__law_right) (by simp)
    · exact ht (c_law, P_law) (by simp)
  have TB__law_right := tb (c__law_right, P__law_right) (by simp)
  have TB_law := tb (c_law, P_law) (by simp)
  have U__law_right : ∀ p ∈ V.T0, p.1 = P__law_right → p.2 = lamQ "_law_right" := fun p hp e => by
    simp only [V, List.mem_cons, List.not_mem_nil, or_false] at hp
    rcases hp with rfl | rfl
    · rfl
    · exact absurd e.symm ne__law_right_law
  have U_law : ∀ p ∈ V.T0, p.1 = P_law → p.2 = lamQ "law" := fun p hp e => by
    simp only [V, List.mem_cons, List.not_mem_nil, or_false] at hp
    rcases hp with rfl | rfl
    · exact absurd e ne__law_right_law
    · rfl
  have g__law_met : Giv K mg "_law_met" Y.s__law_met "_law_call" := ⟨d__law_met.ex⟩
  obtain ⟨a_is_whole, fd_is_whole, D_is_whole, g__is_whole, z_is_whole⟩ := d_is_whole.ex
  have v_is_whole := Y.cf_is_whole (P := P) (w := w) (base := base) T gd D_is_whole g__is_whole z_is_whole
  obtain ⟨a_is_within, fd_is_within, D_is_within, g__is_within, z_is_within⟩ := d_is_within.ex
  have v_is_within := Y.cf_is_within (P := P) (w := w) (base := base) T gd v_is_whole D_is_within g__is_within z_is_within
  obtain ⟨a_check_within, fd_check_within, D_check_within, g__check_within, z_check_within⟩ := d_check_within.ex
  have v_check_within := Y.cf_check_within (P := P) (w := w) (base := base) T gd v_is_within D_check_within g__check_within z_check_within
  obtain ⟨a_is_entry, fd_is_entry, D_is_entry, g__is_entry, z_is_entry⟩ := d_is_entry.ex
  have v_is_entry := Y.cf_is_entry (P := P) (w := w) (base := base) T gd v_is_whole D_is_entry g__is_entry z_is_entry
  obtain ⟨a_is_row, fd_is_row, D_is_row, g__is_row, z_is_row⟩ := d_is_row.ex
  have v_is_row := Y.cf_is_row (P := P) (w := w) (base := base) T gd v_is_entry D_is_row g__is_row z_is_row
  obtain ⟨a_check_row, fd_check_row, D_check_row, g__check_row, z_check_row⟩ := d_check_row.ex
  have v_check_row := Y.cf_check_row (P := P) (w := w) (base := base) T gd v_is_row D_check_row g__check_row z_check_row
  obtain ⟨a_level, fd_level, D_level, g__level, z_level⟩ := d_level.ex
  have v_level := Y.cf_level (P := P) (w := w) (base := base) T gd D_level g__level z_level
  obtain ⟨a_levels, fd_levels, D_levels, g__levels, z_levels⟩ := d_levels.ex
  have v_levels := Y.cf_levels (P := P) (w := w) (base := base) T gd v_level D_levels g__levels z_levels
  obtain ⟨a_greatest_row, fd_greatest_row, D_greatest_row, g__greatest_row, z_greatest_row⟩ := d_greatest_row.ex
  have v_greatest_row := Y.cf_greatest_row (P := P) (w := w) (base := base) T gd v_check_within v_check_row v_levels D_greatest_row g__greatest_row z_greatest_row
  obtain ⟨a__are_table, fd__are_table, D__are_table, g___are_table, z__are_table⟩ := d__are_table.ex
  have v__are_table := Y.cf__are_table (P := P) (w := w) (base := base) T gd v_is_within D__are_table g___are_table z__are_table
  have v_Table___init__ := Y.cf_Table___init__ (P := P) (w := w) (base := base) T gd v__are_table d_Table___init__
  have v_Table_of := Y.cf_Table_of (P := P) (w := w) (base := base) T gd v_Table___init__ d_Table_of
  obtain ⟨a_filled_table, fd_filled_table, D_filled_table, g__filled_table, z_filled_table⟩ := d_filled_table.ex
  have v_filled_table := Y.cf_filled_table (P := P) (w := w) (base := base) T gd v_check_within v_check_row v_Table_of v_level D_filled_table g__filled_table z_filled_table
  obtain ⟨a__law_urn, fd__law_urn, D__law_urn, g___law_urn, z__law_urn⟩ := d__law_urn.ex
  have v__law_urn := Y.cf__law_urn (P := P) (w := w) (base := base) T D__law_urn g___law_urn z__law_urn
  obtain ⟨a_check_rows, fd_check_rows, D_check_rows, g__check_rows, z_check_rows⟩ := d_check_rows.ex
  have v_check_rows := Y.cf_check_rows (P := P) (w := w) (base := base) T gd v_check_row D_check_rows g__check_rows z_check_rows
  obtain ⟨a_descending, fd_descending, D_descending, g__descending, z_descending⟩ := d_descending.ex
  have v_descending := Y.cf_descending (P := P) (w := w) (base := base) T gd D_descending g__descending z_descending
  obtain ⟨a_sums_so_far, fd_sums_so_far, D_sums_so_far, g__sums_so_far, z_sums_so_far⟩ := d_sums_so_far.ex
  have v_sums_so_far := Y.cf_sums_so_far (P := P) (w := w) (base := base) T gd D_sums_so_far g__sums_so_far z_sums_so_far
  obtain ⟨a_prefix_sums, fd_prefix_sums, D_prefix_sums, g__prefix_sums, z_prefix_sums⟩ := d_prefix_sums.ex
  have v_prefix_sums := Y.cf_prefix_sums (P := P) (w := w) (base := base) T gd v_check_row v_descending v_sums_so_far D_prefix_sums g__prefix_sums z_prefix_sums
  obtain ⟨a_room, fd_room, D_room, g__room, z_room⟩ := d_room.ex
  have v_room := Y.cf_room (P := P) (w := w) (base := base) T gd D_room g__room z_room
  obtain ⟨a__fewest_barring, fd__fewest_barring, D__fewest_barring, g___fewest_barring, z__fewest_barring⟩ := d__fewest_barring.ex
  have v__fewest_barring := Y.cf__fewest_barring (P := P) (w := w) (base := base) T gd v_prefix_sums v_room D__fewest_barring g___fewest_barring z__fewest_barring
  obtain ⟨a_has_table, fd_has_table, D_has_table, g__has_table, z_has_table⟩ := d_has_table.ex
  have v_has_table := Y.cf_has_table (P := P) (w := w) (base := base) T gd v_check_within v_check_rows v__fewest_barring D_has_table g__has_table z_has_table
  obtain ⟨a_places_by_entry, fd_places_by_entry, D_places_by_entry, g__places_by_entry, z_places_by_entry⟩ := d_places_by_entry.ex
  have v_places_by_entry := Y.cf_places_by_entry (P := P) (w := w) (base := base) T gd D_places_by_entry g__places_by_entry z_places_by_entry
  obtain ⟨a_have_equal_measures, fd_have_equal_measures, D_have_equal_measures, g__have_equal_measures, z_have_equal_measures⟩ := d_have_equal_measures.ex
  have v_have_equal_measures := Y.cf_have_equal_measures (P := P) (w := w) (base := base) T gd D_have_equal_measures g__have_equal_measures z_have_equal_measures
  obtain ⟨a__first_bar, fd__first_bar, D__first_bar, g___first_bar, z__first_bar⟩ := d__first_bar.ex
  have v__first_bar := Y.cf__first_bar (P := P) (w := w) (base := base) T gd v_prefix_sums D__first_bar g___first_bar z__first_bar
  obtain ⟨a_is_under, fd_is_under, D_is_under, g__is_under, z_is_under⟩ := d_is_under.ex
  have v_is_under := Y.cf_is_under (P := P) (w := w) (base := base) T gd v_check_rows v_have_equal_measures v__first_bar D_is_under g__is_under z_is_under
  obtain ⟨a_is_arranged_alike, fd_is_arranged_alike, D_is_arranged_alike, g__is_arranged_alike, z_is_arranged_alike⟩ := d_is_arranged_alike.ex
  have v_is_arranged_alike := Y.cf_is_arranged_alike (P := P) (w := w) (base := base) T gd v_check_rows D_is_arranged_alike g__is_arranged_alike z_is_arranged_alike
  obtain ⟨a__dealt, fd__dealt, D__dealt, g___dealt, z__dealt⟩ := d__dealt.ex
  have v__dealt := Y.cf__dealt (P := P) (w := w) (base := base) T gd D__dealt g___dealt z__dealt
  obtain ⟨a_road, fd_road, D_road, g__road, z_road⟩ := d_road.ex
  have v_road := Y.cf_road (P := P) (w := w) (base := base) T gd v_check_rows v_places_by_entry v_is_under v_is_arranged_alike v__dealt D_road g__road z_road
  obtain ⟨a__is_short_row, fd__is_short_row, D__is_short_row, g___is_short_row, z__is_short_row⟩ := d__is_short_row.ex
  have v__is_short_row := Y.cf__is_short_row (P := P) (w := w) (base := base) T gd v_is_row D__is_short_row g___is_short_row z__is_short_row
  obtain ⟨a__are_lines_sums, fd__are_lines_sums, D__are_lines_sums, g___are_lines_sums, z__are_lines_sums⟩ := d__are_lines_sums.ex
  have v__are_lines_sums := Y.cf__are_lines_sums (P := P) (w := w) (base := base) T gd v__is_short_row D__are_lines_sums g___are_lines_sums z__are_lines_sums
  obtain ⟨a_is_sums, fd_is_sums, D_is_sums, g__is_sums, z_is_sums⟩ := d_is_sums.ex
  have v_is_sums := Y.cf_is_sums (P := P) (w := w) (base := base) T gd v_is_within v__is_short_row v__are_lines_sums D_is_sums g__is_sums z_is_sums
  obtain ⟨a_check_table_sums, fd_check_table_sums, D_check_table_sums, g__check_table_sums, z_check_table_sums⟩ := d_check_table_sums.ex
  have v_check_table_sums := Y.cf_check_table_sums (P := P) (w := w) (base := base) T gd v_is_sums D_check_table_sums g__check_table_sums z_check_table_sums
  obtain ⟨a__with_units_carried, fd__with_units_carried, D__with_units_carried, g___with_units_carried, z__with_units_carried⟩ := d__with_units_carried.ex
  have v__with_units_carried := Y.cf__with_units_carried (P := P) (w := w) (base := base) T gd D__with_units_carried g___with_units_carried z__with_units_carried
  obtain ⟨a_made_table, fd_made_table, D_made_table, g__made_table, z_made_table⟩ := d_made_table.ex
  have v_made_table := Y.cf_made_table (P := P) (w := w) (base := base) T gd v_places_by_entry v_Table_of v_road v_level v_check_table_sums v_has_table v__with_units_carried D_made_table g__made_table z_made_table
  obtain ⟨a_greatest_places, fd_greatest_places, D_greatest_places, g__greatest_places, z_greatest_places⟩ := d_greatest_places.ex
  have v_greatest_places := Y.cf_greatest_places (P := P) (w := w) (base := base) T gd v_places_by_entry D_greatest_places g__greatest_places z_greatest_places
  obtain ⟨a_table_paper, fd_table_paper, D_table_paper, g__table_paper, z_table_paper⟩ := d_table_paper.ex
  have v_table_paper := Y.cf_table_paper (P := P) (w := w) (base := base) T gd v_greatest_places v_check_table_sums v_made_table v__fewest_barring D_table_paper g__table_paper z_table_paper
  have v_Table_line_sums := Y.cf_Table_line_sums (P := P) (w := w) (base := base) T gd d_Table_line_sums
  have v_Table_column_sums := Y.cf_Table_column_sums (P := P) (w := w) (base := base) T gd d_Table_column_sums
  have v_Table_sums := Y.cf_Table_sums (P := P) (w := w) (base := base) T gd v_Table_line_sums v_Table_column_sums d_Table_sums
  have v_Web_degrees := Y.cf_Web_degrees (P := P) (w := w) (base := base) T gd d_Web_degrees
  have v_Web_sums := Y.cf_Web_sums (P := P) (w := w) (base := base) T gd v_Web_degrees d_Web_sums
  have v_Tournament_scores := Y.cf_Tournament_scores (P := P) (w := w) (base := base) T gd d_Tournament_scores
  have v_Tournament_sums := Y.cf_Tournament_sums (P := P) (w := w) (base := base) T gd v_Tournament_scores d_Tournament_sums
  obtain ⟨a_is_any_thing, fd_is_any_thing, D_is_any_thing, g__is_any_thing, z_is_any_thing⟩ := d_is_any_thing.ex
  have v_is_any_thing := Y.cf_is_any_thing (P := P) (w := w) (base := base) T gd D_is_any_thing g__is_any_thing z_is_any_thing
  obtain ⟨a_is_thing, fd_is_thing, D_is_thing, g__is_thing, z_is_thing⟩ := d_is_thing.ex
  have v_is_thing := Y.cf_is_thing (P := P) (w := w) (base := base) T gd v_Table_sums v_Web_sums v_Tournament_sums v_is_any_thing v_is_sums D_is_thing g__is_thing z_is_thing
  obtain ⟨a_is_ascending, fd_is_ascending, D_is_ascending, g__is_ascending, z_is_ascending⟩ := d_is_ascending.ex
  have v_is_ascending := Y.cf_is_ascending (P := P) (w := w) (base := base) T gd v_is_within D_is_ascending g__is_ascending z_is_ascending
  obtain ⟨a__is_barring, fd__is_barring, D__is_barring, g___is_barring, z__is_barring⟩ := d__is_barring.ex
  have v__is_barring := Y.cf__is_barring (P := P) (w := w) (base := base) T gd v_is_ascending v_room D__is_barring g___is_barring z__is_barring
  obtain ⟨a_is_table_paper, fd_is_table_paper, D_is_table_paper, g__is_table_paper, z_is_table_paper⟩ := d_is_table_paper.ex
  have v_is_table_paper := Y.cf_is_table_paper (P := P) (w := w) (base := base) T gd v_is_thing v_check_table_sums v__is_barring D_is_table_paper g__is_table_paper z_is_table_paper
  obtain ⟨a__bound, fd__bound, D__bound, g___bound, z__bound⟩ := d__bound.ex
  have v__bound := Y.cf__bound (P := P) (w := w) (base := base) T gd v_room D__bound g___bound z__bound
  obtain ⟨a__bounds, fd__bounds, D__bounds, g___bounds, z__bounds⟩ := d__bounds.ex
  have v__bounds := Y.cf__bounds (P := P) (w := w) (base := base) T gd v_greatest_places v__bound D__bounds g___bounds z__bounds
  obtain ⟨a_most_units, fd_most_units, D_most_units, g__most_units, z_most_units⟩ := d_most_units.ex
  have v_most_units := Y.cf_most_units (P := P) (w := w) (base := base) T gd v_check_table_sums v__bounds D_most_units g__most_units z_most_units
  obtain ⟨a__lessened, fd__lessened, D__lessened, g___lessened, z__lessened⟩ := d__lessened.ex
  have v__lessened := Y.cf__lessened (P := P) (w := w) (base := base) T gd v__bounds D__lessened g___lessened z__lessened
  obtain ⟨a_nearest_sums, fd_nearest_sums, D_nearest_sums, g__nearest_sums, z_nearest_sums⟩ := d_nearest_sums.ex
  have v_nearest_sums := Y.cf_nearest_sums (P := P) (w := w) (base := base) T gd v_check_table_sums v__lessened D_nearest_sums g__nearest_sums z_nearest_sums
  obtain ⟨a_most_paper, fd_most_paper, D_most_paper, g__most_paper, z_most_paper⟩ := d_most_paper.ex
  have v_most_paper := Y.cf_most_paper (P := P) (w := w) (base := base) T gd v_greatest_places v_check_table_sums v_made_table v_nearest_sums v__bounds D_most_paper g__most_paper z_most_paper
  have v_Table_units := Y.cf_Table_units (P := P) (w := w) (base := base) T gd d_Table_units
  have v_Table_cap := Y.cf_Table_cap (P := P) (w := w) (base := base) T gd d_Table_cap
  obtain ⟨a__is_placing, fd__is_placing, D__is_placing, g___is_placing, z__is_placing⟩ := d__is_placing.ex
  have v__is_placing := Y.cf__is_placing (P := P) (w := w) (base := base) T gd v_Table_cap v_Table_line_sums v_Table_column_sums D__is_placing g___is_placing z__is_placing
  obtain ⟨a_is_most_paper, fd_is_most_paper, D_is_most_paper, g__is_most_paper, z_is_most_paper⟩ := d_is_most_paper.ex
  have v_is_most_paper := Y.cf_is_most_paper (P := P) (w := w) (base := base) T gd v_is_ascending v_Table_units v_check_table_sums v__bound v__is_placing D_is_most_paper g__is_most_paper z_is_most_paper
  obtain ⟨a_fewest_taken, fd_fewest_taken, D_fewest_taken, g__fewest_taken, z_fewest_taken⟩ := d_fewest_taken.ex
  have v_fewest_taken := Y.cf_fewest_taken (P := P) (w := w) (base := base) T gd v_most_units D_fewest_taken g__fewest_taken z_fewest_taken
  obtain ⟨a__law_ball, fd__law_ball, D__law_ball, g___law_ball, z__law_ball⟩ := d__law_ball.ex
  have v__law_ball := Y.cf__law_ball (P := P) (w := w) (base := base) T D__law_ball g___law_ball z__law_ball
  obtain ⟨a__law_pick, fd__law_pick, D__law_pick, g___law_pick, z__law_pick⟩ := d__law_pick.ex
  have v__law_pick := Y.cf__law_pick (P := P) (w := w) (base := base) T gd v__law_ball D__law_pick g___law_pick z__law_pick
  obtain ⟨a__law_wrong_sums, fd__law_wrong_sums, D__law_wrong_sums, g___law_wrong_sums, z__law_wrong_sums⟩ := d__law_wrong_sums.ex
  have v__law_wrong_sums := Y.cf__law_wrong_sums (P := P) (w := w) (base := base) T gd v__law_pick D__law_wrong_sums g___law_wrong_sums z__law_wrong_sums
  obtain ⟨a__law_right, fd__law_right, D__law_right, g___law_right, z__law_right, _⟩ := d__law_right.ex
  have v__law_right := Y.cf__law_right (P := P) (w := w) (base := base) T gd hn_cl__law_met TB__law_right (by simp [V]) U__law_right g__law_met v_Table___init__ v_greatest_row v_filled_table v_has_table v_made_table v_table_paper v_is_table_paper v_most_units v_most_paper v_is_most_paper v_fewest_taken v_nearest_sums v__law_pick v__law_wrong_sums D__law_right g___law_right z__law_right
  exact Y.cf_law T gd hn_cl__law_met TB_law (by simp [V]) U_law g__law_met v_greatest_row v_filled_table v__law_urn v__law_right DL
end W30
set_option maxHeartbeats 0
open PySem PySem.W PyProof.Rows
theorem PySem.Challenge.cw_sumsalone_k24_errors_of_tables_by_sums_holds : PySem.Challenge.rw_sumsalone_k24_errors_of_tables_by_sums.Holds := by
  w_on; o_law; k_head; (case hw => w_witness2)
  k_fill
  refine SQ.walk_end (l := PySem.Challenge.rw_sumsalone_k24_errors_of_tables_by_sums) (n := 63) (k := 14) (x := "_law_script") rfl (by decide) rfl ⟨rfl, by decide, by decide⟩ ?F
  case F =>
    intro w mg fa h Y G hmg
    have KX := km_in_of Y
    have TT := km_tabs_of Y
    refine' W30.all_mk KX hmg ?b_abs ?b_all ?b_bool ?b_enumerate ?b_int ?b_isinstance ?b_len ?b_list ?b_max ?b_min ?b_range ?b_repr ?b_sorted ?b_sum ?b_tuple ?b_zip ?k_MAX_CAP ?k_MAX_LENGTH ?k_MAX_LINES ?k_MAX_PLACES ?x_InvalidNumber ?x_InvalidOperation ?x_InvalidSums ?x_InvalidTable ?x_InvalidTournament ?x_InvalidWeb ?c_Table ?c_Tournament ?c_Web ?cl_Table ?cl_Tournament ?cl_Web ?na_Table__cap ?na_Table__lines ?na_Tournament__beaten ?na_Web__places ?na_Web__ties ?e_sums_sums ?e_sums_operation ?e_sums_number ?e_sums_table ?e_sums_web ?e_sums_tournament ?e_operation_sums ?e_operation_operation ?e_operation_number ?e_operation_table ?e_operation_web ?e_operation_tournament ?e_number_sums ?e_number_operation ?e_number_number ?e_number_table ?e_number_web ?e_number_tournament ?e_table_sums ?e_table_operation ?e_table_number ?e_table_table ?e_table_web ?e_table_tournament ?e_web_sums ?e_web_operation ?e_web_number ?e_web_table ?e_web_web ?e_web_tournament ?e_tournament_sums ?e_tournament_operation ?e_tournament_number ?e_tournament_table ?e_tournament_web ?e_tournament_tournament ?q_sums_operation ?q_sums_number ?q_sums_table ?q_sums_web ?q_sums_tournament ?q_sums_cTable ?q_sums_cWeb ?q_sums_cTour ?q_operation_number ?q_operation_table ?q_operation_web ?q_operation_tournament ?q_operation_cTable ?q_operation_cWeb ?q_operation_cTour ?q_number_table ?q_number_web ?q_number_tournament ?q_number_cTable ?q_number_cWeb ?q_number_cTour ?q_table_web ?q_table_tournament ?q_table_cTable ?q_table_cWeb ?q_table_cTour ?q_web_tournament ?q_web_cTable ?q_web_cWeb ?q_web_cTour ?q_tournament_cTable ?q_tournament_cWeb ?q_tournament_cTour ?q_cTable_cWeb ?q_cTable_cTour ?q_cWeb_cTour ?d_is_whole ?d_is_within ?d_check_within ?d_is_entry ?d_is_row ?d_check_row ?d_level ?d_levels ?d_greatest_row ?d__are_table ?d_Table___init__ ?d_Table_of ?d_filled_table ?d__law_urn ?d__law_met ?d_check_rows ?d_descending ?d_sums_so_far ?d_prefix_sums ?d_room ?d__fewest_barring ?d_has_table ?d_places_by_entry ?d_have_equal_measures ?d__first_bar ?d_is_under ?d_is_arranged_alike ?d__dealt ?d_road ?d__is_short_row ?d__are_lines_sums ?d_is_sums ?d_check_table_sums ?d__with_units_carried ?d_made_table ?d_greatest_places ?d_table_paper ?d_Table_line_sums ?d_Table_column_sums ?d_Table_sums ?d_Web_degrees ?d_Web_sums ?d_Tournament_scores ?d_Tournament_sums ?d_is_any_thing ?d_is_thing ?d_is_ascending ?d__is_barring ?d_is_table_paper ?d__bound ?d__bounds ?d_most_units ?d__lessened ?d_nearest_sums ?d_most_paper ?d_Table_units ?d_Table_cap ?d__is_placing ?d_is_most_paper ?d_fewest_taken ?d__law_ball ?d__law_pick ?d__law_wrong_sums ?d__law_right ?d_law ?t__law_right ?n__law_right ?o__law_right ?t_law ?n_law ?o_law ?ne__law_right_law
    (case b_abs => exact mg_none_of KX G (by k_is))
    (case b_all => exact mg_none_of KX G (by k_is))
    (case b_bool => exact mg_none_of KX G (by k_is))
    (case b_enumerate => exact mg_none_of KX G (by k_is))
    (case b_int => exact mg_none_of KX G (by k_is))
    (case b_isinstance => exact mg_none_of KX G (by k_is))
    (case b_len => exact mg_none_of KX G (by k_is))
    (case b_list => exact mg_none_of KX G (by k_is))
    (case b_max => exact mg_none_of KX G (by k_is))
    (case b_min => exact mg_none_of KX G (by k_is))
    (case b_range => exact mg_none_of KX G (by k_is))
    (case b_repr => exact mg_none_of KX G (by k_is))
    (case b_sorted => exact mg_none_of KX G (by k_is))
    (case b_sum => exact mg_none_of KX G (by k_is))
    (case b_tuple => exact mg_none_of KX G (by k_is))
    (case b_zip => exact mg_none_of KX G (by k_is))
    (case k_MAX_CAP => refine' ⟨_, mg_of KX G ?e, ?r⟩; (case e => k_is); (case r => exact ⟨_, rfl⟩))
    (case k_MAX_LENGTH => refine' ⟨_, mg_of KX G ?e, ?r⟩; (case e => k_is); (case r => exact ⟨_, rfl⟩))
    (case k_MAX_LINES => refine' ⟨_, mg_of KX G ?e, ?r⟩; (case e => k_is); (case r => exact ⟨_, rfl⟩))
    (case k_MAX_PLACES => refine' ⟨_, mg_of KX G ?e, ?r⟩; (case e => k_is); (case r => exact ⟨_, rfl⟩))
    (case x_InvalidNumber => refine' SQ.ownX KX G F.excBase_IndexError F.store_IndexError SQ.Ow.nm_value ?a ?iC ?l ?cd ?ini ?ovr ?tak ?sa ?ga ?gg ?noN ?tC ?kC ?exC ?tyC ?hdC; (case a => k_is); (case iC => k_is); (case l => k_is); (case cd => k_is); (case ini => kx_is); (case ovr => kx_is); (case tak => k_is); (case sa => k_is); (case ga => k_is); (case gg => k_is); (case noN => k_is); (case tC => k_is); (case kC => k_is); (case exC => k_is); (case tyC => k_is); (case hdC => k_is))
    (case x_InvalidOperation => refine' SQ.own0 KX G F.excBase_ValueError ?a ?e ?k ?h1 ?h2; (case a => k_is); (case e => k_exc); (case k => k_is); (case h1 => k_is); (case h2 => k_is))
    (case x_InvalidSums => refine' SQ.own0 KX G F.excBase_ValueError ?a ?e ?k ?h1 ?h2; (case a => k_is); (case e => k_exc); (case k => k_is); (case h1 => k_is); (case h2 => k_is))
    (case x_InvalidTable => refine' SQ.own0 KX G F.excBase_ValueError ?a ?e ?k ?h1 ?h2; (case a => k_is); (case e => k_exc); (case k => k_is); (case h1 => k_is); (case h2 => k_is))
    (case x_InvalidTournament => refine' SQ.own0 KX G F.excBase_ValueError ?a ?e ?k ?h1 ?h2; (case a => k_is); (case e => k_exc); (case k => k_is); (case h1 => k_is); (case h2 => k_is))
    (case x_InvalidWeb => refine' SQ.own0 KX G F.excBase_ValueError ?a ?e ?k ?h1 ?h2; (case a => k_is); (case e => k_exc); (case k => k_is); (case h1 => k_is); (case h2 => k_is))
    (case c_Table => exact mg_of KX G (by k_is))
    (case c_Tournament => exact mg_of KX G (by k_is))
    (case c_Web => exact mg_of KX G (by k_is))
    (case cl_Table => refine' ⟨?pg, ?hd, ?po, ?sa⟩; (case pg => k_is); (case hd => k_is); (case po => k_is); (case sa => k_is))
    (case cl_Tournament => refine' ⟨?pg, ?hd, ?po, ?sa⟩; (case pg => k_is); (case hd => k_is); (case po => k_is); (case sa => k_is))
    (case cl_Web => refine' ⟨?pg, ?hd, ?po, ?sa⟩; (case pg => k_is); (case hd => k_is); (case po => k_is); (case sa => k_is))
    (case na_Table__cap => show PySem.W.findIn _ _ _ = some none; k_is)
    (case na_Table__lines => show PySem.W.findIn _ _ _ = some none; k_is)
    (case na_Tournament__beaten => show PySem.W.findIn _ _ _ = some none; k_is)
    (case na_Web__places => show PySem.W.findIn _ _ _ = some none; k_is)
    (case na_Web__ties => show PySem.W.findIn _ _ _ = some none; k_is)
    (case e_sums_sums => kts_exm)
    (case e_sums_operation => kts_exm)
    (case e_sums_number => kts_exm)
    (case e_sums_table => kts_exm)
    (case e_sums_web => kts_exm)
    (case e_sums_tournament => kts_exm)
    (case e_operation_sums => kts_exm)
    (case e_operation_operation => kts_exm)
    (case e_operation_number => kts_exm)
    (case e_operation_table => kts_exm)
    (case e_operation_web => kts_exm)
    (case e_operation_tournament => kts_exm)
    (case e_number_sums => kts_exm)
    (case e_number_operation => kts_exm)
    (case e_number_number => kts_exm)
    (case e_number_table => kts_exm)
    (case e_number_web => kts_exm)
    (case e_number_tournament => kts_exm)
    (case e_table_sums => kts_exm)
    (case e_table_operation => kts_exm)
    (case e_table_number => kts_exm)
    (case e_table_table => kts_exm)
    (case e_table_web => kts_exm)
    (case e_table_tournament => kts_exm)
    (case e_web_sums => kts_exm)
    (case e_web_operation => kts_exm)
    (case e_web_number => kts_exm)
    (case e_web_table => kts_exm)
    (case e_web_web => kts_exm)
    (case e_web_tournament => kts_exm)
    (case e_tournament_sums => kts_exm)
    (case e_tournament_operation => kts_exm)
    (case e_tournament_number => kts_exm)
    (case e_tournament_table => kts_exm)
    (case e_tournament_web => kts_exm)
    (case e_tournament_tournament => kts_exm)
    (case q_sums_operation => decide)
    (case q_sums_number => decide)
    (case q_sums_table => decide)
    (case q_sums_web => decide)
    (case q_sums_tournament => decide)
    (case q_sums_cTable => decide)
    (case q_sums_cWeb => decide)
    (case q_sums_cTour => decide)
    (case q_operation_number => decide)
    (case q_operation_table => decide)
    (case q_operation_web => decide)
    (case q_operation_tournament => decide)
    (case q_operation_cTable => decide)
    (case q_operation_cWeb => decide)
    (case q_operation_cTour => decide)
    (case q_number_table => decide)
    (case q_number_web => decide)
    (case q_number_tournament => decide)
    (case q_number_cTable => decide)
    (case q_number_cWeb => decide)
    (case q_number_cTour => decide)
    (case q_table_web => decide)
    (case q_table_tournament => decide)
    (case q_table_cTable => decide)
    (case q_table_cWeb => decide)
    (case q_table_cTour => decide)
    (case q_web_tournament => decide)
    (case q_web_cTable => decide)
    (case q_web_cWeb => decide)
    (case q_web_cTour => decide)
    (case q_tournament_cTable => decide)
    (case q_tournament_cWeb => decide)
    (case q_tournament_cTour => decide)
    (case q_cTable_cWeb => decide)
    (case q_cTable_cTour => decide)
    (case q_cWeb_cTour => decide)
    (case d_is_whole => refine' SQ.defF KX G ?a ?l ?c ?k (fun _ _ _ _ _ _ us hl => match us, hl with | [_], _ => rfl); (case a => k_is); (case l => k_is); (case c => k_is); (case k => k_is))
    (case d_is_within => refine' SQ.defF KX G ?a ?l ?c ?k (fun _ _ _ _ _ _ us hl => match us, hl with | [_, _, _], _ => rfl); (case a => k_is); (case l => k_is); (case c => k_is); (case k => k_is))
    (case d_check_within => refine' SQ.defF KX G ?a ?l ?c ?k (fun _ _ _ _ _ _ us hl => match us, hl with | [_, _, _], _ => rfl); (case a => k_is); (case l => k_is); (case c => k_is); (case k => k_is))
    (case d_is_entry => refine' SQ.defF KX G ?a ?l ?c ?k (fun _ _ _ _ _ _ us hl => match us, hl with | [_], _ => rfl); (case a => k_is); (case l => k_is); (case c => k_is); (case k => k_is))
    (case d_is_row => refine' SQ.defF KX G ?a ?l ?c ?k (fun _ _ _ _ _ _ us hl => match us, hl with | [_], _ => rfl); (case a => k_is); (case l => k_is); (case c => k_is); (case k => k_is))
    (case d_check_row => refine' SQ.defF KX G ?a ?l ?c ?k (fun _ _ _ _ _ _ us hl => match us, hl with | [_], _ => rfl); (case a => k_is); (case l => k_is); (case c => k_is); (case k => k_is))
    (case d_level => refine' SQ.defF KX G ?a ?l ?c ?k (fun _ _ _ _ _ _ us hl => match us, hl with | [_, _, _], _ => rfl); (case a => k_is); (case l => k_is); (case c => k_is); (case k => k_is))
    (case d_levels => refine' SQ.defF KX G ?a ?l ?c ?k (fun _ _ _ _ _ _ us hl => match us, hl with | [_, _, _], _ => rfl); (case a => k_is); (case l => k_is); (case c => k_is); (case k => k_is))
    (case d_greatest_row => refine' SQ.defF KX G ?a ?l ?c ?k (fun _ _ _ _ _ _ us hl => match us, hl with | [_, _, _], _ => rfl); (case a => k_is); (case l => k_is); (case c => k_is); (case k => k_is))
    (case d__are_table => refine' SQ.defF KX G ?a ?l ?c ?k (fun _ _ _ _ _ _ us hl => match us, hl with | [_, _], _ => rfl); (case a => k_is); (case l => k_is); (case c => k_is); (case k => k_is))
    (case d_Table___init__ => refine' SQ.initF KX G ?aC ?a ?i ?l ?cd ?kp ?mk ?kc; (case aC => k_is); (case a => k_is); (case i => k_is); (case l => k_is); (case cd => k_is); (case kp => k_is); (case mk => k_is); (case kc => k_is))
    (case d_Table_of => refine' SQ.clmF (mc := .type "type") ?rd ?ga ?ac ?rc ?fi ?l ?cd ?kp; (case ac => k_is); (case rc => k_is); (case rd => k_is); (case ga => k_is); (case fi => k_is); (case l => k_is); (case cd => k_is); (case kp => k_is))
    (case d_filled_table => refine' SQ.defF KX G ?a ?l ?c ?k (fun _ _ _ _ _ _ us hl => match us, hl with | [_, _, _], _ => rfl); (case a => k_is); (case l => k_is); (case c => k_is); (case k => k_is))
    (case d__law_urn => refine' SQ.defF KX G ?a ?l ?c ?k (fun _ _ _ _ _ _ us hl => match us, hl with | [_, _], _ => rfl); (case a => k_is); (case l => k_is); (case c => k_is); (case k => k_is))
    (case d__law_met => refine' SQ.defF KX G ?a ?l ?c ?k (fun _ _ _ _ _ _ us hl => match us, hl with | [_], _ => rfl); (case a => k_is); (case l => k_is); (case c => k_is); (case k => k_is))
    (case d_check_rows => refine' SQ.defF KX G ?a ?l ?c ?k (fun _ _ _ _ _ _ us hl => match us, hl with | [_, _], _ => rfl); (case a => k_is); (case l => k_is); (case c => k_is); (case k => k_is))
    (case d_descending => refine' SQ.defF KX G ?a ?l ?c ?k (fun _ _ _ _ _ _ us hl => match us, hl with | [_], _ => rfl); (case a => k_is); (case l => k_is); (case c => k_is); (case k => k_is))
    (case d_sums_so_far => refine' SQ.defF KX G ?a ?l ?c ?k (fun _ _ _ _ _ _ us hl => match us, hl with | [_], _ => rfl); (case a => k_is); (case l => k_is); (case c => k_is); (case k => k_is))
    (case d_prefix_sums => refine' SQ.defF KX G ?a ?l ?c ?k (fun _ _ _ _ _ _ us hl => match us, hl with | [_], _ => rfl); (case a => k_is); (case l => k_is); (case c => k_is); (case k => k_is))
    (case d_room => refine' SQ.defF KX G ?a ?l ?c ?k (fun _ _ _ _ _ _ us hl => match us, hl with | [_, _, _], _ => rfl); (case a => k_is); (case l => k_is); (case c => k_is); (case k => k_is))
    (case d__fewest_barring => refine' SQ.defF KX G ?a ?l ?c ?k (fun _ _ _ _ _ _ us hl => match us, hl with | [_, _, _], _ => rfl); (case a => k_is); (case l => k_is); (case c => k_is); (case k => k_is))
    (case d_has_table => refine' SQ.defF KX G ?a ?l ?c ?k (fun _ _ _ _ _ _ us hl => match us, hl with | [_, _, _], _ => rfl); (case a => k_is); (case l => k_is); (case c => k_is); (case k => k_is))
    (case d_places_by_entry => refine' SQ.defF KX G ?a ?l ?c ?k (fun _ _ _ _ _ _ us hl => match us, hl with | [_], _ => rfl); (case a => k_is); (case l => k_is); (case c => k_is); (case k => k_is))
    (case d_have_equal_measures => refine' SQ.defF KX G ?a ?l ?c ?k (fun _ _ _ _ _ _ us hl => match us, hl with | [_, _], _ => rfl); (case a => k_is); (case l => k_is); (case c => k_is); (case k => k_is))
    (case d__first_bar => refine' SQ.defF KX G ?a ?l ?c ?k (fun _ _ _ _ _ _ us hl => match us, hl with | [_, _], _ => rfl); (case a => k_is); (case l => k_is); (case c => k_is); (case k => k_is))
    (case d_is_under => refine' SQ.defF KX G ?a ?l ?c ?k (fun _ _ _ _ _ _ us hl => match us, hl with | [_, _], _ => rfl); (case a => k_is); (case l => k_is); (case c => k_is); (case k => k_is))
    (case d_is_arranged_alike => refine' SQ.defF KX G ?a ?l ?c ?k (fun _ _ _ _ _ _ us hl => match us, hl with | [_, _], _ => rfl); (case a => k_is); (case l => k_is); (case c => k_is); (case k => k_is))
    (case d__dealt => refine' SQ.defF KX G ?a ?l ?c ?k (fun _ _ _ _ _ _ us hl => match us, hl with | [_, _], _ => rfl); (case a => k_is); (case l => k_is); (case c => k_is); (case k => k_is))
    (case d_road => refine' SQ.defF KX G ?a ?l ?c ?k (fun _ _ _ _ _ _ us hl => match us, hl with | [_, _], _ => rfl); (case a => k_is); (case l => k_is); (case c => k_is); (case k => k_is))
    (case d__is_short_row => refine' SQ.defF KX G ?a ?l ?c ?k (fun _ _ _ _ _ _ us hl => match us, hl with | [_, _], _ => rfl); (case a => k_is); (case l => k_is); (case c => k_is); (case k => k_is))
    (case d__are_lines_sums => refine' SQ.defF KX G ?a ?l ?c ?k (fun _ _ _ _ _ _ us hl => match us, hl with | [_, _], _ => rfl); (case a => k_is); (case l => k_is); (case c => k_is); (case k => k_is))
    (case d_is_sums => refine' SQ.defF KX G ?a ?l ?c ?k (fun _ _ _ _ _ _ us hl => match us, hl with | [_], _ => rfl); (case a => k_is); (case l => k_is); (case c => k_is); (case k => k_is))
    (case d_check_table_sums => refine' SQ.defF KX G ?a ?l ?c ?k (fun _ _ _ _ _ _ us hl => match us, hl with | [_], _ => rfl); (case a => k_is); (case l => k_is); (case c => k_is); (case k => k_is))
    (case d__with_units_carried => refine' SQ.defF KX G ?a ?l ?c ?k (fun _ _ _ _ _ _ us hl => match us, hl with | [_, _, _], _ => rfl); (case a => k_is); (case l => k_is); (case c => k_is); (case k => k_is))
    (case d_made_table => refine' SQ.defF KX G ?a ?l ?c ?k (fun _ _ _ _ _ _ us hl => match us, hl with | [_], _ => rfl); (case a => k_is); (case l => k_is); (case c => k_is); (case k => k_is))
    (case d_greatest_places => refine' SQ.defF KX G ?a ?l ?c ?k (fun _ _ _ _ _ _ us hl => match us, hl with | [_, _], _ => rfl); (case a => k_is); (case l => k_is); (case c => k_is); (case k => k_is))
    (case d_table_paper => refine' SQ.defF KX G ?a ?l ?c ?k (fun _ _ _ _ _ _ us hl => match us, hl with | [_], _ => rfl); (case a => k_is); (case l => k_is); (case c => k_is); (case k => k_is))
    (case d_Table_line_sums => refine' SQ.propF ?cl ?fi ?get ?tak ?rec ?l ?cd ?kp (fun _ _ _ _ _ _ us hl => match us, hl with | [_], _ => rfl); (case cl => (refine' ⟨?pg, ?hd, ?po, ?sa⟩; (case pg => k_is); (case hd => k_is); (case po => k_is); (case sa => k_is))); (case fi => k_is); (case get => k_is); (case tak => k_is); (case rec => k_is); (case l => k_is); (case cd => k_is); (case kp => k_is))
    (case d_Table_column_sums => refine' SQ.propF ?cl ?fi ?get ?tak ?rec ?l ?cd ?kp (fun _ _ _ _ _ _ us hl => match us, hl with | [_], _ => rfl); (case cl => (refine' ⟨?pg, ?hd, ?po, ?sa⟩; (case pg => k_is); (case hd => k_is); (case po => k_is); (case sa => k_is))); (case fi => k_is); (case get => k_is); (case tak => k_is); (case rec => k_is); (case l => k_is); (case cd => k_is); (case kp => k_is))
    (case d_Table_sums => refine' SQ.propF ?cl ?fi ?get ?tak ?rec ?l ?cd ?kp (fun _ _ _ _ _ _ us hl => match us, hl with | [_], _ => rfl); (case cl => (refine' ⟨?pg, ?hd, ?po, ?sa⟩; (case pg => k_is); (case hd => k_is); (case po => k_is); (case sa => k_is))); (case fi => k_is); (case get => k_is); (case tak => k_is); (case rec => k_is); (case l => k_is); (case cd => k_is); (case kp => k_is))
    (case d_Web_degrees => refine' SQ.propF ?cl ?fi ?get ?tak ?rec ?l ?cd ?kp (fun _ _ _ _ _ _ us hl => match us, hl with | [_], _ => rfl); (case cl => (refine' ⟨?pg, ?hd, ?po, ?sa⟩; (case pg => k_is); (case hd => k_is); (case po => k_is); (case sa => k_is))); (case fi => k_is); (case get => k_is); (case tak => k_is); (case rec => k_is); (case l => k_is); (case cd => k_is); (case kp => k_is))
    (case d_Web_sums => refine' SQ.propF ?cl ?fi ?get ?tak ?rec ?l ?cd ?kp (fun _ _ _ _ _ _ us hl => match us, hl with | [_], _ => rfl); (case cl => (refine' ⟨?pg, ?hd, ?po, ?sa⟩; (case pg => k_is); (case hd => k_is); (case po => k_is); (case sa => k_is))); (case fi => k_is); (case get => k_is); (case tak => k_is); (case rec => k_is); (case l => k_is); (case cd => k_is); (case kp => k_is))
    (case d_Tournament_scores => refine' SQ.propF ?cl ?fi ?get ?tak ?rec ?l ?cd ?kp (fun _ _ _ _ _ _ us hl => match us, hl with | [_], _ => rfl); (case cl => (refine' ⟨?pg, ?hd, ?po, ?sa⟩; (case pg => k_is); (case hd => k_is); (case po => k_is); (case sa => k_is))); (case fi => k_is); (case get => k_is); (case tak => k_is); (case rec => k_is); (case l => k_is); (case cd => k_is); (case kp => k_is))
    (case d_Tournament_sums => refine' SQ.propF ?cl ?fi ?get ?tak ?rec ?l ?cd ?kp (fun _ _ _ _ _ _ us hl => match us, hl with | [_], _ => rfl); (case cl => (refine' ⟨?pg, ?hd, ?po, ?sa⟩; (case pg => k_is); (case hd => k_is); (case po => k_is); (case sa => k_is))); (case fi => k_is); (case get => k_is); (case tak => k_is); (case rec => k_is); (case l => k_is); (case cd => k_is); (case kp => k_is))
    (case d_is_any_thing => refine' SQ.defF KX G ?a ?l ?c ?k (fun _ _ _ _ _ _ us hl => match us, hl with | [_], _ => rfl); (case a => k_is); (case l => k_is); (case c => k_is); (case k => k_is))
    (case d_is_thing => refine' SQ.defF KX G ?a ?l ?c ?k (fun _ _ _ _ _ _ us hl => match us, hl with | [_, _], _ => rfl); (case a => k_is); (case l => k_is); (case c => k_is); (case k => k_is))
    (case d_is_ascending => refine' SQ.defF KX G ?a ?l ?c ?k (fun _ _ _ _ _ _ us hl => match us, hl with | [_, _], _ => rfl); (case a => k_is); (case l => k_is); (case c => k_is); (case k => k_is))
    (case d__is_barring => refine' SQ.defF KX G ?a ?l ?c ?k (fun _ _ _ _ _ _ us hl => match us, hl with | [_, _, _, _], _ => rfl); (case a => k_is); (case l => k_is); (case c => k_is); (case k => k_is))
    (case d_is_table_paper => refine' SQ.defF KX G ?a ?l ?c ?k (fun _ _ _ _ _ _ us hl => match us, hl with | [_, _], _ => rfl); (case a => k_is); (case l => k_is); (case c => k_is); (case k => k_is))
    (case d__bound => refine' SQ.defF KX G ?a ?l ?c ?k (fun _ _ _ _ _ _ us hl => match us, hl with | [_, _, _, _], _ => rfl); (case a => k_is); (case l => k_is); (case c => k_is); (case k => k_is))
    (case d__bounds => refine' SQ.defF KX G ?a ?l ?c ?k (fun _ _ _ _ _ _ us hl => match us, hl with | [_, _, _], _ => rfl); (case a => k_is); (case l => k_is); (case c => k_is); (case k => k_is))
    (case d_most_units => refine' SQ.defF KX G ?a ?l ?c ?k (fun _ _ _ _ _ _ us hl => match us, hl with | [_], _ => rfl); (case a => k_is); (case l => k_is); (case c => k_is); (case k => k_is))
    (case d__lessened => refine' SQ.defF KX G ?a ?l ?c ?k (fun _ _ _ _ _ _ us hl => match us, hl with | [_, _, _], _ => rfl); (case a => k_is); (case l => k_is); (case c => k_is); (case k => k_is))
    (case d_nearest_sums => refine' SQ.defF KX G ?a ?l ?c ?k (fun _ _ _ _ _ _ us hl => match us, hl with | [_], _ => rfl); (case a => k_is); (case l => k_is); (case c => k_is); (case k => k_is))
    (case d_most_paper => refine' SQ.defF KX G ?a ?l ?c ?k (fun _ _ _ _ _ _ us hl => match us, hl with | [_], _ => rfl); (case a => k_is); (case l => k_is); (case c => k_is); (case k => k_is))
    (case d_Table_units => refine' SQ.propF ?cl ?fi ?get ?tak ?rec ?l ?cd ?kp (fun _ _ _ _ _ _ us hl => match us, hl with | [_], _ => rfl); (case cl => (refine' ⟨?pg, ?hd, ?po, ?sa⟩; (case pg => k_is); (case hd => k_is); (case po => k_is); (case sa => k_is))); (case fi => k_is); (case get => k_is); (case tak => k_is); (case rec => k_is); (case l => k_is); (case cd => k_is); (case kp => k_is))
    (case d_Table_cap => refine' SQ.propF ?cl ?fi ?get ?tak ?rec ?l ?cd ?kp (fun _ _ _ _ _ _ us hl => match us, hl with | [_], _ => rfl); (case cl => (refine' ⟨?pg, ?hd, ?po, ?sa⟩; (case pg => k_is); (case hd => k_is); (case po => k_is); (case sa => k_is))); (case fi => k_is); (case get => k_is); (case tak => k_is); (case rec => k_is); (case l => k_is); (case cd => k_is); (case kp => k_is))
    (case d__is_placing => refine' SQ.defF KX G ?a ?l ?c ?k (fun _ _ _ _ _ _ us hl => match us, hl with | [_, _, _, _], _ => rfl); (case a => k_is); (case l => k_is); (case c => k_is); (case k => k_is))
    (case d_is_most_paper => refine' SQ.defF KX G ?a ?l ?c ?k (fun _ _ _ _ _ _ us hl => match us, hl with | [_, _], _ => rfl); (case a => k_is); (case l => k_is); (case c => k_is); (case k => k_is))
    (case d_fewest_taken => refine' SQ.defF KX G ?a ?l ?c ?k (fun _ _ _ _ _ _ us hl => match us, hl with | [_], _ => rfl); (case a => k_is); (case l => k_is); (case c => k_is); (case k => k_is))
    (case d__law_ball => refine' SQ.defF KX G ?a ?l ?c ?k (fun _ _ _ _ _ _ us hl => match us, hl with | [_, _], _ => rfl); (case a => k_is); (case l => k_is); (case c => k_is); (case k => k_is))
    (case d__law_pick => refine' SQ.defF KX G ?a ?l ?c ?k (fun _ _ _ _ _ _ us hl => match us, hl with | [_, _], _ => rfl); (case a => k_is); (case l => k_is); (case c => k_is); (case k => k_is))
    (case d__law_wrong_sums => refine' SQ.defF KX G ?a ?l ?c ?k (fun _ _ _ _ _ _ us hl => match us, hl with | [_], _ => rfl); (case a => k_is); (case l => k_is); (case c => k_is); (case k => k_is))
    (case d__law_right => refine' SQ.defC KX G ?a ?l ?c ?k (fun _ _ _ _ _ _ us hl => match us, hl with | [_], _ => rfl); (case a => k_is); (case l => k_is); (case c => k_is); (case k => k_is))
    (case d_law => refine' SQ.defC KX G ?a ?l ?c ?k (fun _ _ _ _ _ _ us hl => match us, hl with | [_], _ => rfl); (case a => k_is); (case l => k_is); (case c => k_is); (case k => k_is))
    (case t__law_right => exact TT 809 (by decide))
    (case n__law_right => first | rfl | kernel_rfl | decide +kernel)
    (case o__law_right => first | rfl | kernel_rfl | decide +kernel)
    (case t_law => exact TT 816 (by decide))
    (case n_law => first | rfl | kernel_rfl | decide +kernel)
    (case o_law => first | rfl | kernel_rfl | decide +kernel)
    (case ne__law_right_law => decide)

