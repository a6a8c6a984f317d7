import PyProof.Rows.All
import Wide.All
import OpenK.AllK
import Wide.FinOn
import HandS.ForExc
import HandS.Comp
import HandS.Iter
import HandS.Conv
import HandS.Property
import HandS.IsInst
import HandS.TupMul
import HandS.TupAny
import KE.KDictKeyed
import HandS.Sort
import HandS.Zip
import KE.SortKeyed
import KE.DataCmp
import HandS.SortRule
import HandS.Dict
import HandS.More
import HandS.Style
import HandS.ExcOwn
import HandS.RaiseMore
import HandS.TryOnly
import KE.GoesMore
import PyProof.Draws
import PyProof.EnumMake
import HandS.Walk
import HandS.SetBool
import HandS.Strs
import PyProof.Rows.SortShellAny
import KE.DataMinMax
import HandS.SortKw
import PyProof.Rows.InDataRows
import HandS.Wide
import HandS.WideBits
import HandS.ExcInit
import HandS.ExcField
import HandS.ExcIs
import KE.KExcIs
import HandS.Deep
import HandS.NoneIn
import HandS.Head0
import HandS.Head1
import HandS.Head2
import HandS.HeadEnd
import HandS.HeadHook3
import HandS.OwnEq
import HandS.Text
import HandS.Star
import KE.KTryMore
import HandS.SuiteRaise
import HandS.RaiseFrom
import HandS.ExcInitHot
import HandS.ClsMeth
import PySem.Challenge.RW_manymakers_k43_texts_rejected
set_option Elab.async false
set_option linter.all false
set_option maxRecDepth 100000
set_option maxHeartbeats 2000000
namespace DS
open PySem L2

/-- data -/
inductive D where
  | non | bl (b : Bool) | int (i : Int) | str (x : Str)
  | tup (ds : List D) | lst (ds : List D) | fls (ds : List D)
  | ins (c : Nat) (fs : List (Str × D))
  | cell (k : Nat)
  /-- a thing that is held: an exception in its suite, a def that was handed in -/
  | opq (j : Nat) (fs : List (Str × D))
  /-- a dict that stands still: keys whole numbers and texts; keys tuples -/
  | dic (ks vs : List D) | dik (ks vs : List D)
  /-- a dict with whole numbers as keys, while it is walked -/
  | lok (ks vs : List D)
mutual
/-- the key of a dict that a thing is -/
def nk : D → Option NestedKey
  | .non => some .none
  | .bl b => some (.num (if b = true then 1 else 0))
  | .int i => some (.num i)
  | .str x => some (.text x)
  | .tup ds => (nks ds).map .tup
  | _ => none
def nks : List D → Option (List NestedKey)
  | [] => some []
  | d :: ds => (nk d).bind fun k => (nks ds).map fun ks => k :: ks
end
/-- a key that a dict with tuple keys can have -/
def dkKey (d : D) : Option NestedKey := match nk d with
  | some (.tup zs) => if (NestedKey.tup zs).depth ≤ 8 then some (.tup zs) else none
  | _ => none
def dkKeys : List D → Option (List NestedKey)
  | [] => some []
  | d :: ds => (dkKey d).bind fun k => (dkKeys ds).map fun ks => k :: ks
/-- a thing that is changed -/
inductive Cell where
  | lst (ds : List D)
  | ins (c : Nat) (fs : List (Str × D))
  /-- a dict whose keys are whole numbers -/
  | dct (ks : List (Int × D))
  /-- a dict whose keys are texts; tuples -/
  | dcs (ks : List (Str × D)) | dck (ks vs : List D)
/-- where the classes stand; what is held: where it stands, its dict; the world -/
structure Ca where
  cls : Nat → Addr
  opq : Nat → Option (Addr × Option Addr)
  w : World
instance : CoeFun Ca fun _ => Nat → Addr := ⟨Ca.cls⟩
abbrev Sta := List Cell
abbrev Evn := List (Option D)
inductive R (α : Type) where
  | ok (a : α) (st : Sta)
  | err (c : Nat) (fs : List (Str × D)) (st : Sta)
abbrev F (α : Type) := Evn → Sta → Option (R α)
def bnd {α β : Type} (m : Option (R α)) (f : α → Sta → Option (R β)) : Option (R β) :=
  match m with
  | none => none
  | some (.ok a st) => f a st
  | some (.err c fs st) => some (.err c fs st)

/-- where the things that are changed stand; what else is hidden (a list that is being made) -/
structure Wl where
  as : List Addr
  hs : List Addr
/-! ### what stands for what -/
/-- the entry of a dict with tuple keys -/
def DkE (w : World) : NestedKey × Addr × V → DictEntry → Prop := fun x e => e.hash = x.1.hash w ∧ e.key = .ref x.2.1 ∧ RelV x.2.2 e.val
/-- at p: a dict with tuple keys -/
def DkO (w : World) (p : Addr) (xs : List (NestedKey × Addr × V)) : HO := .ext fun h => xs.length ≤ sizeLine ∧ (p == sysModules) = false ∧ (xs.map (·.1)).Nodup ∧ ∃ o es ep, h.get? p = some o ∧ o.ExactDict ∧ o.data = .dict es ep ∧ Paired (DkE w) xs es.toList
section
variable (K : PySem.W.Frag) (ca : Ca) (as : Wl) (G : Hp)
mutual
inductive IsD : V → D → Prop
  | non : IsD .non .non
  | bl (b : Bool) : IsD (.bl b) (.bl b)
  | int (i : Int) : IsD (.int i) (.int i)
  | str (x : Str) : IsD (.str x) (.str x)
  | tup {p : Addr} {xs : List V} {ds : List D} : SqT K G p xs → IsDs xs ds → IsD (.ref p) (.tup ds)
  | lst {p : Addr} {xs : List V} {ds : List D} : G p = some (.lst xs) → IsDs xs ds → IsD (.ref p) (.lst ds)
  | fls {p : Addr} {xs : List V} {ds : List D} : SqL K G p xs → IsDs xs ds → IsD (.ref p) (.fls ds)
  | ins {p dx C : Addr} {c : Nat} {vs : List (Str × V)} {fs : List (Str × D)} : C = ca c → G p = some (.ins C dx vs) → IsFs vs fs → IsD (.ref p) (.ins c fs)
  | cell {p : Addr} {k : Nat} : as.as[k]? = some p → IsD (.ref p) (.cell k)
  | opq0 {p : Addr} {j : Nat} : ca.opq j = some (p, Option.none) → IsD (.ref p) (.opq j [])
  | opq1 {p q : Addr} {j : Nat} {vs : List (Str × V)} {fs : List (Str × D)} : ca.opq j = some (p, some q) → G q = some (.xd vs) → IsFs vs fs → IsD (.ref p) (.opq j fs)
  | dic {p : Addr} {kvs : List (Key × V)} {kv vs : List V} {ks ds : List D} : G p = some (.dK kvs) → kv = kvs.map (fun x => kV x.1) → vs = kvs.map (·.2) → IsDs kv ks → IsDs vs ds → IsD (.ref p) (.dic ks ds)
  | lok {p : Addr} {o : Obj} {kvs : List (Key × V)} {kv vs : List V} {ks ds : List D} : G p = some (.frz o (.dK kvs)) → kv = kvs.map (fun x => kV x.1) → vs = kvs.map (·.2) → IsDs kv ks → IsDs vs ds → IsD (.ref p) (.lok ks ds)
  | dik {p : Addr} {xs : List (NestedKey × Addr × V)} {kv vs : List V} {ks ds : List D} : G p = some (DkO ca.w p xs) → dkKeys ks = some (xs.map (·.1)) → kv = xs.map (fun x => .ref x.2.1) → vs = xs.map (·.2.2) → IsDs kv ks → IsDs vs ds → IsD (.ref p) (.dik ks ds)
inductive IsDs : List V → List D → Prop
  | nil : IsDs [] []
  | cons {v : V} {vs : List V} {d : D} {ds : List D} : IsD v d → IsDs vs ds → IsDs (v :: vs) (d :: ds)
inductive IsFs : List (Str × V) → List (Str × D) → Prop
  | nil : IsFs [] []
  | cons {n : Str} {v : V} {vs : List (Str × V)} {d : D} {ds : List (Str × D)} : IsD v d → IsFs vs ds → IsFs ((n, v) :: vs) ((n, d) :: ds)
end
end

def stab (as : Wl) (H : Hp) : Hp := fun a => if a ∈ as.as ∨ a ∈ as.hs then none else H a
theorem stab_out {as : Wl} {H : Hp} {a : Addr} (h : a ∉ as.as) (h' : a ∉ as.hs) : stab as H a = H a := if_neg fun z => z.elim h h'
theorem stab_some {as : Wl} {H : Hp} {a : Addr} {o : HO} (h : stab as H a = some o) : a ∉ as.as ∧ a ∉ as.hs ∧ H a = some o := by
  unfold stab at h
  split at h
  · cases h
  · rename_i q
    exact ⟨fun z => q (.inl z), fun z => q (.inr z), h⟩
def Ext (G G' : Hp) : Prop := ∀ a o, G a = some o → G' a = some o
theorem Ext.refl (G : Hp) : Ext G G := fun _ _ h => h
theorem stab_sub (as : Wl) (H : Hp) : Ext (stab as H) H := fun _ _ h => (stab_some h).2.2
theorem ext_rd {G G' : Hp} {a : Addr} {u : HO} (e : Ext G G') (h : Rd G a u) : Rd G' a u := by
  rcases h with h | ⟨o, h⟩
  · exact .inl (e a _ h)
  · exact .inr ⟨o, e a _ h⟩
theorem ext_l {K : PySem.W.Frag} {G G' : Hp} {a : Addr} {xs : List V} (e : Ext G G') (h : SqL K G a xs) : SqL K G' a xs := by
  rcases h with h | h
  · exact .inl (ext_rd e h)
  · exact .inr h
theorem ext_t {K : PySem.W.Frag} {G G' : Hp} {a : Addr} {xs : List V} (e : Ext G G') (h : SqT K G a xs) : SqT K G' a xs := by
  rcases h with h | h
  · exact .inl (ext_rd e h)
  · exact .inr h

/-- from one place of a run to a later one -/
structure Step (as : Wl) (H : Hp) (as' : Wl) (H' : Hp) : Prop where
  pre : as.as <+: as'.as
  hid : as'.hs = as.hs
  new : ∀ a ∈ as'.as, a ∉ as.as → H a = none
  keep : ∀ a o, a ∉ as.as → H a = some o → H' a = some o
theorem Step.refl (as : Wl) (H : Hp) : Step as H as H := ⟨List.prefix_refl _, rfl, fun _ h n => (n h).elim, fun _ _ _ h => h⟩
theorem Step.out {as as' : Wl} {H H' : Hp} (s : Step as H as' H') {a : Addr} {o : HO} (h : a ∉ as.as) (e : H a = some o) : a ∉ as'.as := fun z => by
  rw [s.new a z h] at e
  cases e
theorem Step.trans {as as1 as2 : Wl} {H H1 H2 : Hp} (a : Step as H as1 H1) (b : Step as1 H1 as2 H2) : Step as H as2 H2 := by
  refine ⟨a.pre.trans b.pre, b.hid.trans a.hid, fun x hx hn => ?_, fun x o hn e => b.keep x o (a.out hn e) (a.keep x o hn e)⟩
  by_cases h1 : x ∈ as1.as
  · exact a.new x h1 hn
  · cases q : H x with
    | none => rfl
    | some o =>
      have e := a.keep x o hn q
      rw [b.new x hx h1] at e
      cases e
theorem Step.ext {as as' : Wl} {H H' : Hp} (s : Step as H as' H') : Ext (stab as H) (stab as' H') := fun a o h => by
  obtain ⟨h1, h2, h3⟩ := stab_some h
  rw [stab_out (s.out h1 h3) (by rw [s.hid]; exact h2)]
  exact s.keep a o h1 h3

section
variable {K : PySem.W.Frag} {ca : Ca} {as as' : Wl} {G G' : Hp}
theorem pre_get {as as' : List Addr} (p : as <+: as') {k : Nat} {a : Addr} (h : as[k]? = some a) : as'[k]? = some a := by
  obtain ⟨t, rfl⟩ := p
  rw [List.getElem?_append_left (List.getElem?_eq_some_iff.mp h).1]
  exact h
mutual
theorem IsD.ext (p : as.as <+: as'.as) (e : Ext G G') {v : V} {d : D} (h : IsD K ca as G v d) : IsD K ca as' G' v d := by
  cases h with
  | non => exact .non
  | bl b => exact .bl b
  | int i => exact .int i
  | str x => exact .str x
  | tup h1 h2 => exact .tup (ext_t e h1) (IsDs.ext p e h2)
  | lst h1 h2 => exact .lst (e _ _ h1) (IsDs.ext p e h2)
  | fls h1 h2 => exact .fls (ext_l e h1) (IsDs.ext p e h2)
  | ins h0 h1 h2 => exact .ins h0 (e _ _ h1) (IsFs.ext p e h2)
  | cell h1 => exact .cell (pre_get p h1)
  | opq0 h1 => exact .opq0 h1
  | opq1 h1 h2 h3 => exact .opq1 h1 (e _ _ h2) (IsFs.ext p e h3)
  | dic h1 h2 h3 h4 h5 => exact .dic (e _ _ h1) h2 h3 (IsDs.ext p e h4) (IsDs.ext p e h5)
  | lok h1 h2 h3 h4 h5 => exact .lok (e _ _ h1) h2 h3 (IsDs.ext p e h4) (IsDs.ext p e h5)
  | dik h1 h0 h2 h3 h4 h5 => exact .dik (e _ _ h1) h0 h2 h3 (IsDs.ext p e h4) (IsDs.ext p e h5)
theorem IsDs.ext (p : as.as <+: as'.as) (e : Ext G G') {vs : List V} {ds : List D} (h : IsDs K ca as G vs ds) : IsDs K ca as' G' vs ds := by
  cases h with
  | nil => exact .nil
  | cons h1 h2 => exact .cons (IsD.ext p e h1) (IsDs.ext p e h2)
theorem IsFs.ext (p : as.as <+: as'.as) (e : Ext G G') {vs : List (Str × V)} {ds : List (Str × D)} (h : IsFs K ca as G vs ds) : IsFs K ca as' G' vs ds := by
  cases h with
  | nil => exact .nil
  | cons h1 h2 => exact .cons (IsD.ext p e h1) (IsFs.ext p e h2)
end
theorem IsDs.len {vs : List V} {ds : List D} (h : IsDs K ca as G vs ds) : vs.length = ds.length := by
  induction ds generalizing vs with
  | nil => cases h; rfl
  | cons d ds ih => cases h with | cons h1 h2 => simp [ih h2]
theorem IsDs.get {vs : List V} {ds : List D} (h : IsDs K ca as G vs ds) {i : Nat} {d : D} (e : ds[i]? = some d) : ∃ v, vs[i]? = some v ∧ IsD K ca as G v d := by
  induction ds generalizing vs i with
  | nil => simp at e
  | cons d' ds ih =>
    cases h with
    | cons h1 h2 =>
      cases i with
      | zero => simp at e; subst e; exact ⟨_, rfl, h1⟩
      | succ i => simpa using ih h2 (by simpa using e)
theorem IsDs.getV {vs : List V} {ds : List D} (h : IsDs K ca as G vs ds) {i : Nat} {v : V} (e : vs[i]? = some v) : ∃ d, ds[i]? = some d ∧ IsD K ca as G v d := by
  have hl := h.len
  have hi : i < ds.length := by rw [← hl]; exact (List.getElem?_eq_some_iff.mp e).1
  obtain ⟨v', e', q⟩ := h.get (i := i) (d := ds[i]) (by simp [hi])
  rw [e] at e'
  cases e'
  exact ⟨ds[i], by simp [hi], q⟩
theorem IsDs.append {vs ws : List V} {ds es : List D} (h : IsDs K ca as G vs ds) (h' : IsDs K ca as G ws es) : IsDs K ca as G (vs ++ ws) (ds ++ es) := by
  induction ds generalizing vs with
  | nil => cases h; exact h'
  | cons d ds ih => cases h with | cons h1 h2 => exact .cons h1 (ih h2)
theorem IsDs.drop {vs : List V} {ds : List D} (h : IsDs K ca as G vs ds) (n : Nat) : IsDs K ca as G (vs.drop n) (ds.drop n) := by
  induction n generalizing vs ds with
  | zero => exact h
  | succ n ih => cases h with
    | nil => exact .nil
    | cons h1 h2 => exact ih h2
theorem IsDs.take {vs : List V} {ds : List D} (h : IsDs K ca as G vs ds) (n : Nat) : IsDs K ca as G (vs.take n) (ds.take n) := by
  induction n generalizing vs ds with
  | zero => exact .nil
  | succ n ih => cases h with
    | nil => exact .nil
    | cons h1 h2 => exact .cons h1 (ih h2)
theorem IsDs.set {vs : List V} {ds : List D} (h : IsDs K ca as G vs ds) (n : Nat) {v : V} {d : D} (hv : IsD K ca as G v d) : IsDs K ca as G (vs.set n v) (ds.set n d) := by
  induction n generalizing vs ds with
  | zero => cases h with
    | nil => exact .nil
    | cons h1 h2 => exact .cons hv h2
  | succ n ih => cases h with
    | nil => exact .nil
    | cons h1 h2 => exact .cons h1 (ih h2)
theorem IsFs.look {vs : List (Str × V)} {fs : List (Str × D)} (h : IsFs K ca as G vs fs) {f : Str} {d : D} (e : fs.lookup f = some d) : ∃ v, vs.lookup f = some v ∧ IsD K ca as G v d := by
  induction fs generalizing vs with
  | nil => simp at e
  | cons q fs ih =>
    obtain ⟨n, d'⟩ := q
    cases h with
    | cons h1 h2 =>
      rw [List.lookup_cons] at e ⊢
      cases q : f == n with
      | true => rw [q] at e; simp only at e; cases e; exact ⟨_, rfl, h1⟩
      | false => rw [q] at e; simp only at e; exact ih h2 e
theorem IsFs.lookN {vs : List (Str × V)} {fs : List (Str × D)} (h : IsFs K ca as G vs fs) {f : Str} (e : fs.lookup f = none) : vs.lookup f = none := by
  induction fs generalizing vs with
  | nil => cases h; rfl
  | cons q fs ih =>
    obtain ⟨n, d'⟩ := q
    cases h with
    | cons h1 h2 =>
      rw [List.lookup_cons] at e ⊢
      cases q : f == n with
      | true => rw [q] at e; simp at e
      | false => rw [q] at e; simp only at e; exact ih h2 e
theorem IsFs.len {vs : List (Str × V)} {fs : List (Str × D)} (h : IsFs K ca as G vs fs) : vs.length = fs.length := by
  induction fs generalizing vs with
  | nil => cases h; rfl
  | cons d ds ih => cases h with | cons h1 h2 => simp [ih h2]
/-- a field stored -/
def putD (f : Str) (v : D) : List (Str × D) → List (Str × D)
  | [] => [(f, v)]
  | (g, x) :: r => if g = f then (g, v) :: r else (g, x) :: putD f v r
end

theorem IsFs.put {K : PySem.W.Frag} {ca : Ca} {as : Wl} {G : Hp} {vs : List (Str × V)} {fs : List (Str × D)} (h : IsFs K ca as G vs fs) {f : Str} {v : V} {d : D} (hv : IsD K ca as G v d) : IsFs K ca as G (putF f v vs) (putD f d fs) := by
  induction fs generalizing vs with
  | nil => cases h; exact .cons hv .nil
  | cons q fs ih =>
    obtain ⟨n, d'⟩ := q
    cases h with
    | cons h1 h2 =>
      unfold putD
      show IsFs K ca as G (if n = f then (n, v) :: _ else (n, _) :: putF f v _) _
      by_cases e : n = f
      · rw [if_pos e, if_pos e]
        exact .cons hv h2
      · rw [if_neg e, if_neg e]
        exact .cons h1 (ih h2)

/-- the entries of a dict -/
def IsKs (K : PySem.W.Frag) (ca : Ca) (as : Wl) (G : Hp) : List (Key × V) → List (Int × D) → Prop
  | [], [] => True
  | (k, v) :: r, (i, d) :: s => k = Sum.inl i ∧ IsD K ca as G v d ∧ IsKs K ca as G r s
  | _, _ => False
theorem IsKs.ext {K : PySem.W.Frag} {ca : Ca} {as as' : Wl} {G G' : Hp} (p : as.as <+: as'.as) (e : Ext G G') : ∀ {r : List (Key × V)} {s : List (Int × D)}, IsKs K ca as G r s → IsKs K ca as' G' r s
  | [], [], _ => trivial
  | [], _ :: _, h => h.elim
  | _ :: _, [], h => h.elim
  | (_, _) :: _, (_, _) :: _, h => ⟨h.1, h.2.1.ext p e, IsKs.ext p e h.2.2⟩
/-- the entries of a dict with text keys -/
def IsKt (K : PySem.W.Frag) (ca : Ca) (as : Wl) (G : Hp) : List (Key × V) → List (Str × D) → Prop
  | [], [] => True
  | (k, v) :: r, (i, d) :: s => k = Sum.inr i ∧ IsD K ca as G v d ∧ IsKt K ca as G r s
  | _, _ => False
theorem IsKt.ext {K : PySem.W.Frag} {ca : Ca} {as as' : Wl} {G G' : Hp} (p : as.as <+: as'.as) (e : Ext G G') : ∀ {r : List (Key × V)} {s : List (Str × D)}, IsKt K ca as G r s → IsKt K ca as' G' r s
  | [], [], _ => trivial
  | [], _ :: _, h => h.elim
  | _ :: _, [], h => h.elim
  | (_, _) :: _, (_, _) :: _, h => ⟨h.1, h.2.1.ext p e, IsKt.ext p e h.2.2⟩
/-! ### the state -/
def CellOk (K : PySem.W.Frag) (ca : Ca) (as : Wl) (G : Hp) (a : Addr) : Option HO → Cell → Prop
  | some (.lst xs), .lst ds => IsDs K ca as G xs ds
  | some (.ins C _ vs), .ins c fs => C = ca c ∧ IsFs K ca as G vs fs
  | some (.dK kvs), .dct ks => IsKs K ca as G kvs ks
  | some (.dK kvs), .dcs ks => IsKt K ca as G kvs ks
  | some (.ext φ), .dck ks ds => ∃ xs, HO.ext φ = DkO ca.w a xs ∧ dkKeys ks = some (xs.map (·.1)) ∧ IsDs K ca as G (xs.map fun x => .ref x.2.1) ks ∧ IsDs K ca as G (xs.map (·.2.2)) ds
  | _, _ => False
structure StOk (K : PySem.W.Frag) (ca : Ca) (as : Wl) (H : Hp) (st : Sta) : Prop where
  nd : as.as.Nodup
  len : as.as.length = st.length
  hid : ∀ a ∈ as.hs, a ∉ as.as ∧ ∃ o, H a = some o
  at_ : ∀ (k : Nat) (a : Addr) (c : Cell), as.as[k]? = some a → st[k]? = some c → CellOk K ca as (stab as H) a (H a) c
structure EnvOk (K : PySem.W.Frag) (ca : Ca) (as : Wl) (G : Hp) (σ : L2.St) (env : Evn) : Prop where
  len : σ.length = env.length
  at_ : ∀ (i : Nat) (d : D), env[i]? = some (some d) → ∃ v : V, σ[i]? = some (some v) ∧ IsD K ca as G v d
section
variable {K : PySem.W.Frag} {ca : Ca} {as as' : Wl} {G G' H H' : Hp} {st : Sta} {σ : L2.St} {env : Evn}
theorem EnvOk.ext (p : as.as <+: as'.as) (e : Ext G G') (h : EnvOk K ca as G σ env) : EnvOk K ca as' G' σ env :=
  ⟨h.len, fun i d q => let ⟨v, a, b⟩ := h.at_ i d q; ⟨v, a, b.ext p e⟩⟩
theorem EnvOk.step (h : EnvOk K ca as (stab as H) σ env) (s : Step as H as' H') : EnvOk K ca as' (stab as' H') σ env := h.ext s.pre s.ext
theorem IsD.step {v : V} {d : D} (h : IsD K ca as (stab as H) v d) (s : Step as H as' H') : IsD K ca as' (stab as' H') v d := h.ext s.pre s.ext
theorem IsDs.step {v : List V} {d : List D} (h : IsDs K ca as (stab as H) v d) (s : Step as H as' H') : IsDs K ca as' (stab as' H') v d := h.ext s.pre s.ext
theorem IsFs.step {v : List (Str × V)} {d : List (Str × D)} (h : IsFs K ca as (stab as H) v d) (s : Step as H as' H') : IsFs K ca as' (stab as' H') v d := h.ext s.pre s.ext
theorem CellOk.ext (p : as.as <+: as'.as) (e : Ext G G') {a : Addr} {o : Option HO} {c : Cell} (h : CellOk K ca as G a o c) : CellOk K ca as' G' a o c := by
  cases o with
  | none => exact h.elim
  | some o =>
    cases o <;> cases c <;> first | exact h.elim | exact IsDs.ext p e h | exact IsKs.ext p e h | exact IsKt.ext p e h | exact ⟨h.1, IsFs.ext p e h.2⟩ | exact h.imp fun xs h => ⟨h.1, h.2.1, h.2.2.1.ext p e, h.2.2.2.ext p e⟩
theorem CellOk.some_ {a : Addr} {o : Option HO} {c : Cell} (h : CellOk K ca as G a o c) : ∃ u, o = some u := by
  cases o with
  | none => exact h.elim
  | some o => exact ⟨o, rfl⟩
theorem StOk.alloc (h : StOk K ca as H st) {a : Addr} (ha : a ∈ as.as) : ∃ o, H a = some o := by
  obtain ⟨k, hk, e⟩ := List.mem_iff_getElem.mp ha
  have hs : k < st.length := by rw [← h.len]; exact hk
  exact (h.at_ k a st[k] (by simp [hk, e]) (by simp [hs])).some_
theorem StOk.free (h : StOk K ca as H st) {p : Addr} (hp : H p = none) : p ∉ as.as := fun z => by
  obtain ⟨o, e⟩ := h.alloc z
  rw [hp] at e
  cases e
theorem StOk.freeH (h : StOk K ca as H st) {p : Addr} (hp : H p = none) : p ∉ as.hs := fun z => by
  obtain ⟨_, o, e⟩ := h.hid p z
  rw [hp] at e
  cases e
theorem StOk.hidS (h : StOk K ca as H st) (s : Step as H as' H') : ∀ a ∈ as'.hs, a ∉ as'.as ∧ ∃ o, H' a = some o := fun a ha => by
  rw [s.hid] at ha
  obtain ⟨h1, o, h2⟩ := h.hid a ha
  exact ⟨s.out h1 h2, o, s.keep a o h1 h2⟩
/-- a new thing that is not changed -/
theorem Step.laid {p : Addr} {o : HO} (hp : H p = none) : Step as H as (upd H p o) := ⟨List.prefix_refl _, rfl, fun _ h n => (n h).elim, fun a u _ e => by rw [upd_ne (ne_of_none e hp)]; exact e⟩
theorem StOk.laid (h : StOk K ca as H st) {p : Addr} {o : HO} (hp : H p = none) : StOk K ca as (upd H p o) st :=
  ⟨h.nd, h.len, h.hidS (Step.laid hp), fun k a c e1 e2 => by
    have hne : a ≠ p := fun z => h.free hp (z ▸ List.mem_of_getElem? e1)
    rw [upd_ne hne]
    exact (h.at_ k a c e1 e2).ext (List.prefix_refl _) (Step.laid hp).ext⟩
theorem stab_laid (h : StOk K ca as H st) {p : Addr} {o : HO} (hp : H p = none) : stab as (upd H p o) p = some o := by
  rw [stab_out (h.free hp) (h.freeH hp), upd_same]
/-- a new thing that is changed later -/
abbrev Wl.add (as : Wl) (p : Addr) : Wl := ⟨as.as ++ [p], as.hs⟩
theorem Step.made {p : Addr} {o : HO} (hp : H p = none) : Step as H (as.add p) (upd H p o) := ⟨List.prefix_append _ _, rfl, fun a h n => by
    rcases List.mem_append.mp h with h | h
    · exact (n h).elim
    · rw [List.mem_singleton.mp h]; exact hp, fun a u _ e => by rw [upd_ne (ne_of_none e hp)]; exact e⟩
theorem StOk.made (h : StOk K ca as H st) {p : Addr} {o : HO} {c : Cell} (hp : H p = none) (hc : CellOk K ca as (stab as H) p (some o) c) : StOk K ca (as.add p) (upd H p o) (st ++ [c]) := by
  have hn := h.free hp
  have sp := Step.made (as := as) (o := o) hp
  refine ⟨List.nodup_append.mpr ⟨h.nd, by simp, fun a ha b hb => by rw [List.mem_singleton.mp hb]; exact fun z => hn (z ▸ ha)⟩, by simp [h.len], h.hidS sp, fun k a c' e1 e2 => ?_⟩
  by_cases hk : k < as.as.length
  · rw [List.getElem?_append_left hk] at e1
    rw [List.getElem?_append_left (by rw [← h.len]; exact hk)] at e2
    have hne : a ≠ p := fun z => hn (z ▸ List.mem_of_getElem? e1)
    rw [upd_ne hne]
    exact (h.at_ k a c' e1 e2).ext sp.pre sp.ext
  · have hk' : k = as.as.length := by
      have := (List.getElem?_eq_some_iff.mp e1).1
      simp at this
      omega
    subst hk'
    rw [List.getElem?_append_right (Nat.le_refl _)] at e1
    rw [List.getElem?_append_right (by rw [h.len]; exact Nat.le_refl _)] at e2
    simp [h.len] at e1 e2
    subst e1 e2
    rw [upd_same]
    exact hc.ext sp.pre sp.ext
/-- a thing is changed -/
theorem Step.chg {k : Nat} {a : Addr} {o : HO} (e : as.as[k]? = some a) : Step as H as (upd H a o) := ⟨List.prefix_refl _, rfl, fun _ h n => (n h).elim, fun b u hb q => by rw [upd_ne (fun z => hb (by rw [z]; exact List.mem_of_getElem? e))]; exact q⟩
theorem StOk.chg (h : StOk K ca as H st) {k : Nat} {a : Addr} {o : HO} {c : Cell} (e : as.as[k]? = some a) (hc : CellOk K ca as (stab as H) a (some o) c) : StOk K ca as (upd H a o) (st.set k c) := by
  have sp := Step.chg (as := as) (H := H) (o := o) e
  refine ⟨h.nd, by simp [h.len], h.hidS sp, fun j b c' e1 e2 => ?_⟩
  by_cases hj : j = k
  · subst hj
    rw [e] at e1
    cases e1
    rw [upd_same]
    have hl : j < st.length := by rw [← h.len]; exact (List.getElem?_eq_some_iff.mp e).1
    rw [List.getElem?_set_self hl] at e2
    cases e2
    exact hc.ext sp.pre sp.ext
  · rw [List.getElem?_set_ne (Ne.symm hj)] at e2
    have hne : b ≠ a := fun z => by
      subst z
      exact hj (nd_ix h.nd e1 e)
    rw [upd_ne hne]
    exact (h.at_ j b c' e1 e2).ext sp.pre sp.ext
end

/-! ### what is wanted behind -/
def ErrOk (K : PySem.W.Frag) (ca : Ca) (as : Wl) (G : Hp) (cls : Value) (dd : Option Addr) (c : Nat) (fs : List (Str × D)) : Prop :=
  cls = .ref (ca c) ∧ ((fs = [] ∧ dd = none) ∨ ∃ p vs, dd = some p ∧ G p = some (.xd vs) ∧ IsFs K ca as G vs fs)
theorem ErrOk.ext {K : PySem.W.Frag} {ca : Ca} {as as' : Wl} {G G' : Hp} {cls : Value} {dd : Option Addr} {c : Nat} {fs : List (Str × D)} (p : as.as <+: as'.as) (e : Ext G G') (h : ErrOk K ca as G cls dd c fs) : ErrOk K ca as' G' cls dd c fs := by
  refine ⟨h.1, ?_⟩
  rcases h.2 with h | ⟨q, vs, h1, h2, h3⟩
  · exact .inl h
  · exact .inr ⟨q, vs, h1, e _ _ h2, h3.ext p e⟩
/-- behind something that hands back a thing of kind α (Is: what stands for it), at the slots σ; W: the wish about exceptions -/
def Post {α β : Type} (K : PySem.W.Frag) (ca : Ca) (W : WX) (Is : Wl → Hp → β → α → Prop) (as : Wl) (H : Hp) (σ : L2.St) : Option (R α) → (β → Hp → Prop) → Prop
  | none, _ => False
  | some (.ok d st), Q => ∀ v as' H', Step as H as' H' → StOk K ca as' H' st → Is as' (stab as' H') v d → Q v H'
  | some (.err c fs st), _ => ∀ cls dd as' H', Step as H as' H' → StOk K ca as' H' st → ErrOk K ca as' (stab as' H') cls dd c fs → W cls dd σ H'
section
variable {K : PySem.W.Frag} {ca : Ca} {W : WX} {α β γ δ : Type} {Is : Wl → Hp → β → α → Prop} {Js : Wl → Hp → δ → γ → Prop} {as as' : Wl} {H H' : Hp} {σ : L2.St} {m : Option (R α)} {Q : β → Hp → Prop}
theorem Post.step (h : Post K ca W Is as H σ m Q) (s : Step as H as' H') : Post K ca W Is as' H' σ m Q := by
  cases m with
  | none => exact h
  | some r =>
    cases r with
    | ok d st => exact fun v a2 H2 s2 k i => h v a2 H2 (s.trans s2) k i
    | err c fs st => exact fun cls dd a2 H2 s2 k i => h cls dd a2 H2 (s.trans s2) k i
theorem Post.bnd {g : α → Sta → Option (R γ)} {Q2 : δ → Hp → Prop} (h : Post K ca W Js as H σ (bnd m g) Q2)
    (k : ∀ d st v as1 H1, Step as H as1 H1 → StOk K ca as1 H1 st → Is as1 (stab as1 H1) v d → Post K ca W Js as1 H1 σ (g d st) Q2 → Q v H1) : Post K ca W Is as H σ m Q := by
  cases m with
  | none => exact h
  | some r =>
    cases r with
    | ok d st => exact fun v a2 H2 s2 ok i => k d st v a2 H2 s2 ok i (Post.step h s2)
    | err c fs st => exact h
theorem Post.here {st : Sta} {d : α} {v : β} (h : Post K ca W Is as H σ (some (.ok d st)) Q) (ok : StOk K ca as H st) (i : Is as (stab as H) v d) : Q v H := h v as H (Step.refl _ _) ok i
end

/-! ### judgements -/
abbrev IsB : Wl → Hp → Bool → Bool → Prop := fun _ _ v d => v = d
def EvS (K : PySem.W.Frag) (ca : Ca) (W : WX) (te : TE) (f : F D) : Prop :=
  ∀ as H σ env st Q, EnvOk K ca as (stab as H) σ env → StOk K ca as H st → Post K ca W (IsD K ca) as H σ (f env st) Q → te σ H Q
def TvS (K : PySem.W.Frag) (ca : Ca) (W : WX) (tt : TT) (f : F Bool) : Prop :=
  ∀ as H σ env st Q, EnvOk K ca as (stab as H) σ env → StOk K ca as H st → Post K ca W IsB as H σ (f env st) Q → tt σ H Q
def AvS (K : PySem.W.Frag) (ca : Ca) (W : WX) (ta : TA) (f : F (List D)) : Prop :=
  ∀ as H σ env st Q, EnvOk K ca as (stab as H) σ env → StOk K ca as H st → Post K ca W (IsDs K ca) as H σ (f env st) Q → ta σ H Q
/-- two values, one value, a list of values -/
def Rv2 (K : PySem.W.Frag) (ca : Ca) (W : WX) (r : R2) (op : D → D → Sta → Option (R D)) : Prop :=
  ∀ as H σ st v u x y Q, StOk K ca as H st → IsD K ca as (stab as H) v x → IsD K ca as (stab as H) u y → Post K ca W (IsD K ca) as H σ (op x y st) Q → r v u H Q
def Rv1 (K : PySem.W.Frag) (ca : Ca) (W : WX) (r : V → Hp → VK → Prop) (op : D → Sta → Option (R D)) : Prop :=
  ∀ as H σ st v x Q, StOk K ca as H st → IsD K ca as (stab as H) v x → Post K ca W (IsD K ca) as H σ (op x st) Q → r v H Q
def RvN (K : PySem.W.Frag) (ca : Ca) (W : WX) (r : List V → Hp → VK → Prop) (op : List D → Sta → Option (R D)) : Prop :=
  ∀ as H σ st v x Q, StOk K ca as H st → IsDs K ca as (stab as H) v x → Post K ca W (IsD K ca) as H σ (op x st) Q → r v H Q

def JE (ca : Ca) (X : Cx) (W : WX) (e : Expr) (f : F D) : Prop := ∃ te, PE X e te ∧ EvS X.K ca W te f
def JT (ca : Ca) (X : Cx) (W : WX) (e : Expr) (f : F Bool) : Prop := ∃ te, PT X e te ∧ TvS X.K ca W te f
def JW (ca : Ca) (X : Cx) (W : WX) (e : Expr) (f : F Bool) : Prop := ∃ te, PW X e te ∧ TvS X.K ca W te f
def JA (ca : Ca) (X : Cx) (W : WX) (es : List Expr) (f : F (List D)) : Prop := ∃ te, PA X es te ∧ AvS X.K ca W te f

/-! ### the meanings -/
def fVar (i : Nat) : F D := fun env st => match env[i]? with | some (some d) => some (.ok d st) | _ => none
def fC (d : D) : F D := fun _ st => some (.ok d st)
def f2 (op : D → D → Sta → Option (R D)) (fa fb : F D) : F D := fun env st => bnd (fa env st) fun x st => bnd (fb env st) fun y st => op x y st
def f1 (op : D → Sta → Option (R D)) (fa : F D) : F D := fun env st => bnd (fa env st) fun x st => op x st
def fNil : F (List D) := fun _ st => some (.ok [] st)
def fCons (fa : F D) (fr : F (List D)) : F (List D) := fun env st => bnd (fa env st) fun x st => bnd (fr env st) fun xs st => some (.ok (x :: xs) st)
def fN (op : List D → Sta → Option (R D)) (fa : F (List D)) : F D := fun env st => bnd (fa env st) fun xs st => op xs st
def fTest (fa : F D) : F Bool := fun env st => bnd (fa env st) fun x st => match x with | .bl b => some (.ok b st) | _ => none
def fAnd (t u : F Bool) : F Bool := fun env st => bnd (t env st) fun b st => match b with | true => u env st | false => some (.ok false st)
def fOr (t u : F Bool) : F Bool := fun env st => bnd (t env st) fun b st => match b with | true => some (.ok true st) | false => u env st
def fNot (t : F Bool) : F Bool := fun env st => bnd (t env st) fun b st => some (.ok (!b) st)
def fAndV (t u : F D) : F D := fun env st => bnd (t env st) fun x st => match x with | .bl true => u env st | .bl false => some (.ok (.bl false) st) | _ => none
def fOrV (t u : F D) : F D := fun env st => bnd (t env st) fun x st => match x with | .bl true => some (.ok (.bl true) st) | .bl false => u env st | _ => none
def fNotV (t : F D) : F D := fun env st => bnd (t env st) fun x st => match x with | .bl b => some (.ok (.bl (!b)) st) | _ => none
def fIf (t : F Bool) (fa fb : F D) : F D := fun env st => bnd (t env st) fun b st => match b with | true => fa env st | false => fb env st
section
variable {ca : Ca} {X : Cx} {W : WX} {a b e c : Expr} {es : List Expr} {fa fb fc : F D} {pos : Pos}
theorem je_of {te : TE} (h : PE X e te) (s : EvS X.K ca W te fa) : JE ca X W e fa := ⟨te, h, s⟩
theorem je_var (i : Nat) {x : Str} (hN : X.N[i]? = some x := by rfl) (hv : Vis X.env.scope x := by first | exact Or.inl rfl | exact Or.inr (Or.inl rfl) | exact Or.inr (Or.inr rfl)) (hd : (x == ("__debug__" : Str)) = false := by decide)
    (hcd : (x == ("__classdict__" : Str)) = false := by decide) : JE ca X W (.Name x pos) (fVar i) := ⟨_, pe_var hN hv hd hcd, fun as H σ env st Q he hs hp => by
  unfold fVar at hp
  split at hp
  · rename_i d e
    obtain ⟨v, e1, q⟩ := he.at_ i d e
    exact ⟨v, e1, hp.here hs q⟩
  · exact hp.elim⟩
theorem evs_c {v : V} {d : D} (h : ∀ as G, IsD X.K ca as G v d) : EvS X.K ca W (tC v) (fC d) := fun as H σ env st Q he hs hp => hp.here hs (h _ _)
theorem je_int {i : Int} {j} : JE ca X W (.Constant (.int i) j pos) (fC (.int i)) := ⟨_, pe_int, evs_c fun _ _ => .int i⟩
theorem je_bl {b : Bool} {j} : JE ca X W (.Constant (.bool b) j pos) (fC (.bl b)) := ⟨_, pe_bl, evs_c fun _ _ => .bl b⟩
theorem je_non {j} : JE ca X W (.Constant .none j pos) (fC .non) := ⟨_, pe_non, evs_c fun _ _ => .non⟩
theorem je_str {x : Str} {j} : JE ca X W (.Constant (.str x) j pos) (fC (.str x)) := ⟨_, pe_str, evs_c fun _ _ => .str x⟩
theorem evs2 {ta tb : TE} {K : PySem.W.Frag} {r : R2} {op : D → D → Sta → Option (R D)} (ha : EvS K ca W ta fa) (hb : EvS K ca W tb fb) (hr : Rv2 K ca W r op) : EvS K ca W (tOp r ta tb) (f2 op fa fb) := fun as H σ env st Q he hs hp => by
  refine ha as H σ env st _ he hs (Post.bnd hp fun x st1 v as1 H1 s1 k1 i1 p1 => ?_)
  refine hb as1 H1 σ env st1 _ (he.step s1) k1 (Post.bnd p1 fun y st2 u as2 H2 s2 k2 i2 p2 => ?_)
  exact hr as2 H2 σ st2 v u x y Q k2 (i1.step s2) i2 p2
theorem evs1 {ta : TE} {K : PySem.W.Frag} {r : V → Hp → VK → Prop} {op : D → Sta → Option (R D)} (ha : EvS K ca W ta fa) (hr : Rv1 K ca W r op) : EvS K ca W (tUn r ta) (f1 op fa) := fun as H σ env st Q he hs hp => by
  refine ha as H σ env st _ he hs (Post.bnd hp fun x st1 v as1 H1 s1 k1 i1 p1 => ?_)
  exact hr as1 H1 σ st1 v x Q k1 i1 p1
theorem je_op {op : Operator} {r : R2} {o : D → D → Sta → Option (R D)} (ho : OpR X (binaryOp op) r) (hr : Rv2 X.K ca W r o) (ha : JE ca X W a fa) (hb : JE ca X W b fb) : JE ca X W (.BinOp a op b pos) (f2 o fa fb) := by
  obtain ⟨ta, pa, sa⟩ := ha
  obtain ⟨tb, pb, sb⟩ := hb
  exact ⟨_, pe_op ho pa pb, evs2 sa sb hr⟩
theorem je_un {op : UnaryOp} {r : V → Hp → VK → Prop} {o : D → Sta → Option (R D)} (ho : UnR X (unaryOp op) r) (hr : Rv1 X.K ca W r o) (ha : JE ca X W a fa) : JE ca X W (.UnaryOp op a pos) (f1 o fa) := by
  obtain ⟨ta, pa, sa⟩ := ha
  exact ⟨_, pe_un ho pa, evs1 sa hr⟩
theorem je_cmp {op : CmpOp} {r : R2} {o : D → D → Sta → Option (R D)} (ho : OpR X (compareOp op) r) (hr : Rv2 X.K ca W r o) (ha : JE ca X W a fa) (hb : JE ca X W b fb) (hm : behindInMarks op b = false) : JE ca X W (.Compare a [op] [b] pos) (f2 o fa fb) := by
  obtain ⟨ta, pa, sa⟩ := ha
  obtain ⟨tb, pb, sb⟩ := hb
  exact ⟨_, pe_cmpR ho pa pb hm, evs2 sa sb hr⟩
theorem tvs_test {ta : TE} {K : PySem.W.Frag} (ha : EvS K ca W ta fa) : TvS K ca W (tTest ta) (fTest fa) := fun as H σ env st Q he hs hp => by
  refine ha as H σ env st _ he hs (Post.bnd hp fun x st1 v as1 H1 s1 k1 i1 p1 => ?_)
  cases i1 with
  | bl b => exact ⟨b, rfl, p1.here k1 rfl⟩
  | _ => exact False.elim p1
theorem jt_cmp {op : CmpOp} {r : R2} {o : D → D → Sta → Option (R D)} (ho : OpR X (compareOp op) r) (hr : Rv2 X.K ca W r o) (ha : JE ca X W a fa) (hb : JE ca X W b fb) (hm : behindInMarks op b = false) : JT ca X W (.Compare a [op] [b] pos) (fTest (f2 o fa fb)) := by
  obtain ⟨ta, pa, sa⟩ := ha
  obtain ⟨tb, pb, sb⟩ := hb
  exact ⟨_, pt_cmpR ho pa pb hm, tvs_test (evs2 sa sb hr)⟩
theorem jt_val (h : JE ca X W e fa) (he : ∀ whole, isTrue e X.env whole = (do let v ← whole; standAt e.pos; holding [v] (truthy v)) := by intro _; rfl) : JT ca X W e (fTest fa) := by
  obtain ⟨ta, pa, sa⟩ := h
  exact ⟨_, pt_val pa he, tvs_test sa⟩
variable {ft fu : F Bool} {rest : List Expr}
theorem jw_pt (h : JW ca X W e ft) : JT ca X W e ft := let ⟨t, p, s⟩ := h; ⟨t, p.pt, s⟩
theorem jw_and1 (h : JT ca X W a ft) : JW ca X W (.BoolOp .And [a] pos) ft := let ⟨t, p, s⟩ := h; ⟨t, pw_and1 p, s⟩
theorem jw_or1 (h : JT ca X W a ft) : JW ca X W (.BoolOp .Or [a] pos) ft := let ⟨t, p, s⟩ := h; ⟨t, pw_or1 p, s⟩
theorem tvs_and {t u : TT} {K : PySem.W.Frag} (h1 : TvS K ca W t ft) (h2 : TvS K ca W u fu) : TvS K ca W (tAnd t u) (fAnd ft fu) := fun as H σ env st Q he hs hp => by
  refine h1 as H σ env st _ he hs (Post.bnd hp fun x st1 v as1 H1 s1 k1 i1 p1 => ?_)
  cases (show v = x from i1)
  cases x with
  | true => exact iteT (h2 as1 H1 σ env st1 Q (he.step s1) k1 p1)
  | false => exact iteF (p1.here k1 rfl)
theorem tvs_or {t u : TT} {K : PySem.W.Frag} (h1 : TvS K ca W t ft) (h2 : TvS K ca W u fu) : TvS K ca W (tOr t u) (fOr ft fu) := fun as H σ env st Q he hs hp => by
  refine h1 as H σ env st _ he hs (Post.bnd hp fun x st1 v as1 H1 s1 k1 i1 p1 => ?_)
  cases (show v = x from i1)
  cases x with
  | false => exact iteF (h2 as1 H1 σ env st1 Q (he.step s1) k1 p1)
  | true => exact iteT (p1.here k1 rfl)
theorem jw_and (h1 : JT ca X W a ft) (h2 : JW ca X W (.BoolOp .And (b :: rest) pos) fu) : JW ca X W (.BoolOp .And (a :: b :: rest) pos) (fAnd ft fu) := by
  obtain ⟨t, p, s⟩ := h1
  obtain ⟨u, q, r⟩ := h2
  exact ⟨_, pw_and p q, tvs_and s r⟩
theorem jw_or (h1 : JT ca X W a ft) (h2 : JW ca X W (.BoolOp .Or (b :: rest) pos) fu) : JW ca X W (.BoolOp .Or (a :: b :: rest) pos) (fOr ft fu) := by
  obtain ⟨t, p, s⟩ := h1
  obtain ⟨u, q, r⟩ := h2
  exact ⟨_, pw_or p q, tvs_or s r⟩
theorem jt_not (h1 : JT ca X W a ft) : JT ca X W (.UnaryOp .Not a pos) (fNot ft) := by
  obtain ⟨t, p, s⟩ := h1
  refine ⟨_, pt_not p, fun as H σ env st Q he hs hp => ?_⟩
  refine s as H σ env st _ he hs (Post.bnd hp fun x st1 v as1 H1 s1 k1 i1 p1 => ?_)
  cases (show v = x from i1)
  exact p1.here k1 rfl
theorem je_one {op} (h : JE ca X W a fa) : JE ca X W (.BoolOp op [a] pos) fa := let ⟨t, p, s⟩ := h; ⟨t, pe_one p, s⟩
theorem je_and (h1 : JE ca X W a fa) (h2 : JE ca X W (.BoolOp .And (b :: rest) pos) fb) : JE ca X W (.BoolOp .And (a :: b :: rest) pos) (fAndV fa fb) := by
  obtain ⟨t, p, s⟩ := h1
  obtain ⟨u, q, r⟩ := h2
  refine ⟨_, pe_and p q, fun as H σ env st Q he hs hp => ?_⟩
  refine s as H σ env st _ he hs (Post.bnd hp fun x st1 v as1 H1 s1 k1 i1 p1 => ?_)
  cases i1 with
  | bl b =>
    refine ⟨b, rfl, ?_⟩
    cases b with
    | true => exact iteT (r as1 H1 σ env st1 Q (he.step s1) k1 p1)
    | false => exact iteF (p1.here k1 (.bl _))
  | _ => exact False.elim p1
theorem je_or (h1 : JE ca X W a fa) (h2 : JE ca X W (.BoolOp .Or (b :: rest) pos) fb) : JE ca X W (.BoolOp .Or (a :: b :: rest) pos) (fOrV fa fb) := by
  obtain ⟨t, p, s⟩ := h1
  obtain ⟨u, q, r⟩ := h2
  refine ⟨_, pe_or p q, fun as H σ env st Q he hs hp => ?_⟩
  refine s as H σ env st _ he hs (Post.bnd hp fun x st1 v as1 H1 s1 k1 i1 p1 => ?_)
  cases i1 with
  | bl b =>
    refine ⟨b, rfl, ?_⟩
    cases b with
    | true => exact iteT (p1.here k1 (.bl _))
    | false => exact iteF (r as1 H1 σ env st1 Q (he.step s1) k1 p1)
  | _ => exact False.elim p1
theorem je_not (h1 : JE ca X W a fa) : JE ca X W (.UnaryOp .Not a pos) (fNotV fa) := by
  obtain ⟨t, p, s⟩ := h1
  refine ⟨_, pe_not p, fun as H σ env st Q he hs hp => ?_⟩
  refine s as H σ env st _ he hs (Post.bnd hp fun x st1 v as1 H1 s1 k1 i1 p1 => ?_)
  cases i1 with
  | bl b => exact ⟨b, rfl, p1.here k1 (.bl _)⟩
  | _ => exact False.elim p1
theorem je_if (h : JT ca X W c ft) (h1 : JE ca X W a fa) (h2 : JE ca X W b fb) : JE ca X W (.IfExp c a b pos) (fIf ft fa fb) := by
  obtain ⟨t, p, s⟩ := h
  obtain ⟨t1, p1, s1⟩ := h1
  obtain ⟨t2, p2, s2⟩ := h2
  refine ⟨_, pe_ifExp p p1 p2, fun as H σ env st Q he hs hp => ?_⟩
  refine s as H σ env st _ he hs (Post.bnd hp fun x st1 v as1 H1 w1 k1 i1 q1 => ?_)
  cases (show v = x from i1)
  cases x with
  | true => exact iteT (s1 as1 H1 σ env st1 Q (he.step w1) k1 q1)
  | false => exact iteF (s2 as1 H1 σ env st1 Q (he.step w1) k1 q1)
theorem ja_nil : JA ca X W [] fNil := ⟨_, pa_nil, fun as H σ env st Q he hs hp => hp.here hs .nil⟩
theorem ja_cons {fr : F (List D)} (h1 : JE ca X W e fa) (h2 : JA ca X W es fr) (hs : starEach (e :: es) X.env = (false, eval e X.env) :: starEach es X.env := by rfl) : JA ca X W (e :: es) (fCons fa fr) := by
  obtain ⟨t, p, s⟩ := h1
  obtain ⟨u, q, r⟩ := h2
  refine ⟨_, pa_cons p q hs, fun as H σ env st Q he hs hp => ?_⟩
  refine s as H σ env st _ he hs (Post.bnd hp fun x st1 v as1 H1 s1 k1 i1 p1 => ?_)
  refine r as1 H1 σ env st1 _ (he.step s1) k1 (Post.bnd p1 fun y st2 u as2 H2 s2 k2 i2 p2 => ?_)
  exact p2.here k2 (.cons (i1.step s2) i2)
/-- a display -/
def fTup (fa : F (List D)) : F D := fun env st => bnd (fa env st) fun xs st => if xs.length ≤ 100000 then some (.ok (.tup xs) st) else none
def fLst (fa : F (List D)) : F D := fun env st => bnd (fa env st) fun xs st => if xs.length ≤ 100000 then some (.ok (.lst xs) st) else none
/-- a list that is changed later -/
def fNew (fa : F (List D)) : F D := fun env st => bnd (fa env st) fun xs st => if xs.length ≤ 100000 then some (.ok (.cell st.length) (st ++ [.lst xs])) else none
theorem sz_of {n : Nat} (h : n ≤ 100000) : n ≤ sizeLine := Nat.le_trans h (by decide)
variable {fs : F (List D)}
theorem je_tup {x1} (h : JA ca X W es fs) : JE ca X W (.Tuple es x1 pos) (fTup fs) := by
  obtain ⟨t, p, s⟩ := h
  refine ⟨_, pe_tup p, fun as H σ env st Q he hs hp => ?_⟩
  refine s as H σ env st _ he hs (Post.bnd hp fun x st1 v as1 H1 s1 k1 i1 p1 => ?_)
  by_cases hl : x.length ≤ 100000
  · rw [if_pos hl] at p1
    refine ⟨sz_of (by rw [i1.len]; exact hl), fun q hq => ?_⟩
    exact p1 _ as1 _ (Step.laid hq) (k1.laid hq) (.tup (.inl (.inl (stab_laid k1 hq))) (i1.step (Step.laid hq)))
  · rw [if_neg hl] at p1
    exact p1.elim
theorem je_lst (h : JA ca X W es fs) : JE ca X W (.List es pos) (fLst fs) := by
  obtain ⟨t, p, s⟩ := h
  refine ⟨_, pe_lst p, fun as H σ env st Q he hs hp => ?_⟩
  refine s as H σ env st _ he hs (Post.bnd hp fun x st1 v as1 H1 s1 k1 i1 p1 => ?_)
  by_cases hl : x.length ≤ 100000
  · rw [if_pos hl] at p1
    refine ⟨sz_of (by rw [i1.len]; exact hl), fun q hq => ?_⟩
    exact p1 _ as1 _ (Step.laid hq) (k1.laid hq) (.lst (stab_laid k1 hq) (i1.step (Step.laid hq)))
  · rw [if_neg hl] at p1
    exact p1.elim
theorem made_get {as : Wl} {p : Addr} : (as.add p).as[as.as.length]? = some p := by simp
theorem je_new (h : JA ca X W es fs) : JE ca X W (.List es pos) (fNew fs) := by
  obtain ⟨t, p, s⟩ := h
  refine ⟨_, pe_lst p, fun as H σ env st Q he hs hp => ?_⟩
  refine s as H σ env st _ he hs (Post.bnd hp fun x st1 v as1 H1 s1 k1 i1 p1 => ?_)
  by_cases hl : x.length ≤ 100000
  · rw [if_pos hl] at p1
    refine ⟨sz_of (by rw [i1.len]; exact hl), fun q hq => ?_⟩
    exact p1 _ _ _ (Step.made hq) (k1.made (c := .lst x) hq i1) (.cell (by rw [← k1.len]; exact made_get))
  · rw [if_neg hl] at p1
    exact p1.elim
end
end DS

namespace DS
open PySem L2
/-! ### operations -/
mutual
def toP : D → Option PyData
  | .non => some .none
  | .bl b => some (.bool b)
  | .int i => some (.int i)
  | .str x => some (.str x)
  | .tup ds => (toPs ds).map .tuple
  | .lst ds => (toPs ds).map .list
  | .fls ds => (toPs ds).map .list
  | .ins _ _ => none
  | .cell _ => none
  | .opq _ _ => none
  | .dic _ _ => none
  | .dik _ _ => none
  | .lok _ _ => none
def toPs : List D → Option (List PyData)
  | [] => some []
  | d :: ds => (toP d).bind fun p => (toPs ds).map fun ps => p :: ps
end
section
variable {K : PySem.W.Frag} {ca : Ca} {as as' : Wl} {G H : Hp}
mutual
theorem IsD.dp (e : Ext G H) {v : V} {d : D} {p : PyData} (h : IsD K ca as G v d) (hp : toP d = some p) : Dp K H v p := by
  cases h with
  | non => unfold toP at hp; cases hp; exact .non
  | bl b => unfold toP at hp; cases hp; exact .bl b
  | int i => unfold toP at hp; cases hp; exact .int i
  | str x => unfold toP at hp; cases hp; exact .str x
  | tup h1 h2 =>
    unfold toP at hp
    obtain ⟨ps, e1, e2⟩ := Option.map_eq_some_iff.mp hp
    subst e2
    exact .tup (ext_t e h1) (IsDs.dp e h2 e1)
  | lst h1 h2 =>
    unfold toP at hp
    obtain ⟨ps, e1, e2⟩ := Option.map_eq_some_iff.mp hp
    subst e2
    exact .lst (SqL.of (e _ _ h1)) (IsDs.dp e h2 e1)
  | fls h1 h2 =>
    unfold toP at hp
    obtain ⟨ps, e1, e2⟩ := Option.map_eq_some_iff.mp hp
    subst e2
    exact .lst (ext_l e h1) (IsDs.dp e h2 e1)
  | ins => unfold toP at hp; cases hp
  | cell => unfold toP at hp; cases hp
  | opq0 => unfold toP at hp; cases hp
  | opq1 => unfold toP at hp; cases hp
  | dic => unfold toP at hp; cases hp
  | dik => unfold toP at hp; cases hp
  | lok => unfold toP at hp; cases hp
theorem IsDs.dp (e : Ext G H) {vs : List V} {ds : List D} {ps : List PyData} (h : IsDs K ca as G vs ds) (hp : toPs ds = some ps) : DpAll K H vs ps := by
  cases h with
  | nil => unfold toPs at hp; cases hp; exact .nil
  | cons h1 h2 =>
    unfold toPs at hp
    obtain ⟨p, e1, e2⟩ := Option.bind_eq_some_iff.mp hp
    obtain ⟨qs, e3, e4⟩ := Option.map_eq_some_iff.mp e2
    subst e4
    exact .cons (IsD.dp e h1 e1) (IsDs.dp e h2 e3)
end
end
def ret (d : D) (st : Sta) : Option (R D) := some (.ok d st)
def eqD (x y : D) : Option Bool := match toP x, toP y with
  | some p, some q => if SeqAt.shaped p = true ∧ SeqAt.shaped q = true then some (PyData.eqv p q) else none
  | _, _ => none
def oEq (x y : D) (st : Sta) : Option (R D) := match eqD x y with | some b => ret (.bl b) st | none => none
def oNe (x y : D) (st : Sta) : Option (R D) := match eqD x y with | some b => ret (.bl (!b)) st | none => none
def oI (g : Int → Int → D) (x y : D) (st : Sta) : Option (R D) := match x, y with | .int i, .int j => ret (g i j) st | _, _ => none
def oLt := oI fun i j => .bl (decide (i < j))
def oLe := oI fun i j => .bl (decide (i ≤ j))
def oGt := oI fun i j => .bl (decide (j < i))
def oGe := oI fun i j => .bl (decide (j ≤ i))
def oSub := oI fun i j => .int (i - j)
def oMod (x y : D) (st : Sta) : Option (R D) := match x, y with | .int i, .int j => if 0 < j then ret (.int (i % j)) st else none | _, _ => none
def oDiv (x y : D) (st : Sta) : Option (R D) := match x, y with | .int i, .int j => if 0 < j ∧ j < 1073741824 then ret (.int (i / j)) st else none | _, _ => none
def oPow (x y : D) (st : Sta) : Option (R D) := match x, y with | .int i, .int j => if 0 ≤ j ∧ j ≤ 1000000 ∧ i.natAbs < 2 ^ 64 then ret (.int (i ^ j.toNat)) st else none | _, _ => none
def oNeg (x : D) (st : Sta) : Option (R D) := match x with | .int i => ret (.int (-i)) st | _ => none
def LIM : Nat := 100000
def oAdd (x y : D) (st : Sta) : Option (R D) := match x, y with
  | .int i, .int j => ret (.int (i + j)) st
  | .tup a, .tup b => if a.length + b.length ≤ 100000 then ret (.tup (a ++ b)) st else none
  | .lst a, .lst b => if a.length + b.length ≤ 100000 then ret (.lst (a ++ b)) st else none
  | .str a, .str b => if a.length + b.length ≤ 100000 then ret (.str (a ++ b)) st else none
  | _, _ => none
def oMul (x y : D) (st : Sta) : Option (R D) := match x, y with
  | .int i, .int j => if (-(2 ^ 64) < i ∧ i < 2 ^ 64) ∨ (-(2 ^ 64) < j ∧ j < 2 ^ 64) then ret (.int (i * j)) st else none
  | .tup a, .int k => if a ≠ [] ∧ 2 ≤ k ∧ k ≤ 1000 ∧ a.length ≤ 1000 then ret (.tup (List.replicate k.toNat a).flatten) st else if a ≠ [] ∧ k = 1 then ret (.tup a) st else none
  | .lst a, .int k => if 0 ≤ k ∧ k ≤ 1000 ∧ a.length * k.toNat ≤ 100000 then ret (.lst (List.replicate k.toNat a).flatten) st else none
  | _, _ => none
def oIsN (x y : D) (st : Sta) : Option (R D) := match x, y with | .non, .non => ret (.bl true) st | _, .non => ret (.bl false) st | _, _ => none
def oNotN (x y : D) (st : Sta) : Option (R D) := match x, y with | .non, .non => ret (.bl false) st | _, .non => ret (.bl true) st | _, _ => none
/-- what can be looked into: its members -/
def seqOf (x : D) (st : Sta) : Option (List D) := match x with
  | .tup a => some a
  | .lst a => some a
  | .fls a => some a
  | .cell k => match st[k]? with | some (.lst a) => some a | _ => none
  | _ => none
def oIx (x i : D) (st : Sta) : Option (R D) := match i with
  | .int i => match seqOf x st with
    | some a => match atI a i with | some d => ret d st | none => none
    | none => none
  | _ => none
def flatD : D → Bool
  | .non => true | .bl _ => true | .int _ => true | .str _ => true | _ => false
def eqF (x y : D) : Bool := match x, y with
  | .non, .non => true
  | .bl a, .bl b => a == b
  | .int a, .int b => a == b
  | .str a, .str b => a == b
  | .bl a, .int b => (if a then 1 else 0) == b
  | .int a, .bl b => a == (if b then 1 else 0)
  | _, _ => false
def oIn (x y : D) (st : Sta) : Option (R D) := match seqOf y st with
  | some a => if flatD x = true ∧ a.all flatD = true then ret (.bl (a.any fun z => eqF z x)) st else none
  | none => none
def oNotIn (x y : D) (st : Sta) : Option (R D) := match seqOf y st with
  | some a => if flatD x = true ∧ a.all flatD = true then ret (.bl (!(a.any fun z => eqF z x))) st else none
  | none => none

section
variable {K : PySem.W.Frag} {ca : Ca} {W : WX} {X : Cx}
/-- a union of readings: the value decides -/
theorem Rv2.mk {r : R2} {op : D → D → Sta → Option (R D)} (h : ∀ as H σ st v u x y (Q : VK), StOk K ca as H st → IsD K ca as (stab as H) v x → IsD K ca as (stab as H) u y → Post K ca W (IsD K ca) as H σ (op x y st) Q → r v u H Q) : Rv2 K ca W r op := h
theorem rv_I {g : Int → Int → D} {g' : Int → Int → V} (hg : ∀ i j as G, IsD K ca as G (g' i j) (g i j)) : Rv2 K ca W (rI0 g') (oI g) := by
  intro as H σ st v u x y Q k hx hy hp
  cases hx <;> cases hy <;> first | exact False.elim hp | exact ⟨_, _, rfl, rfl, hp.here k (hg _ _ _ _)⟩
theorem rv_lt : Rv2 K ca W (rI0 fun i j => .bl (decide (i < j))) oLt := rv_I fun _ _ _ _ => .bl _
theorem rv_le : Rv2 K ca W (rI0 fun i j => .bl (decide (i ≤ j))) oLe := rv_I fun _ _ _ _ => .bl _
theorem rv_gt : Rv2 K ca W (rI0 fun i j => .bl (decide (j < i))) oGt := rv_I fun _ _ _ _ => .bl _
theorem rv_ge : Rv2 K ca W (rI0 fun i j => .bl (decide (j ≤ i))) oGe := rv_I fun _ _ _ _ => .bl _
theorem rv_sub : Rv2 K ca W (rI0 fun i j => .int (i - j)) oSub := rv_I fun _ _ _ _ => .int _
theorem rv_mod : Rv2 K ca W (rI (fun _ j => 0 < j) fun i j => .int (i % j)) oMod := by
  intro as H σ st v u x y Q k hx hy hp
  cases hx <;> cases hy <;> first | exact False.elim hp | skip
  rename_i i j
  unfold oMod at hp
  by_cases h : 0 < j
  · simp only [if_pos h] at hp
    exact ⟨_, _, rfl, rfl, h, hp.here k (.int _)⟩
  · simp only [if_neg h] at hp
    exact hp.elim
theorem rv_div : Rv2 K ca W (rI CDiv fun i j => .int (i / j)) oDiv := by
  intro as H σ st v u x y Q k hx hy hp
  cases hx <;> cases hy <;> first | exact False.elim hp | skip
  rename_i i j
  unfold oDiv at hp
  by_cases h : 0 < j ∧ j < 1073741824
  · simp only [if_pos h] at hp
    exact ⟨_, _, rfl, rfl, h, hp.here k (.int _)⟩
  · simp only [if_neg h] at hp
    exact hp.elim
theorem rv_pow : Rv2 K ca W (rI CPow fun i j => .int (i ^ j.toNat)) oPow := by
  intro as H σ st v u x y Q k hx hy hp
  cases hx <;> cases hy <;> first | exact False.elim hp | skip
  rename_i i j
  unfold oPow at hp
  dsimp only at hp
  by_cases h : 0 ≤ j ∧ j ≤ 1000000 ∧ i.natAbs < 2 ^ 64
  · rw [if_pos h] at hp
    exact ⟨_, _, rfl, rfl, h, hp.here k (.int _)⟩
  · rw [if_neg h] at hp
    exact hp.elim
theorem rv_neg : Rv1 K ca W (rU fun i => .int (-i)) oNeg := by
  intro as H σ st v x Q k hx hp
  cases hx <;> first | exact False.elim hp | exact ⟨_, rfl, hp.here k (.int _)⟩
theorem rv_eq : Rv2 K ca W (rEqD K) oEq := by
  intro as H σ st v u x y Q k hx hy hp
  unfold oEq eqD at hp
  split at hp
  · rename_i b e
    split at e
    · rename_i p q e1 e2
      split at e
      · rename_i h
        cases e
        exact ⟨p, q, hx.dp (stab_sub _ _) e1, hy.dp (stab_sub _ _) e2, h.1, h.2, hp.here k (.bl _)⟩
      · cases e
    · cases e
  · exact hp.elim
theorem rv_ne : Rv2 K ca W (rNeD K) oNe := by
  intro as H σ st v u x y Q k hx hy hp
  unfold oNe eqD at hp
  split at hp
  · rename_i b e
    split at e
    · rename_i p q e1 e2
      split at e
      · rename_i h
        cases e
        exact ⟨p, q, hx.dp (stab_sub _ _) e1, hy.dp (stab_sub _ _) e2, h.1, h.2, hp.here k (.bl _)⟩
      · cases e
    · cases e
  · exact hp.elim
def rIsN' : R2 := fun x y H Q => y = .non ∧ Q (.bl (decide (x = .non))) H
def rNotN' : R2 := fun x y H Q => y = .non ∧ Q (.bl (!decide (x = .non))) H
theorem rv_isN : Rv2 K ca W rIsN' oIsN := by
  intro as H σ st v u x y Q k hx hy hp
  cases hx <;> cases hy <;> first | exact False.elim hp | exact ⟨rfl, hp.here k (.bl _)⟩
theorem rv_notN : Rv2 K ca W rNotN' oNotN := by
  intro as H σ st v u x y Q k hx hy hp
  cases hx <;> cases hy <;> first | exact False.elim hp | exact ⟨rfl, hp.here k (.bl _)⟩
theorem op_isN' : OpR X (compareOp .Is) rIsN' := op_isN
theorem op_notN' : OpR X (compareOp .IsNot) rNotN' := op_notN

/-- + -/
def rAddS : R2 := fun x y H Q => ∃ i j, x = .str i ∧ y = .str j ∧ i.length + j.length ≤ sizeLine ∧ Q (.str (i ++ j)) H
def rAddA (K : PySem.W.Frag) : R2 := fun x y H Q => (rI0 (fun i j => .int (i + j)) x y H Q ∨ rCatA K x y H Q) ∨ (rCat x y H Q ∨ rAddS x y H Q)
theorem op_addA : OpR X (binaryOp .Add) (rAddA X.K) := (op_add.or op_catA).or (op_cat.or op_add_str)
theorem IsDs.nil_iff {as : Wl} {G : Hp} {xs : List V} {ds : List D} (h : IsDs K ca as G xs ds) : xs = [] ↔ ds = [] := by
  cases h <;> simp
theorem rv_add : Rv2 K ca W (rAddA K) oAdd := by
  intro as H σ st v u x y Q k hx hy hp
  cases hx <;> cases hy <;> first | exact False.elim hp | skip
  · exact .inl (.inl ⟨_, _, rfl, rfl, hp.here k (.int _)⟩)
  · rename_i a b
    unfold oAdd at hp
    by_cases h : a.length + b.length ≤ 100000
    · simp only [if_pos h] at hp
      exact .inr (.inr ⟨_, _, rfl, rfl, sz_of h, hp.here k (.str _)⟩)
    · simp only [if_neg h] at hp
      exact hp.elim
  · rename_i p xs ds h1 h2 p' xs' ds' h1' h2'
    unfold oAdd at hp
    by_cases h : ds.length + ds'.length ≤ 100000
    · simp only [if_pos h] at hp
      refine .inl (.inr ⟨p, p', xs, xs', rfl, rfl, ext_t (stab_sub _ _) h1, ext_t (stab_sub _ _) h1', by rw [h2.len, h2'.len]; exact sz_of h, fun e => ?_, fun _ e => ?_, fun _ _ q hq => ?_⟩)
      · rw [h2.nil_iff] at e; subst e
        exact hp.here k (.tup h1' h2')
      · rw [h2'.nil_iff] at e; subst e
        rw [List.append_nil] at hp
        exact hp.here k (.tup h1 h2)
      · exact hp _ as _ (Step.laid hq) (k.laid hq) (.tup (.inl (.inl (stab_laid k hq))) ((h2.append h2').step (Step.laid hq)))
    · simp only [if_neg h] at hp
      exact hp.elim
  · rename_i p xs ds h1 h2 p' xs' ds' h1' h2'
    unfold oAdd at hp
    by_cases h : ds.length + ds'.length ≤ 100000
    · simp only [if_pos h] at hp
      refine .inr (.inl ⟨p, p', xs, xs', rfl, rfl, (stab_some h1).2.2, (stab_some h1').2.2, by rw [h2.len, h2'.len]; exact sz_of h, fun q hq => ?_⟩)
      exact hp _ as _ (Step.laid hq) (k.laid hq) (.lst (stab_laid k hq) ((h2.append h2').step (Step.laid hq)))
    · simp only [if_neg h] at hp
      exact hp.elim
theorem IsDs.rep {as : Wl} {G : Hp} {xs : List V} {ds : List D} (h : IsDs K ca as G xs ds) (n : Nat) : IsDs K ca as G (List.replicate n xs).flatten (List.replicate n ds).flatten := by
  induction n with
  | zero => exact .nil
  | succ n ih => rw [List.replicate_succ, List.replicate_succ, List.flatten_cons, List.flatten_cons]; exact h.append ih
/-- subscripts -/
theorem atI_is {as : Wl} {G : Hp} {xs : List V} {ds : List D} (h : IsDs K ca as G xs ds) {i : Int} {d : D} (e : atI ds i = some d) : ∃ v, atI xs i = some v ∧ IsD K ca as G v d := by
  unfold atI at e ⊢
  rw [h.len]
  cases q : ixN ds.length i with
  | none => rw [q] at e; cases e
  | some j =>
    rw [q] at e
    exact h.get (i := j) e
theorem seq_is {as : Wl} {H : Hp} {st : Sta} {v : V} {x : D} {a : List D} (k : StOk K ca as H st) (h : IsD K ca as (stab as H) v x) (e : seqOf x st = some a) :
    ∃ p xs, v = .ref p ∧ (SqL K H p xs ∨ SqT K H p xs) ∧ IsDs K ca as (stab as H) xs a := by
  cases h <;> first | (unfold seqOf at e; cases e; done) | skip
  · rename_i h1 h2
    unfold seqOf at e; cases e
    exact ⟨_, _, rfl, .inr (ext_t (stab_sub _ _) h1), h2⟩
  · rename_i h1 h2
    unfold seqOf at e; cases e
    exact ⟨_, _, rfl, .inl (SqL.of (stab_some h1).2.2), h2⟩
  · rename_i h1 h2
    unfold seqOf at e; cases e
    exact ⟨_, _, rfl, .inl (ext_l (stab_sub _ _) h1), h2⟩
  · rename_i p j h1
    unfold seqOf at e
    simp only at e
    split at e
    · rename_i b e2
      cases e
      have q := k.at_ j p _ h1 e2
      cases hq : H p with
      | none => rw [hq] at q; exact q.elim
      | some o =>
        rw [hq] at q
        cases o <;> first | exact False.elim q | exact ⟨_, _, rfl, .inl (SqL.of hq), q⟩
    · cases e
theorem rv_ix : Rv2 K ca W (rIx K) oIx := by
  intro as H σ st v u x y Q k hx hy hp
  cases hy <;> first | exact False.elim hp | skip
  rename_i i
  unfold oIx at hp
  simp only at hp
  split at hp
  · rename_i a ea
    obtain ⟨p, xs, rfl, hs, hd⟩ := seq_is k hx ea
    split at hp
    · rename_i d ed
      obtain ⟨w, ew, hw⟩ := atI_is hd ed
      rcases hs with hs | hs
      · exact .inl ⟨p, xs, i, w, rfl, rfl, hs, ew, hp.here k hw⟩
      · exact .inr (.inl ⟨p, xs, i, w, rfl, rfl, hs, ew, hp.here k hw⟩)
    · exact hp.elim
  · exact hp.elim
theorem flat_is {as : Wl} {G : Hp} {v : V} {d : D} (h : IsD K ca as G v d) (f : flatD d = true) : flatV v = true := by
  cases h <;> first | rfl | exact absurd f (by unfold flatD; exact Bool.false_ne_true)
theorem flats_is {as : Wl} {G : Hp} : ∀ {ds : List D} {vs : List V}, IsDs K ca as G vs ds → ds.all flatD = true → vs.all flatV = true
  | [], _, h, _ => by cases h; rfl
  | d :: ds, _, h, f => by
    cases h with
    | cons h1 h2 =>
      rw [List.all_cons, Bool.and_eq_true] at f
      rw [List.all_cons, flat_is h1 f.1, flats_is h2 f.2]
      rfl
theorem eqF_is {as : Wl} {G : Hp} {v u : V} {d e : D} (h : IsD K ca as G v d) (h' : IsD K ca as G u e) : eqV v u = eqF d e := by
  cases h <;> cases h' <;> rfl
theorem inV_is {as : Wl} {G : Hp} {v : V} {d : D} (h : IsD K ca as G v d) : ∀ {ds : List D} {vs : List V}, IsDs K ca as G vs ds → inV v vs = ds.any fun z => eqF z d
  | [], _, h' => by cases h'; rfl
  | e :: ds, _, h' => by
    cases h' with
    | cons h1 h2 =>
      have := inV_is h h2
      unfold inV at this ⊢
      rw [List.any_cons, List.any_cons, this, eqF_is h1 h]
theorem rv_in : Rv2 K ca W (rIn K false) oIn := by
  intro as H σ st v u x y Q k hx hy hp
  unfold oIn at hp
  split at hp
  · rename_i a ea
    obtain ⟨p, xs, rfl, hs, hd⟩ := seq_is k hy ea
    split at hp
    · rename_i hf
      refine ⟨p, xs, rfl, hs, flat_is hx hf.1, flats_is hd hf.2, ?_⟩
      rw [if_neg Bool.false_ne_true, inV_is hx hd]
      exact hp.here k (.bl _)
    · exact hp.elim
  · exact hp.elim
theorem rv_notIn : Rv2 K ca W (rIn K true) oNotIn := by
  intro as H σ st v u x y Q k hx hy hp
  unfold oNotIn at hp
  split at hp
  · rename_i a ea
    obtain ⟨p, xs, rfl, hs, hd⟩ := seq_is k hy ea
    split at hp
    · rename_i hf
      refine ⟨p, xs, rfl, hs, flat_is hx hf.1, flats_is hd hf.2, ?_⟩
      rw [if_pos rfl, inV_is hx hd]
      exact hp.here k (.bl _)
    · exact hp.elim
  · exact hp.elim
end
end DS

namespace DS
open PySem L2 PySem.Spec PyProof.Rows
theorem tuple_mul1 (l : Addr) (items : Array Value) (n : Nat) (dd : Option Addr) (sl : Array (Option Value)) (u : Tok) :
    Meets (Builtin.«tuple.__mul__» ⟨[.ref l, .int 1 u], []⟩) (fun _ R s => s.heap.get? l = some { cls := .type "tuple", dict := dd, data := .seq items n, slots := sl } ∧
      R (.ok (.ret (Value.ref l))) s) :=
  .of_wp fun prog w A R s h => by
    obtain ⟨hp, g, d, tk, os⟩ := s
    obtain ⟨hl, h⟩ := h
    have f1 := AutoSeq1.idx_int
    have c1 : (items.isEmpty || (1 : Int) == 1) = true := by simp
    wp_walk using wpAny_loadPart' hl
    exact ⟨_, rfl, h⟩
def rRep1 (K : PySem.W.Frag) : R2 := fun x y H Q => ∃ l xs, x = .ref l ∧ y = .int 1 ∧ SqT K H l xs ∧ Q (.ref l) H
section
variable {X : Cx}
theorem op_rep1 : OpR X (binaryOp .Mult) (rRep1 X.K) := by
  intro pins s σ H x y v u Q I rx ry h
  obtain ⟨l, xs, rfl, rfl, hT, q⟩ := h
  cases rx
  obtain ⟨t, rfl⟩ := ry
  obtain ⟨its, r, ⟨⟨cls, dd, data, sl⟩, ho, hc, n, hd⟩, hs⟩ := I.tuple hT
  simp only at hc hd
  subst hc hd
  refine wpAny_binaryOp_repeat_ref (T := "tuple") (U := "int") (by decide) ⟨_, ho, rfl⟩ (fun s' => typeIs_int s' 1 t) noFill_tuple_mul F.fills_int_mul F.slot_int_rmul repeat_tuple F.slot_int_index.lookup
    (call_meets F.slot_int_rmul (typeIs_int s 1 t) F.entry_int_rmul (F.args_int_rmul_2 _ _) (int_rmul_tuple 1 t l its.toArray n dd sl)
      ⟨ho, rfl, ⟨_, ho, rfl⟩, call_meets F.slot_tuple_mul ⟨_, ho, rfl⟩ F.entry_tuple_mul (F.args_tuple_mul_2 _ _) (tuple_mul1 l its.toArray n dd sl t) ⟨ho, ?_⟩⟩)
  exact ⟨.ref l, H, I, rfl, q⟩
def rMulA (K : PySem.W.Frag) : R2 := fun x y H Q => (rI CMul (fun i j => .int (i * j)) x y H Q ∨ rRepT K x y H Q) ∨ (rRep1 K x y H Q ∨ rRep x y H Q)
theorem op_mulA : OpR X (binaryOp .Mult) (rMulA X.K) := (op_mul.or op_repT).or (op_rep1.or op_rep)
variable {K : PySem.W.Frag} {ca : Ca} {W : WX}
theorem rv_mul : Rv2 K ca W (rMulA K) oMul := by
  intro as H σ st v u x y Q k hx hy hp
  cases hx <;> cases hy <;> first | exact False.elim hp | skip
  · rename_i i j
    unfold oMul at hp
    dsimp only at hp
    by_cases h : (-(2 ^ 64) < i ∧ i < 2 ^ 64) ∨ (-(2 ^ 64) < j ∧ j < 2 ^ 64)
    · rw [if_pos h] at hp
      exact .inl (.inl ⟨_, _, rfl, rfl, h, hp.here k (.int _)⟩)
    · rw [if_neg h] at hp
      exact hp.elim
  · rename_i p xs ds h1 h2 i
    unfold oMul at hp
    dsimp only at hp
    by_cases h : ds ≠ [] ∧ 2 ≤ i ∧ i ≤ 1000 ∧ ds.length ≤ 1000
    · rw [if_pos h] at hp
      refine .inl (.inr ⟨p, i, xs, rfl, rfl, ext_t (stab_sub _ _) h1, fun z => h.1 (h2.nil_iff.mp z), h.2.1, h.2.2.1, by rw [h2.len]; exact h.2.2.2, fun q hq => ?_⟩)
      exact hp _ as _ (Step.laid hq) (k.laid hq) (.tup (.inl (.inl (stab_laid k hq))) ((h2.rep _).step (Step.laid hq)))
    · rw [if_neg h] at hp
      by_cases h' : ds ≠ [] ∧ i = 1
      · rw [if_pos h'] at hp
        obtain ⟨_, rfl⟩ := h'
        exact .inr (.inl ⟨p, xs, rfl, rfl, ext_t (stab_sub _ _) h1, hp.here k (.tup h1 h2)⟩)
      · rw [if_neg h'] at hp
        exact hp.elim
  · rename_i p xs ds h1 h2 i
    unfold oMul at hp
    dsimp only at hp
    by_cases h : 0 ≤ i ∧ i ≤ 1000 ∧ ds.length * i.toNat ≤ 100000
    · rw [if_pos h] at hp
      refine .inr (.inr ⟨p, i, xs, rfl, rfl, (stab_some h1).2.2, by omega, by omega, by rw [h2.len]; exact sz_of h.2.2, fun q hq => ?_⟩)
      exact hp _ as _ (Step.laid hq) (k.laid hq) (.lst (stab_laid k hq) ((h2.rep _).step (Step.laid hq)))
    · rw [if_neg h] at hp
      exact hp.elim

/-! ### slices -/
def cutD (xs : List D) (lo hi : Option Int) : List D := (xs.drop (HT.sIx xs.length 0 lo)).take (HT.sIx xs.length xs.length hi - HT.sIx xs.length 0 lo)
abbrev IsO : Wl → Hp → Option Int → Option Int → Prop := fun _ _ v d => v = d
def OvS (K : PySem.W.Frag) (ca : Ca) (W : WX) (ta : TO) (f : F (Option Int)) : Prop :=
  ∀ as H σ env st Q, EnvOk K ca as (stab as H) σ env → StOk K ca as H st → Post K ca W IsO as H σ (f env st) Q → ta σ H Q
def JO (ca : Ca) (X : Cx) (W : WX) (e : Option Expr) (f : F (Option Int)) : Prop := ∃ te, PO X e te ∧ OvS X.K ca W te f
def fNo : F (Option Int) := fun _ st => some (.ok none st)
def fPart (fa : F D) : F (Option Int) := fun env st => bnd (fa env st) fun x st => match x with | .int i => some (.ok (some i) st) | _ => none
def oSl (x : D) (lo hi : Option Int) (st : Sta) : Option (R D) := match x with
  | .tup a => ret (.tup (cutD a lo hi)) st
  | .lst a => ret (.lst (cutD a lo hi)) st
  | .fls a => ret (.lst (cutD a lo hi)) st
  | .cell k => match st[k]? with | some (.lst a) => ret (.lst (cutD a lo hi)) st | _ => none
  | _ => none
def fSl (fa : F D) (fl fh : F (Option Int)) : F D := fun env st => bnd (fa env st) fun x st => bnd (fl env st) fun l st => bnd (fh env st) fun h st => oSl x l h st
def fa3 : Nat := 3
variable {e : Expr} {fa : F D} {fl fh : F (Option Int)} {lo hi : Option Expr} {pos p2 : Pos}
theorem jo_none : JO ca X W none fNo := ⟨_, po_none, fun as H σ env st Q he hs hp => hp.here hs rfl⟩
theorem jo_some (h : JE ca X W e fa) : JO ca X W (some e) (fPart fa) := by
  obtain ⟨t, p, s⟩ := h
  refine ⟨_, po_some p, fun as H σ env st Q he hs hp => ?_⟩
  refine s as H σ env st _ he hs (Post.bnd hp fun x st1 v as1 H1 s1 k1 i1 p1 => ?_)
  cases i1 with
  | int i => exact ⟨i, rfl, p1.here k1 rfl⟩
  | _ => exact False.elim p1
def rSlA' (K : PySem.W.Frag) : V → Option Int → Option Int → Hp → VK → Prop := fun x lo hi H Q => rSlA K x lo hi H Q ∨ rSlL K x lo hi H Q
theorem sl_all : SlR X (rSlA' X.K) := sl_tupA.or sl_list
theorem IsDs.cut {as : Wl} {G : Hp} {xs : List V} {ds : List D} (h : IsDs K ca as G xs ds) (lo hi : Option Int) : IsDs K ca as G (cutV xs lo hi) (cutD ds lo hi) := by
  unfold cutV cutD
  rw [h.len]
  exact (h.drop _).take _
theorem cut_whole (xs : List D) {lo hi : Option Int} (h : HT.sIx xs.length 0 lo = 0 ∧ HT.sIx xs.length xs.length hi = xs.length) : cutD xs lo hi = xs := by
  unfold cutD
  rw [h.1, h.2]
  simp
theorem sl_is {as : Wl} {H : Hp} {σ : L2.St} {st : Sta} {v : V} {x : D} {lo hi : Option Int} {Q : VK} (k : StOk K ca as H st) (hx : IsD K ca as (stab as H) v x) (hp : Post K ca W (IsD K ca) as H σ (oSl x lo hi st) Q) : rSlA' K v lo hi H Q := by
  cases hx <;> first | exact False.elim hp | skip
  · rename_i p xs ds h1 h2
    refine .inl ⟨p, xs, rfl, ext_t (stab_sub _ _) h1, fun e => ?_, fun _ q hq => ?_⟩
    · rw [h2.len] at e
      unfold oSl at hp
      dsimp only at hp
      rw [cut_whole ds e] at hp
      exact hp.here k (.tup h1 h2)
    · exact hp _ as _ (Step.laid hq) (k.laid hq) (.tup (.inl (.inl (stab_laid k hq))) ((h2.cut _ _).step (Step.laid hq)))
  · rename_i p xs ds h1 h2
    refine .inr ⟨p, xs, rfl, SqL.of (stab_some h1).2.2, fun q hq => ?_⟩
    exact hp _ as _ (Step.laid hq) (k.laid hq) (.lst (stab_laid k hq) ((h2.cut _ _).step (Step.laid hq)))
  · rename_i p xs ds h1 h2
    refine .inr ⟨p, xs, rfl, ext_l (stab_sub _ _) h1, fun q hq => ?_⟩
    exact hp _ as _ (Step.laid hq) (k.laid hq) (.lst (stab_laid k hq) ((h2.cut _ _).step (Step.laid hq)))
  · rename_i p j h1
    unfold oSl at hp
    dsimp only at hp
    split at hp
    · rename_i ds e
      have q := k.at_ j p _ h1 e
      cases hq : H p with
      | none => rw [hq] at q; exact q.elim
      | some o =>
        rw [hq] at q
        cases o <;> first | exact False.elim q | skip
        rename_i xs
        have q' : IsDs K ca as (stab as H) xs ds := q
        refine .inr ⟨p, xs, rfl, SqL.of hq, fun q hq => ?_⟩
        exact hp _ as _ (Step.laid hq) (k.laid hq) (.lst (stab_laid k hq) ((q'.cut _ _).step (Step.laid hq)))
    · exact hp.elim
theorem je_slice (h : JE ca X W e fa) (h1 : JO ca X W lo fl) (h2 : JO ca X W hi fh) : JE ca X W (.Subscript e (.Slice lo hi none p2) pos) (fSl fa fl fh) := by
  obtain ⟨t, p, s⟩ := h
  obtain ⟨t1, p1, s1⟩ := h1
  obtain ⟨t2, p2, s2⟩ := h2
  refine ⟨_, pe_slice sl_all p p1 p2, fun as H σ env st Q he hs hp => ?_⟩
  refine s as H σ env st _ he hs (Post.bnd hp fun x st1 v as1 H1 w1 k1 i1 q1 => ?_)
  refine s1 as1 H1 σ env st1 _ (he.step w1) k1 (Post.bnd q1 fun l st2 v2 as2 H2 w2 k2 i2 q2 => ?_)
  refine s2 as2 H2 σ env st2 _ ((he.step w1).step w2) k2 (Post.bnd q2 fun u st3 v3 as3 H3 w3 k3 i3 q3 => ?_)
  cases (show v2 = l from i2)
  cases (show v3 = u from i3)
  exact sl_is k3 ((i1.step w2).step w3) q3
theorem je_ix {b : Expr} {fb : F D} (ha : JE ca X W e fa) (hb : JE ca X W b fb) (hs : PlainIx b := by exact fun _ _ => rfl) : JE ca X W (.Subscript e b pos) (f2 oIx fa fb) := by
  obtain ⟨ta, pa, sa⟩ := ha
  obtain ⟨tb, pb, sb⟩ := hb
  exact ⟨_, pe_ix ix_seq pa pb hs, evs2 sa sb rv_ix⟩
/-- a < b < c -/
def fChain (o o' : D → D → Sta → Option (R D)) (fa fb fc : F D) : F D := fun env st => bnd (fa env st) fun x st => bnd (fb env st) fun y st => bnd (o x y st) fun z st => match z with
  | .bl true => bnd (fc env st) fun w st => o' y w st
  | .bl false => ret (.bl false) st
  | _ => none

variable {a b c : Expr} {fb fc : F D}
theorem evs_chain {K : PySem.W.Frag} {r r' : R2} {o o' : D → D → Sta → Option (R D)} {ta tb tc : TE} (ha : EvS K ca W ta fa) (hb : EvS K ca W tb fb) (hc : EvS K ca W tc fc) (hr : Rv2 K ca W r o) (hr' : Rv2 K ca W r' o') : EvS K ca W (tChain r r' ta tb tc) (fChain o o' fa fb fc) := fun as H σ env st Q he hs hp => by
  refine ha as H σ env st _ he hs (Post.bnd hp fun x st1 v as1 H1 s1 k1 i1 p1 => ?_)
  refine hb as1 H1 σ env st1 _ (he.step s1) k1 (Post.bnd p1 fun y st2 u as2 H2 s2 k2 i2 p2 => ?_)
  refine hr as2 H2 σ st2 v u x y _ k2 (i1.step s2) i2 (Post.bnd p2 fun z st3 w as3 H3 s3 k3 i3 p3 => ?_)
  cases i3 with
  | bl q =>
    refine ⟨q, rfl, ?_⟩
    cases q with
    | true =>
      refine iteT (hc as3 H3 σ env st3 _ (((he.step s1).step s2).step s3) k3 (Post.bnd p3 fun z4 st4 w4 as4 H4 s4 k4 i4 p4 => ?_))
      exact hr' as4 H4 σ st4 u w4 y z4 Q k4 ((i2.step s3).step s4) i4 p4
    | false => exact iteF (p3.here k3 (.bl _))
  | _ => exact False.elim p3
theorem je_chain {op op' : CmpOp} {r r' : R2} {o o' : D → D → Sta → Option (R D)} (ho : OpR X (compareOp op) r) (hr : Rv2 X.K ca W r o) (ho' : OpR X (compareOp op') r') (hr' : Rv2 X.K ca W r' o') (ha : JE ca X W a fa) (hb : JE ca X W b fb) (hc : JE ca X W c fc)
    (hm : lastMarks [op, op'] [b, c] = false := by first | rfl | decide) : JE ca X W (.Compare a [op, op'] [b, c] pos) (fChain o o' fa fb fc) := by
  obtain ⟨ta, pa, sa⟩ := ha
  obtain ⟨tb, pb, sb⟩ := hb
  obtain ⟨tc, pc, sc⟩ := hc
  exact ⟨_, pe_chain ho ho' pa pb pc hm, evs_chain sa sb sc hr hr'⟩
theorem jt_chain {op op' : CmpOp} {r r' : R2} {o o' : D → D → Sta → Option (R D)} (ho : OpR X (compareOp op) r) (hr : Rv2 X.K ca W r o) (ho' : OpR X (compareOp op') r') (hr' : Rv2 X.K ca W r' o') (ha : JE ca X W a fa) (hb : JE ca X W b fb) (hc : JE ca X W c fc)
    (hm : lastMarks [op, op'] [b, c] = false := by first | rfl | decide) : JT ca X W (.Compare a [op, op'] [b, c] pos) (fTest (fChain o o' fa fb fc)) := by
  obtain ⟨ta, pa, sa⟩ := ha
  obtain ⟨tb, pb, sb⟩ := hb
  obtain ⟨tc, pc, sc⟩ := hc
  exact ⟨_, pt_chain ho ho' pa pb pc hm, tvs_test (evs_chain sa sb sc hr hr')⟩

/-! ### built-ins -/
variable {es : List Expr} {fs : F (List D)} {x : Str} {p : Pos}
theorem evsN {K : PySem.W.Frag} {ta : TA} {r : List V → Hp → VK → Prop} {op : List D → Sta → Option (R D)} (ha : AvS K ca W ta fs) (hr : RvN K ca W r op) : EvS K ca W (tCB r ta) (fN op fs) := fun as H σ env st Q he hs hp => by
  refine ha as H σ env st _ he hs (Post.bnd hp fun x st1 v as1 H1 s1 k1 i1 p1 => ?_)
  exact hr as1 H1 σ st1 v x Q k1 i1 p1
theorem je_callB {id : String} {r : List V → Hp → VK → Prop} {o : List D → Sta → Option (R D)} (hc : CallR X (.builtin id) r) (hr : RvN X.K ca W r o) (hg : Gl X x) (hm : X.mg x = none) (hv : bootBuiltins x = some (.builtin id)) (ha : JA ca X W (e :: es) fs) (hn : x ≠ "__name__" := by decide) (hdb : (x == ("__debug__" : Str)) = false := by decide)
    (he : starEach (e :: es) X.env = (false, eval e X.env) :: starEach es X.env := by rfl) (hpl : (backTo pos (starEach es X.env)).any (·.1) = false := by rfl) : JE ca X W (.Call (.Name x p) (e :: es) [] pos) (fN o fs) := by
  obtain ⟨ta, pa, sa⟩ := ha
  exact ⟨_, pe_callB hc hg hm hv pa hn hdb he hpl, evsN sa hr⟩
theorem je_callTy {T : String} {r : List V → Hp → VK → Prop} {o : List D → Sta → Option (R D)} (hc : CallR X (.type T) r) (hr : RvN X.K ca W r o) (hg : Gl X x) (hm : X.mg x = none) (hv : bootBuiltins x = some (.type T)) (ha : JA ca X W (e :: es) fs) (hn : x ≠ "__name__" := by decide) (hdb : (x == ("__debug__" : Str)) = false := by decide)
    (he : starEach (e :: es) X.env = (false, eval e X.env) :: starEach es X.env := by rfl) (hpl : (backTo pos (starEach es X.env)).any (·.1) = false := by rfl) : JE ca X W (.Call (.Name x p) (e :: es) [] pos) (fN o fs) := by
  obtain ⟨ta, pa, sa⟩ := ha
  exact ⟨_, pe_callTy hc hg hm hv pa hn hdb he hpl, evsN sa hr⟩
def oLen (xs : List D) (st : Sta) : Option (R D) := match xs with
  | [x] => match seqOf x st with
    | some a => ret (.int a.length) st
    | none => none
  | _ => none
theorem rn_len {K : PySem.W.Frag} : RvN K ca W (fun xs H Q => ∃ p ys, xs = [.ref p] ∧ (SqL K H p ys ∨ SqT K H p ys) ∧ Q (.int ys.length) H) oLen := by
  intro as H σ st v x Q k hx hp
  cases hx with
  | nil => exact False.elim hp
  | cons h1 h2 =>
    cases h2 with
    | cons => exact False.elim hp
    | nil =>
      unfold oLen at hp
      dsimp only at hp
      split at hp
      · rename_i a ea
        obtain ⟨p, xs, rfl, hs, hd⟩ := seq_is k h1 ea
        refine ⟨p, xs, rfl, hs, ?_⟩
        rw [hd.len]
        exact hp.here k (.int _)
      · exact hp.elim
def oInt (xs : List D) (st : Sta) : Option (R D) := match xs with
  | [.int i] => ret (.int i) st
  | [.bl b] => ret (.int (if b then 1 else 0)) st
  | _ => none
theorem rn_int {K : PySem.W.Frag} : RvN K ca W (fun xs H Q => (∃ i, xs = [.int i] ∧ Q (.int i) H) ∨ ∃ k, xs = [.bl k] ∧ Q (.int (if k then 1 else 0)) H) oInt := by
  intro as H σ st v x Q k hx hp
  cases hx with
  | nil => exact False.elim hp
  | cons h1 h2 =>
    cases h2 with
    | cons => cases h1 <;> exact False.elim hp
    | nil =>
      cases h1 <;> first | exact False.elim hp | exact .inl ⟨_, rfl, hp.here k (.int _)⟩ | exact .inr ⟨_, rfl, hp.here k (.int _)⟩
def oI2 (g : Int → Int → Int) (xs : List D) (st : Sta) : Option (R D) := match xs with
  | [.int i, .int j] => ret (.int (g i j)) st
  | _ => none
theorem rn_I2 {K : PySem.W.Frag} {g : Int → Int → Int} : RvN K ca W (fun xs H Q => ∃ i j, xs = [.int i, .int j] ∧ Q (.int (g i j)) H) (oI2 g) := by
  intro as H σ st v x Q k hx hp
  cases hx with
  | nil => exact False.elim hp
  | cons h1 h2 =>
    cases h2 with
    | nil => cases h1 <;> exact False.elim hp
    | cons h2 h3 =>
      cases h3 with
      | cons => cases h1 <;> cases h2 <;> exact False.elim hp
      | nil => cases h1 <;> cases h2 <;> first | exact False.elim hp | exact ⟨_, _, rfl, rfl, hp.here k (.int _)⟩ | exact ⟨_, _, rfl, hp.here k (.int _)⟩
def oMax := oI2 fun i j => if j > i then j else i
def oMin := oI2 fun i j => if j < i then j else i
/-- tuple(xs), list(xs) -/
def oTupOf (xs : List D) (st : Sta) : Option (R D) := match xs with
  | [x] => match seqOf x st with
    | some a => ret (.tup a) st
    | none => none
  | _ => none
theorem seq_isL {K : PySem.W.Frag} {as : Wl} {H : Hp} {st : Sta} {v : V} {x : D} {a : List D} (k : StOk K ca as H st) (h : IsD K ca as (stab as H) v x) (e : seqOf x st = some a) :
    (∃ p xs, v = .ref p ∧ SqL K H p xs ∧ IsDs K ca as (stab as H) xs a) ∨ (∃ p xs, v = .ref p ∧ x = .tup a ∧ SqT K (stab as H) p xs ∧ IsDs K ca as (stab as H) xs a) := by
  cases h <;> first | (unfold seqOf at e; cases e; done) | skip
  · rename_i h1 h2
    unfold seqOf at e; cases e
    exact .inr ⟨_, _, rfl, rfl, h1, h2⟩
  · rename_i h1 h2
    unfold seqOf at e; cases e
    exact .inl ⟨_, _, rfl, SqL.of (stab_some h1).2.2, h2⟩
  · rename_i h1 h2
    unfold seqOf at e; cases e
    exact .inl ⟨_, _, rfl, ext_l (stab_sub _ _) h1, h2⟩
  · rename_i p j h1
    unfold seqOf at e
    simp only at e
    split at e
    · rename_i b e2
      cases e
      have q := k.at_ j p _ h1 e2
      cases hq : H p with
      | none => rw [hq] at q; exact q.elim
      | some o =>
        rw [hq] at q
        cases o <;> first | exact False.elim q | exact .inl ⟨_, _, rfl, SqL.of hq, q⟩
    · cases e
theorem rn_tup {K : PySem.W.Frag} : RvN K ca W (fun xs H Q => ∃ p ys, xs = [.ref p] ∧ ((SqL K H p ys ∧ ∀ l, H l = none → Q (.ref l) (upd H l (.tup ys))) ∨ (SqT K H p ys ∧ Q (.ref p) H))) oTupOf := by
  intro as H σ st v x Q k hx hp
  cases hx with
  | nil => exact False.elim hp
  | cons h1 h2 =>
    cases h2 with
    | cons => exact False.elim hp
    | nil =>
      unfold oTupOf at hp
      dsimp only at hp
      split at hp
      · rename_i a ea
        rcases seq_isL k h1 ea with ⟨p, xs, rfl, hs, hd⟩ | ⟨p, xs, rfl, rfl, hs, hd⟩
        · refine ⟨p, xs, rfl, .inl ⟨hs, fun q hq => ?_⟩⟩
          exact hp _ as _ (Step.laid hq) (k.laid hq) (.tup (.inl (.inl (stab_laid k hq))) (hd.step (Step.laid hq)))
        · exact ⟨p, xs, rfl, .inr ⟨ext_t (stab_sub _ _) hs, hp.here k (.tup hs hd)⟩⟩
      · exact hp.elim
def oListOf (xs : List D) (st : Sta) : Option (R D) := match xs with
  | [x] => match seqOf x st with
    | some a => ret (.lst a) st
    | none => none
  | _ => none
/-- a list of its own that is changed later -/
def oListNew (xs : List D) (st : Sta) : Option (R D) := match xs with
  | [x] => match seqOf x st with
    | some a => some (.ok (.cell st.length) (st ++ [.lst a]))
    | none => none
  | _ => none
theorem rn_list {K : PySem.W.Frag} : RvN K ca W (fun xs H Q => ∃ p ys, xs = [.ref p] ∧ (SqL K H p ys ∨ SqT K H p ys) ∧ ∀ l, H l = none → Q (.ref l) (upd H l (.lst ys))) oListOf := by
  intro as H σ st v x Q k hx hp
  cases hx with
  | nil => exact False.elim hp
  | cons h1 h2 =>
    cases h2 with
    | cons => exact False.elim hp
    | nil =>
      unfold oListOf at hp
      dsimp only at hp
      split at hp
      · rename_i a ea
        obtain ⟨p, xs, rfl, hs, hd⟩ := seq_is k h1 ea
        exact ⟨p, xs, rfl, hs, fun q hq => hp _ as _ (Step.laid hq) (k.laid hq) (.lst (stab_laid k hq) (hd.step (Step.laid hq)))⟩
      · exact hp.elim
theorem rn_listNew {K : PySem.W.Frag} : RvN K ca W (fun xs H Q => ∃ p ys, xs = [.ref p] ∧ (SqL K H p ys ∨ SqT K H p ys) ∧ ∀ l, H l = none → Q (.ref l) (upd H l (.lst ys))) oListNew := by
  intro as H σ st v x Q k hx hp
  cases hx with
  | nil => exact False.elim hp
  | cons h1 h2 =>
    cases h2 with
    | cons => exact False.elim hp
    | nil =>
      unfold oListNew at hp
      dsimp only at hp
      split at hp
      · rename_i a ea
        obtain ⟨p, xs, rfl, hs, hd⟩ := seq_is k h1 ea
        exact ⟨p, xs, rfl, hs, fun q hq => hp _ _ _ (Step.made hq) (k.made (c := .lst a) hq hd) (.cell (by rw [← k.len]; exact made_get))⟩
      · exact hp.elim
def blsOf : List D → Option (List Bool)
  | [] => some []
  | .bl b :: ds => (blsOf ds).map fun bs => b :: bs
  | _ => none
theorem bls_is {K : PySem.W.Frag} {as : Wl} {G : Hp} : ∀ {ds : List D} {bs : List Bool} {vs : List V}, IsDs K ca as G vs ds → blsOf ds = some bs → vs = bs.map V.bl
  | [], bs, _, h, e => by cases h; unfold blsOf at e; cases e; rfl
  | d :: ds, bs, _, h, e => by
    cases h with
    | cons h1 h2 =>
      cases h1 <;> first | (unfold blsOf at e; cases e; done) | skip
      unfold blsOf at e
      obtain ⟨q, e1, e2⟩ := Option.map_eq_some_iff.mp e
      subst e2
      rw [bls_is h2 e1]
      rfl
def oAll (xs : List D) (st : Sta) : Option (R D) := match xs with
  | [.lst a] => (match blsOf a with | some bs => ret (.bl (bs.all id)) st | none => none)
  | _ => none
def oAny (xs : List D) (st : Sta) : Option (R D) := match xs with
  | [.lst a] => (match blsOf a with | some bs => ret (.bl (bs.any id)) st | none => none)
  | _ => none
theorem rn_all {K : PySem.W.Frag} : RvN K ca W (rAll K) oAll := by
  intro as H σ st v x Q k hx hp
  cases hx with
  | nil => exact False.elim hp
  | cons h1 h2 =>
    cases h2 with
    | cons => cases h1 <;> exact False.elim hp
    | nil =>
      cases h1 <;> first | exact False.elim hp | skip
      rename_i p xs ds q1 q2
      unfold oAll at hp
      dsimp only at hp
      split at hp
      · rename_i bs e
        have e2 := bls_is q2 e
        subst e2
        exact ⟨p, bs, rfl, SqL.of (stab_some q1).2.2, hp.here k (.bl _)⟩
      · exact hp.elim
theorem rn_any {K : PySem.W.Frag} : RvN K ca W (rAny K) oAny := by
  intro as H σ st v x Q k hx hp
  cases hx with
  | nil => exact False.elim hp
  | cons h1 h2 =>
    cases h2 with
    | cons => cases h1 <;> exact False.elim hp
    | nil =>
      cases h1 <;> first | exact False.elim hp | skip
      rename_i p xs ds q1 q2
      unfold oAny at hp
      dsimp only at hp
      split at hp
      · rename_i bs e
        have e2 := bls_is q2 e
        subst e2
        exact ⟨p, bs, rfl, SqL.of (stab_some q1).2.2, hp.here k (.bl _)⟩
      · exact hp.elim

/-! ### isinstance, a built-in class -/
def isTy (T : String) : D → Option Bool
  | .non => kitB "NoneType" T
  | .bl _ => kitB "bool" T
  | .int _ => kitB "int" T
  | .str _ => kitB "str" T
  | .tup _ => kitB "tuple" T
  | .lst _ => kitB "list" T
  | _ => none
def fIsTy (T : String) (fa : F D) : F D := fun env st => bnd (fa env st) fun x st => match isTy T x with | some b => ret (.bl b) st | none => none
theorem tyx_tup {K : PySem.W.Frag} {H : Hp} {p : Addr} {xs : List V} (h : SqT K H p xs) : TyX K H (.ref p) (.type "tuple") := by
  rcases h with (h | ⟨o, h⟩) | ⟨o, its, n, h, hc, _⟩
  · exact .base (.tup h)
  · exact .fTuple h
  · exact .kTuple h hc
theorem je_isTy {T : String} {nx px : Pos} {tn : Str} (hv2 : bootBuiltins tn = some (.type T)) (hg : Gl X "isinstance") (hm : X.mg "isinstance" = none) (hg2 : Gl X tn) (hm2 : X.mg tn = none) (ha : JE ca X W e fa) (hn : tn ≠ "__name__" := by decide) (hdb : (tn == ("__debug__" : Str)) = false := by decide)
    (hs1 : starEach [.Name tn nx] X.env = [(false, eval (.Name tn nx) X.env)] := by rfl) (hs : starEach [e, .Name tn nx] X.env = (false, eval e X.env) :: starEach [.Name tn nx] X.env := by rfl) : JE ca X W (.Call (.Name "isinstance" px) [e, .Name tn nx] [] pos) (fIsTy T fa) := by
  obtain ⟨ta, pa, sa⟩ := ha
  refine ⟨_, pe_callB call_isi hg hm (by decide +kernel) (pa_cons pa (pa_cons (pe_bltn (v := .ty T) hg2 hm2 hv2 rfl hn hdb) pa_nil (by rw [hs1]; rfl)) hs) (he := hs) (hpl := by rw [hs1]; rfl), fun as H σ env st Q he hs hp => ?_⟩
  refine sa as H σ env st _ he hs (Post.bnd hp fun x st1 v as1 H1 s1 k1 i1 p1 => ?_)
  split at p1
  · rename_i b eb
    have fin : ∀ t, TyX X.K H1 v (.type t) → kitB t T = some b → rIsi X.K [v, .ty T] H1 Q := fun t ty e => ⟨v, .ty T, .type t, .type T, b, rfl, .ty T, ty, kit_ty e, p1.here k1 (.bl _)⟩
    cases i1 <;> first | (unfold isTy at eb; cases eb; done) | skip
    · exact fin _ (.base .non) eb
    · exact fin _ (.base (.bl _)) eb
    · exact fin _ (.base (.int _)) eb
    · exact fin _ (.base (.str _)) eb
    · rename_i h1 h2
      exact fin _ (tyx_tup (ext_t (stab_sub _ _) h1)) eb
    · rename_i h1 h2
      exact fin _ (.base (.lst (stab_some h1).2.2)) eb
  · exact p1.elim
/-! ### xs + ys, where one of them is changed elsewhere, or the sum is -/
def lsOf (x : D) (st : Sta) : Option (List D) := match x with
  | .lst a => some a
  | .cell k => match st[k]? with | some (.lst a) => some a | _ => none
  | _ => none
def oAddL (x y : D) (st : Sta) : Option (R D) := match lsOf x st, lsOf y st with
  | some a, some b => if a.length + b.length ≤ 100000 then ret (.lst (a ++ b)) st else none
  | _, _ => none
def oAddN (x y : D) (st : Sta) : Option (R D) := match lsOf x st, lsOf y st with
  | some a, some b => if a.length + b.length ≤ 100000 then some (.ok (.cell st.length) (st ++ [.lst (a ++ b)])) else none
  | _, _ => none
theorem ls_is {K : PySem.W.Frag} {as : Wl} {H : Hp} {st : Sta} {v : V} {x : D} {a : List D} (k : StOk K ca as H st) (h : IsD K ca as (stab as H) v x) (e : lsOf x st = some a) :
    ∃ p xs, v = .ref p ∧ H p = some (.lst xs) ∧ IsDs K ca as (stab as H) xs a := by
  cases h <;> first | (unfold lsOf at e; cases e; done) | skip
  · rename_i h1 h2
    unfold lsOf at e; cases e
    exact ⟨_, _, rfl, (stab_some h1).2.2, h2⟩
  · rename_i p j h1
    unfold lsOf at e
    simp only at e
    split at e
    · rename_i b e2
      cases e
      have q := k.at_ j p _ h1 e2
      cases hq : H p with
      | none => rw [hq] at q; exact q.elim
      | some o =>
        rw [hq] at q
        cases o <;> first | exact False.elim q | exact ⟨_, _, rfl, hq, q⟩
    · cases e
theorem rv_addL {K : PySem.W.Frag} : Rv2 K ca W rCat oAddL := by
  intro as H σ st v u x y Q k hx hy hp
  unfold oAddL at hp
  split at hp
  · rename_i a b ea eb
    obtain ⟨p, xs, rfl, h1, h2⟩ := ls_is k hx ea
    obtain ⟨p', xs', rfl, h1', h2'⟩ := ls_is k hy eb
    by_cases h : a.length + b.length ≤ 100000
    · rw [if_pos h] at hp
      exact ⟨p, p', xs, xs', rfl, rfl, h1, h1', by rw [h2.len, h2'.len]; exact sz_of h, fun q hq => hp _ as _ (Step.laid hq) (k.laid hq) (.lst (stab_laid k hq) ((h2.append h2').step (Step.laid hq)))⟩
    · rw [if_neg h] at hp
      exact hp.elim
  · exact hp.elim
theorem rv_addN {K : PySem.W.Frag} : Rv2 K ca W rCat oAddN := by
  intro as H σ st v u x y Q k hx hy hp
  unfold oAddN at hp
  split at hp
  · rename_i a b ea eb
    obtain ⟨p, xs, rfl, h1, h2⟩ := ls_is k hx ea
    obtain ⟨p', xs', rfl, h1', h2'⟩ := ls_is k hy eb
    by_cases h : a.length + b.length ≤ 100000
    · rw [if_pos h] at hp
      exact ⟨p, p', xs, xs', rfl, rfl, h1, h1', by rw [h2.len, h2'.len]; exact sz_of h, fun q hq => hp _ _ _ (Step.made hq) (k.made (c := .lst (a ++ b)) hq (h2.append h2')) (.cell (by rw [← k.len]; exact made_get))⟩
    · rw [if_neg h] at hp
      exact hp.elim
  · exact hp.elim
end
end DS

namespace DS
open PySem L2 PySem.Spec PyProof.Rows
/-! ### statements -/
inductive O where
  | nx (env : Evn) | rt (d : D) | bk (env : Evn) | ct (env : Evn) | er (c : Nat) (fs : List (Str × D)) (env : Evn)
abbrev FS := Evn → Sta → Option (O × Sta)
def bndS {α : Type} (m : Option (R α)) (env : Evn) (f : α → Sta → Option (O × Sta)) : Option (O × Sta) :=
  match m with
  | none => none
  | some (.ok a st) => f a st
  | some (.err c fs st) => some (.er c fs env, st)
def PostS (K : PySem.W.Frag) (ca : Ca) (W : WX) (as : Wl) (H : Hp) : Option (O × Sta) → Ends → Prop
  | none, _ => False
  | some (.nx env, st), E => ∀ σ as' H', Step as H as' H' → StOk K ca as' H' st → EnvOk K ca as' (stab as' H') σ env → E.nx σ H'
  | some (.rt d, st), E => ∀ v as' H', Step as H as' H' → StOk K ca as' H' st → IsD K ca as' (stab as' H') v d → E.rt v H'
  | some (.bk env, st), E => ∀ σ as' H', Step as H as' H' → StOk K ca as' H' st → EnvOk K ca as' (stab as' H') σ env → E.bk σ H'
  | some (.ct env, st), E => ∀ σ as' H', Step as H as' H' → StOk K ca as' H' st → EnvOk K ca as' (stab as' H') σ env → E.ct σ H'
  | some (.er c fs env, st), _ => ∀ cls dd σ as' H', Step as H as' H' → StOk K ca as' H' st → EnvOk K ca as' (stab as' H') σ env → ErrOk K ca as' (stab as' H') cls dd c fs → W cls dd σ H'
section
variable {K : PySem.W.Frag} {ca : Ca} {W : WX} {α β : Type} {Is : Wl → Hp → β → α → Prop} {as as' : Wl} {H H' : Hp} {σ : L2.St} {m : Option (R α)} {Q : β → Hp → Prop}
theorem PostS.step {r : Option (O × Sta)} {E : Ends} (h : PostS K ca W as H r E) (s : Step as H as' H') : PostS K ca W as' H' r E := by
  cases r with
  | none => exact h
  | some r =>
    obtain ⟨o, st⟩ := r
    cases o with
    | nx env => exact fun σ a2 H2 s2 k i => h σ a2 H2 (s.trans s2) k i
    | rt d => exact fun σ a2 H2 s2 k i => h σ a2 H2 (s.trans s2) k i
    | bk env => exact fun σ a2 H2 s2 k i => h σ a2 H2 (s.trans s2) k i
    | ct env => exact fun σ a2 H2 s2 k i => h σ a2 H2 (s.trans s2) k i
    | er c fs env => exact fun cls dd σ a2 H2 s2 k i j => h cls dd σ a2 H2 (s.trans s2) k i j
theorem PostS.bnd {env : Evn} {g : α → Sta → Option (O × Sta)} {E : Ends} (h : PostS K ca W as H (bndS m env g) E) (he : EnvOk K ca as (stab as H) σ env)
    (k : ∀ d st v as1 H1, Step as H as1 H1 → StOk K ca as1 H1 st → Is as1 (stab as1 H1) v d → PostS K ca W as1 H1 (g d st) E → Q v H1) : Post K ca W Is as H σ m Q := by
  cases m with
  | none => exact h
  | some r =>
    cases r with
    | ok d st => exact fun v a2 H2 s2 ok i => k d st v a2 H2 s2 ok i (PostS.step h s2)
    | err c fs st => exact fun cls dd a2 H2 s2 k2 e2 => h cls dd σ a2 H2 s2 k2 (he.step s2) e2
theorem PostS.here {env : Evn} {st : Sta} {E : Ends} (h : PostS K ca W as H (some (.nx env, st)) E) (ok : StOk K ca as H st) (he : EnvOk K ca as (stab as H) σ env) : E.nx σ H := h σ as H (Step.refl _ _) ok he
end
def SvS (K : PySem.W.Frag) (ca : Ca) (W : WX) (ts : TS) (f : FS) : Prop :=
  ∀ as H σ env st E, EnvOk K ca as (stab as H) σ env → StOk K ca as H st → PostS K ca W as H (f env st) E → ts E σ H
def JS (ca : Ca) (X : Cx) (W : WX) (s : Stmt) (f : FS) : Prop := ∃ ts, PS X s ts ∧ SvS X.K ca W ts f
def JB (ca : Ca) (X : Cx) (W : WX) (s : List Stmt) (f : FS) : Prop := ∃ ts, PSs X s ts ∧ SvS X.K ca W ts f
def sSeq (f g : FS) : FS := fun env st => match f env st with
  | some (.nx env', st') => g env' st'
  | r => r
def sNx : FS := fun env st => some (.nx env, st)
def sAsg (i : Nat) (fa : F D) : FS := fun env st => bndS (fa env st) env fun d st => some (.nx (env.set i (some d)), st)
def sDrop (fa : F D) : FS := fun env st => bndS (fa env st) env fun _ st => some (.nx env, st)
def sRet (fa : F D) : FS := fun env st => bndS (fa env st) env fun d st => some (.rt d, st)
def sRetN : FS := fun env st => some (.rt .non, st)
def sIf (t : F Bool) (f g : FS) : FS := fun env st => bndS (t env st) env fun b st => match b with | true => f env st | false => g env st
section
variable {ca : Ca} {X : Cx} {W : WX} {s : Stmt} {r : List Stmt} {f g : FS} {e : Expr} {fa : F D} {pos : Pos}
theorem PostS.seq {K : PySem.W.Frag} {as : Wl} {H : Hp} {m : Option (O × Sta)} {g : FS} {u : TS} {E : Ends} (hu : SvS K ca W u g) (h : PostS K ca W as H (match m with | some (.nx env', st') => g env' st' | r => r) E) : PostS K ca W as H m { E with nx := u E } := by
  cases m with
  | none => exact h
  | some r =>
    obtain ⟨o, st⟩ := r
    cases o with
    | nx env => exact fun σ a2 H2 s2 k i => hu a2 H2 σ env st E i k (PostS.step h s2)
    | rt d => exact h
    | bk env => exact h
    | ct env => exact h
    | er c fs env => exact h
theorem jb_nil : JB ca X W [] sNx := ⟨_, pss_nil, fun as H σ env st E he hs hp => hp.here hs he⟩
theorem jb_one (h : JS ca X W s f) : JB ca X W [s] f := let ⟨t, p, q⟩ := h; ⟨t, pss_one p, q⟩
theorem jb_cons (h : JS ca X W s f) (h2 : JB ca X W r g) : JB ca X W (s :: r) (sSeq f g) := by
  obtain ⟨t, p, q⟩ := h
  obtain ⟨u, p2, q2⟩ := h2
  exact ⟨_, pss_cons p p2, fun as H σ env st E he hs hp => q as H σ env st _ he hs (PostS.seq q2 hp)⟩
theorem EnvOk.set {K : PySem.W.Frag} {as : Wl} {G : Hp} {σ : L2.St} {env : Evn} (h : EnvOk K ca as G σ env) (i : Nat) {v : V} {d : D} (hv : IsD K ca as G v d) : EnvOk K ca as G (σ.set i (some v)) (env.set i (some d)) := by
  refine ⟨by simp [h.len], fun j d' e => ?_⟩
  by_cases hj : i = j
  · subst hj
    have hl : i < env.length := by
      have := (List.getElem?_eq_some_iff.mp e).1
      simpa using this
    rw [List.getElem?_set_self hl] at e
    cases e
    rw [List.getElem?_set_self (by rw [h.len]; exact hl)]
    exact ⟨v, rfl, hv⟩
  · rw [List.getElem?_set_ne hj] at e ⊢
    exact h.at_ j d' e
theorem js_asg (i : Nat) {x : Str} {pos' : Pos} (hN : X.N.Nodup) (he : JE ca X W e fa) (hi : X.N[i]? = some x := by rfl) (hx : Loc X.env.scope x := by first | exact Or.inl rfl | exact Or.inr rfl) (hs : swapsWith e (some (.Name x pos')) pos.line X.env = pure false := by rfl) (hf : X.fn x = true ∨ X.env.scope.names.lookup x = some .local := by first | exact .inl rfl | exact .inr rfl | assumption) :
    JS ca X W (.Assign [.Name x pos'] e pos) (sAsg i fa) := by
  obtain ⟨t, p, q⟩ := he
  refine ⟨_, ps_set hN hi hx p hs hf, fun as H σ env st E he hs hp => ?_⟩
  refine q as H σ env st _ he hs (PostS.bnd hp he fun d st1 v as1 H1 s1 k1 i1 p1 => ?_)
  exact p1.here k1 ((he.step s1).set i i1)
theorem js_drop (he : JE ca X W e fa) (hs : swapsWith e none pos.line X.env = pure false := by rfl) : JS ca X W (.Expr e pos) (sDrop fa) := by
  obtain ⟨t, p, q⟩ := he
  refine ⟨_, ps_expr p hs, fun as H σ env st E he hs hp => ?_⟩
  refine q as H σ env st _ he hs (PostS.bnd hp he fun d st1 v as1 H1 s1 k1 i1 p1 => ?_)
  exact p1.here k1 (he.step s1)
theorem js_ret (he : JE ca X W e fa) : JS ca X W (.Return (some e) pos) (sRet fa) := by
  obtain ⟨t, p, q⟩ := he
  refine ⟨_, ps_ret p, fun as H σ env st E he hs hp => ?_⟩
  refine q as H σ env st _ he hs (PostS.bnd hp he fun d st1 v as1 H1 s1 k1 i1 p1 => ?_)
  exact p1 v as1 H1 (Step.refl _ _) k1 i1
theorem js_retN : JS ca X W (.Return none pos) sRetN := ⟨_, ps_retN, fun as H σ env st E he hs hp => hp .non as H (Step.refl _ _) hs .non⟩
theorem js_pass : JS ca X W (.Pass pos) sNx := ⟨_, ps_pass, fun as H σ env st E he hs hp => hp.here hs he⟩
def sBk : FS := fun env st => some (.bk env, st)
def sCt : FS := fun env st => some (.ct env, st)
theorem js_break : JS ca X W (.Break pos) sBk := ⟨_, ps_break, fun as H σ env st E he hs hp => hp σ as H (Step.refl _ _) hs he⟩
theorem js_continue : JS ca X W (.Continue pos) sCt := ⟨_, ps_continue, fun as H σ env st E he hs hp => hp σ as H (Step.refl _ _) hs he⟩
theorem js_if {a b : List Stmt} {t : F Bool} (ht : JT ca X W e t) (ha : JB ca X W a f) (hb : JB ca X W b g) : JS ca X W (.If e a b pos) (sIf t f g) := by
  obtain ⟨tt, p, q⟩ := ht
  obtain ⟨ta, pa, qa⟩ := ha
  obtain ⟨tb, pb, qb⟩ := hb
  refine ⟨_, ps_if p pa pb, fun as H σ env st E he hs hp => ?_⟩
  refine q as H σ env st _ he hs (PostS.bnd hp he fun d st1 v as1 H1 s1 k1 i1 p1 => ?_)
  cases (show v = d from i1)
  cases d with
  | true => exact iteT (qa as1 H1 σ env st1 E (he.step s1) k1 p1)
  | false => exact iteF (qb as1 H1 σ env st1 E (he.step s1) k1 p1)
/-! ### targets -/
abbrev FG := D → Evn → Sta → Option (Evn × Sta)
def GvS (K : PySem.W.Frag) (ca : Ca) (tg : TG) (f : FG) : Prop :=
  ∀ as H σ env st v d (Q : L2.St → Hp → Prop), EnvOk K ca as (stab as H) σ env → StOk K ca as H st → IsD K ca as (stab as H) v d →
    (match f d env st with | none => False | some (env', st') => ∀ σ' H', Step as H as H' → StOk K ca as H' st' → EnvOk K ca as (stab as H') σ' env' → Q σ' H') → tg v σ H Q
abbrev FGs := List D → Evn → Sta → Option (Evn × Sta)
def GvsS (K : PySem.W.Frag) (ca : Ca) (tg : TGs) (f : FGs) : Prop :=
  ∀ as H σ env st v d (Q : L2.St → Hp → Prop), EnvOk K ca as (stab as H) σ env → StOk K ca as H st → IsDs K ca as (stab as H) v d →
    (match f d env st with | none => False | some (env', st') => ∀ σ' H', Step as H as H' → StOk K ca as H' st' → EnvOk K ca as (stab as H') σ' env' → Q σ' H') → tg v σ H Q
def JG (ca : Ca) (X : Cx) (e : Expr) (f : FG) : Prop := ∃ t, PG X e t ∧ GvS X.K ca t f
def JGs (ca : Ca) (X : Cx) (es : List Expr) (f : FGs) : Prop := ∃ t, PGs X es t ∧ GvsS X.K ca t f
def gN (i : Nat) : FG := fun d env st => some (env.set i (some d), st)
def gNl : FGs := fun ds env st => match ds with | [] => some (env, st) | _ => none
def gCn (f : FG) (fs : FGs) : FGs := fun ds env st => match ds with | [] => none | d :: r => match f d env st with | none => none | some (env', st') => fs r env' st'
def gTp (n : Nat) (f : FGs) : FG := fun d env st => match d with | .tup ds => if ds.length = n then f ds env st else none | _ => none
theorem jg_name (i : Nat) {x : Str} (hN : X.N.Nodup) (hi : X.N[i]? = some x := by rfl) (hx : Loc X.env.scope x := by first | exact Or.inl rfl | exact Or.inr rfl) (hf : X.fn x = true ∨ X.env.scope.names.lookup x = some .local := by first | exact .inl rfl | exact .inr rfl | assumption) : JG ca X (.Name x pos) (gN i) :=
  ⟨_, pg_name hN hi hx hf, fun as H σ env st v d Q he hs hv hq => hq _ H (Step.refl _ _) hs (he.set i hv)⟩
theorem jgs_nil : JGs ca X [] gNl := ⟨_, pgs_nil, fun as H σ env st v d Q he hs hv hq => by
  cases hv with
  | nil => exact ⟨rfl, hq σ H (Step.refl _ _) hs he⟩
  | cons => exact False.elim hq⟩
theorem jgs_cons {es : List Expr} {g : FG} {fs : FGs} (h1 : JG ca X e g) (h2 : JGs ca X es fs) (hs : (assignEach (e :: es) X.env).map (·.2) = assign e X.env :: (assignEach es X.env).map (·.2) := by rfl) : JGs ca X (e :: es) (gCn g fs) := by
  obtain ⟨t, p, q⟩ := h1
  obtain ⟨u, p2, q2⟩ := h2
  refine ⟨_, pgs_cons p p2 hs, fun as H σ env st v d Q he hs hv hq => ?_⟩
  cases hv with
  | nil => exact False.elim hq
  | cons a1 a2 =>
    refine ⟨_, _, rfl, q as H σ env st _ _ _ he hs a1 ?_⟩
    unfold gCn at hq
    dsimp only at hq
    split at hq <;> rename_i e1
    · exact hq.elim
    · split at e1
      · cases e1
      · rename_i e2
        intro σ' H' s1 k1 he1
        refine q2 as H' σ' _ _ _ _ Q he1 k1 (a2.step s1) ?_
        rw [e1]
        exact fun σ2 H2 s2 k2 he2 => hq σ2 H2 (s1.trans s2) k2 he2
theorem jg_tup {es : List Expr} {k : Nat} {fs : FGs} {n : Nat} (hc : X.calm = true) (h : JGs ca X es fs) (hn : (assignEach es X.env).length = n := by rfl) (hst : (assignEach es X.env).findIdx? (·.1) = none := by rfl) : JG ca X (.Tuple es k pos) (gTp n fs) := by
  obtain ⟨t, p, q⟩ := h
  refine ⟨_, pg_tup hc p hn hst, fun as H σ env st v d Q he hs hv hq => ?_⟩
  cases hv <;> first | exact False.elim hq | skip
  rename_i a xs ds h1 h2
  unfold gTp at hq
  dsimp only at hq
  by_cases hl : ds.length = n
  · rw [if_pos hl] at hq
    exact ⟨_, _, rfl, ext_t (stab_sub _ _) h1, by rw [h2.len]; exact hl, q as H σ env st _ _ Q he hs h2 hq⟩
  · rw [if_neg hl] at hq
    exact hq.elim
def sAsgG (fa : F D) (g : FG) : FS := fun env st => bndS (fa env st) env fun d st => match g d env st with | none => none | some (env', st') => some (.nx env', st')
theorem js_asgG {tg : Expr} {gg : FG} (he : JE ca X W e fa) (hg : JG ca X tg gg) (hs : swapsWithSole [tg] e pos.line X.env = pure false := by rfl) (hw : swappedStores [tg] e X.env = pure none := by rfl)
    (h1 : (assignEach [tg] X.env).map (·.2) = [assign tg X.env] := by rfl) : JS ca X W (.Assign [tg] e pos) (sAsgG fa gg) := by
  obtain ⟨t, p, q⟩ := he
  obtain ⟨u, p2, q2⟩ := hg
  refine ⟨_, ps_asg p p2 hs hw h1, fun as H σ env st E he hs hp => ?_⟩
  refine q as H σ env st _ he hs (PostS.bnd hp he fun d st1 v as1 H1 s1 k1 i1 p1 => ?_)
  refine q2 as1 H1 σ env st1 v d _ (he.step s1) k1 i1 ?_
  cases e : gg d env st1 with
  | none => simp only [e] at p1; exact p1
  | some r =>
    obtain ⟨env', st'⟩ := r
    simp only [e] at p1
    exact fun σ' H' s2 k2 he2 => p1 σ' as1 H' s2 k2 he2
/-- o[i] = e, o a list that is changed -/
def sSub (fa fo fi : F D) : FS := fun env st => bndS (fa env st) env fun d st => bndS (fo env st) env fun o st => bndS (fi env st) env fun i st => match o, i with
  | .cell k, .int i => (match st[k]? with
    | some (.lst ds) => (match ixN ds.length i with | some j => some (.nx env, st.set k (.lst (ds.set j d))) | none => none)
    | _ => none)
  | _, _ => none
theorem js_sub {o i : Expr} {fo fi : F D} {p' : Pos} (he : JE ca X W e fa) (ho : JE ca X W o fo) (hi : JE ca X W i fi) (ha : ∀ v, assign (.Subscript o i p') X.env v = (do
      let ov ← holding [v] (eval o X.env)
      let iv ← holding [v, ov] (eval i X.env)
      standAt p'
      holding [v, ov, iv] (setItem ov iv v)
      release [v, ov, iv] []) := by intro _; rfl) (hs : swapsWithSole [.Subscript o i p'] e pos.line X.env = pure false := by rfl) (hw : swappedStores [.Subscript o i p'] e X.env = pure none := by rfl)
    (h1 : (assignEach [.Subscript o i p'] X.env).map (·.2) = [assign (.Subscript o i p') X.env] := by rfl) : JS ca X W (.Assign [.Subscript o i p'] e pos) (sSub fa fo fi) := by
  obtain ⟨t, p, q⟩ := he
  obtain ⟨to, p2, q2⟩ := ho
  obtain ⟨ti, p3, q3⟩ := hi
  refine ⟨_, ps_asg p (pg_sub p2 p3 set_list ha) hs hw h1, fun as H σ env st E he hs hp => ?_⟩
  refine q as H σ env st _ he hs (PostS.bnd hp he fun d st1 v as1 H1 s1 k1 i1 p1 => ?_)
  refine q2 as1 H1 σ env st1 _ (he.step s1) k1 (PostS.bnd p1 (he.step s1) fun od st2 ov as2 H2 s2 k2 i2 p2 => ?_)
  refine q3 as2 H2 σ env st2 _ ((he.step s1).step s2) k2 (PostS.bnd p2 ((he.step s1).step s2) fun id st3 iv as3 H3 s3 k3 i3 p3 => ?_)
  have i2' := i2.step s3
  have i1' := (i1.step s2).step s3
  cases i2' <;> cases i3 <;> first | exact False.elim p3 | skip
  rename_i a j hj i
  dsimp only at p3
  split at p3
  · rename_i ds eds
    split at p3
    · rename_i jj ejj
      have c := k3.at_ j a _ hj eds
      cases hq : H3 a with
      | none => rw [hq] at c; exact c.elim
      | some u =>
        rw [hq] at c
        cases u <;> first | exact False.elim c | skip
        rename_i xs
        have c' : IsDs X.K ca as3 (stab as3 H3) xs ds := c
        have st3' := Step.chg (as := as3) (H := H3) (o := .lst (xs.set jj v)) hj
        exact ⟨a, xs, i, jj, rfl, rfl, hq, by rw [c'.len]; exact ejj, p3 σ as3 _ st3' (k3.chg hj (c'.set jj i1')) ((((he.step s1).step s2).step s3).step st3')⟩
    · exact p3.elim
  · exact p3.elim
/-- x.append(e), x a list that is changed -/
def oApp (k : Nat) (d : D) (st : Sta) : Option (R D) := match st[k]? with
  | some (.lst ds) => if ds.length < 100000 then some (.ok .non (st.set k (.lst (ds ++ [d])))) else none
  | _ => none
def isLst (c : Option Cell) : Bool := match c with | some (.lst _) => true | _ => false
def fApp (fo fa : F D) : F D := fun env st => bnd (fo env st) fun o st => match o with
  | .cell k => if isLst st[k]? = true then bnd (fa env st) fun d st => oApp k d st else none
  | _ => none
theorem sz_lt {n : Nat} (h : n < 100000) : n < sizeLine := Nat.lt_of_lt_of_le h (by decide)

theorem je_append {o : Expr} {fo : F D} {apos cpos : Pos} (ho : JE ca X W o fo) (ha : JE ca X W e fa) (hb : attributeBase o "append" X.env (eval o X.env) = eval o X.env := by rfl)
    (h2 : ((((backTo cpos (starEach [e] X.env)).all fun x => !x.1) && (backToKw cpos (keywordEach [] X.env)).all fun x => x.1.isSome) && decide (([e].length + ([] : List Keyword).length + if ([] : List Keyword).isEmpty = true then 0 else 1) < 30)) = true := by rfl)
    (h3 : (apos.endLine == cpos.line) = true := by rfl) (h4 : starEach [e] X.env = (false, eval e X.env) :: starEach [] X.env := by rfl) (h5 : ((backTo cpos (starEach [] X.env)).any fun x => x.1) = false := by rfl) :
    JE ca X W (.Call (.Attribute o "append" apos) [e] [] cpos) (fApp fo fa) := by
  obtain ⟨to, p, q⟩ := ho
  obtain ⟨ta, p2, q2⟩ := ha
  refine ⟨_, pe_bm PySem.F.plainAttrs_list PySem.F.slot_list_append PySem.F.type_list_append mt_append p (pa_cons p2 pa_nil h4) hb h2 h3 h4 h5, fun as H σ env st Q he hs hp => ?_⟩
  refine q as H σ env st _ he hs (Post.bnd hp fun od st1 v as1 H1 s1 k1 i1 p1 => ?_)
  cases i1 with
  | @cell a j hj =>
    dsimp only at p1
    by_cases hl : isLst st1[j]? = true
    · rw [if_pos hl] at p1
      have get : ∀ {as' : Wl} {H' : Hp} {st' : Sta} {ds : List D}, StOk X.K ca as' H' st' → as'.as[j]? = some a → st'[j]? = some (.lst ds) → ∃ xs, H' a = some (.lst xs) ∧ IsDs X.K ca as' (stab as' H') xs ds := fun {as' H' st' ds} k' e' hs => by
        have c := k'.at_ j a _ e' hs
        cases hq : H' a with
        | none => rw [hq] at c; exact c.elim
        | some u =>
          rw [hq] at c
          cases u <;> first | exact False.elim c | exact ⟨_, rfl, c⟩
      have hty : tyV X.K "list" (.ref a) H1 := by
        unfold isLst at hl
        split at hl
        · rename_i ds e
          obtain ⟨xs, hx, _⟩ := get k1 hj e
          exact .inl ⟨rfl, xs, SqL.of hx⟩
        · cases hl
      refine ⟨hty, ?_⟩
      refine q2 as1 H1 σ env st1 _ (he.step s1) k1 (Post.bnd p1 fun d st2 w as2 H2 s2 k2 i2 p2 => ?_)
      have hj2 := pre_get s2.pre hj
      unfold oApp at p2
      split at p2
      · rename_i ds e
        obtain ⟨xs, hx, hd⟩ := get k2 hj2 e
        by_cases hz : ds.length < 100000
        · rw [if_pos hz] at p2
          have sc := Step.chg (as := as2) (H := H2) (o := .lst (xs ++ [w])) hj2
          exact ⟨a, xs, w, rfl, rfl, hx, by rw [hd.len]; exact sz_lt hz, p2 .non as2 _ sc (k2.chg hj2 (hd.append (.cons i2 .nil))) .non⟩
        · rw [if_neg hz] at p2
          exact p2.elim
      · exact p2.elim
    · rw [if_neg hl] at p1
      exact p1.elim
  | _ => exact False.elim p1
/-! ### for -/
def forF (g : FG) (body : FS) : List D → FS
  | [], env, st => some (.nx env, st)
  | d :: ds, env, st => match g d env st with
    | none => none
    | some (env1, st1) => match body env1 st1 with
      | some (.nx env2, st2) => forF g body ds env2 st2
      | some (.ct env2, st2) => forF g body ds env2 st2
      | some (.bk env2, st2) => some (.nx env2, st2)
      | r => r
/-- over a list that stands still -/
def sFor (fa : F D) (g : FG) (body : FS) : FS := fun env st => bndS (fa env st) env fun x st => match x with
  | .lst ds => forF g body ds env st
  | .fls ds => forF g body ds env st
  | _ => none
def sForT (fa : F D) (g : FG) (body : FS) : FS := fun env st => bndS (fa env st) env fun x st => match x with
  | .tup ds => forF g body ds env st
  | _ => none
def rng (lo : Int) (n : Nat) : List D := (List.range n).map fun (i : Nat) => D.int (lo + (i : Int))
def sForR (fa : F D) (g : FG) (body : FS) : FS := fun env st => bndS (fa env st) env fun x st => match x with
  | .int n => if -(2 ^ 62) ≤ n ∧ n < 2 ^ 62 then forF g body (rng 0 n.toNat) env st else none
  | _ => none
def sForR2 (fa fb : F D) (g : FG) (body : FS) : FS := fun env st => bndS (fa env st) env fun x st => bndS (fb env st) env fun y st => match x, y with
  | .int i, .int j => if -(2 ^ 62) ≤ i ∧ i < 2 ^ 62 ∧ -(2 ^ 62) ≤ j ∧ j < 2 ^ 62 then forF g body (rng i (j - i).toNat) env st else none
  | _, _ => none
/-- one turn -/
theorem turn_is {K : PySem.W.Frag} {tg : TG} {g : FG} {tb : TS} {body : FS} {E : Ends} {as : Wl} {H : Hp} {σ : L2.St} {env : Evn} {st : Sta} {v : V} {d : D} {ds : List D} {N : L2.St → Hp → Prop} (hg : GvS K ca tg g) (hb : SvS K ca W tb body)
    (he : EnvOk K ca as (stab as H) σ env) (hs : StOk K ca as H st) (hv : IsD K ca as (stab as H) v d) (hp : PostS K ca W as H (forF g body (d :: ds) env st) E)
    (hN : ∀ as' H' σ' env' st', Step as H as' H' → EnvOk K ca as' (stab as' H') σ' env' → StOk K ca as' H' st' → PostS K ca W as' H' (forF g body ds env' st') E → N σ' H') :
    tg v σ H fun σ2 H2 => tb { E with nx := N, ct := N, bk := E.nx } σ2 H2 := by
  refine hg as H σ env st v d _ he hs hv ?_
  unfold forF at hp
  cases e : g d env st with
  | none => simp only [e] at hp; exact hp
  | some q =>
    obtain ⟨env1, st1⟩ := q
    simp only [e] at hp
    intro σ1 H1 s1 k1 he1
    refine hb as H1 σ1 env1 st1 _ he1 k1 ?_
    have hp := PostS.step hp s1
    cases eb : body env1 st1 with
    | none => simp only [eb] at hp; exact hp
    | some q =>
      obtain ⟨o, st2⟩ := q
      simp only [eb] at hp
      cases o with
      | nx env2 => exact fun σ2 as2 H2 s2 k2 he2 => hN as2 H2 σ2 env2 st2 (s1.trans s2) he2 k2 (PostS.step hp s2)
      | ct env2 => exact fun σ2 as2 H2 s2 k2 he2 => hN as2 H2 σ2 env2 st2 (s1.trans s2) he2 k2 (PostS.step hp s2)
      | bk env2 => exact hp
      | rt d => exact hp
      | er c fs env2 => exact hp
theorem for_inv {K : PySem.W.Frag} {tg : TG} {g : FG} {tb : TS} {body : FS} {E : Ends} {as : Wl} {H : Hp} {xs : List V} {ds : List D} (hg : GvS K ca tg g) (hb : SvS K ca W tb body) (hx : IsDs K ca as (stab as H) xs ds) :
    let Pv : Nat → L2.St → Hp → Prop := fun i σ' H' => ∃ as' env' st', Step as H as' H' ∧ EnvOk K ca as' (stab as' H') σ' env' ∧ StOk K ca as' H' st' ∧ PostS K ca W as' H' (forF g body (ds.drop i) env' st') E
    (∀ i x σ' H', xs[i]? = some x → Pv i σ' H' → tg x σ' H' fun σ2 H2 => tb { E with nx := Pv (i + 1), ct := Pv (i + 1), bk := E.nx } σ2 H2) ∧ (∀ σ' H', Pv xs.length σ' H' → E.nx σ' H') := by
  intro Pv
  refine ⟨fun i x σ' H' ex ⟨as', env', st', s, he, k, p⟩ => ?_, fun σ' H' ⟨as', env', st', s, he, k, p⟩ => ?_⟩
  · obtain ⟨d, ed, hd⟩ := hx.getV ex
    have e1 : ds.drop i = d :: ds.drop (i + 1) := by
      obtain ⟨hl, e⟩ := List.getElem?_eq_some_iff.mp ed
      rw [List.drop_eq_getElem_cons hl, e]
    rw [e1] at p
    exact turn_is hg hb he k (hd.step s) p fun as2 H2 σ2 env2 st2 s2 he2 k2 p2 => ⟨as2, env2, st2, s.trans s2, he2, k2, p2⟩
  · rw [hx.len, List.drop_length] at p
    exact PostS.here p k he
variable {tgE : Expr} {gg : FG} {bodyS : List Stmt} {iter : Expr}
theorem js_forL (hp : PassesOwn (model X.prog X.w) X.A X.env X.xe) (hc : X.calm = true) (hi : JE ca X W iter fa) (hg : JG ca X tgE gg) (hb : JB ca X W bodyS f) (hs : ∀ x, foldedSetIterable iter X.env x = pure x := by intro _; rfl) :
    JS ca X W (.For tgE iter bodyS [] pos) (sFor fa gg f) := by
  obtain ⟨t, p, q⟩ := hi
  obtain ⟨tg, pg, qg⟩ := hg
  obtain ⟨tb, pb, qb⟩ := hb
  refine ⟨_, ps_for hp hc (pi_list p) pg pb hs, fun as H σ env st E he hs hp => ?_⟩
  refine q as H σ env st _ he hs (PostS.bnd hp he fun d st1 v as1 H1 s1 k1 i1 p1 => ?_)
  obtain ⟨a, xs, ds, ev, hl, hd, hq⟩ : ∃ (a : Addr) (xs : List V) (ds : List D), v = .ref a ∧ SqL X.K (stab as1 H1) a xs ∧ IsDs X.K ca as1 (stab as1 H1) xs ds ∧ PostS X.K ca W as1 H1 (forF gg f ds env st1) E := by
    cases i1 <;> first | exact False.elim p1 | skip
    · rename_i h1 h2
      exact ⟨_, _, _, rfl, SqL.of h1, h2, p1⟩
    · rename_i h1 h2
      exact ⟨_, _, _, rfl, h1, h2, p1⟩
  obtain ⟨h1, h2⟩ := for_inv (E := E) qg qb hd
  exact ⟨a, ev, ⟨xs, ext_l (stab_sub _ _) hl⟩, for_list (K := X.K) (a := a) (xs := xs) _ ⟨as1, env, st1, Step.refl _ _, he.step s1, k1, hq⟩ (fun i σ' H' _ ⟨as', _, _, s, _⟩ => ext_l (stab_sub _ _) (ext_l s.ext hl)) h1 h2⟩
theorem js_forT (hp : PassesOwn (model X.prog X.w) X.A X.env X.xe) (hc : X.calm = true) (hi : JE ca X W iter fa) (hg : JG ca X tgE gg) (hb : JB ca X W bodyS f) (hs : ∀ x, foldedSetIterable iter X.env x = pure x := by intro _; rfl) :
    JS ca X W (.For tgE iter bodyS [] pos) (sForT fa gg f) := by
  obtain ⟨t, p, q⟩ := hi
  obtain ⟨tg, pg, qg⟩ := hg
  obtain ⟨tb, pb, qb⟩ := hb
  refine ⟨_, ps_for hp hc (pi_tup p) pg pb hs, fun as H σ env st E he hs hp => ?_⟩
  refine q as H σ env st _ he hs (PostS.bnd hp he fun d st1 v as1 H1 s1 k1 i1 p1 => ?_)
  cases i1 <;> first | exact False.elim p1 | skip
  rename_i a xs ds h1 h2
  obtain ⟨q1, q2⟩ := for_inv (E := E) qg qb h2
  exact ⟨a, rfl, ⟨xs, ext_t (stab_sub _ _) h1⟩, for_tup (K := X.K) (a := a) (xs := xs) _ ⟨as1, env, st1, Step.refl _ _, he.step s1, k1, p1⟩ (fun i σ' H' _ ⟨as', _, _, s, _⟩ => ext_t (stab_sub _ _) (ext_t s.ext h1)) q1 q2⟩
theorem for_invR {K : PySem.W.Frag} {tg : TG} {g : FG} {tb : TS} {body : FS} {E : Ends} {as : Wl} {H : Hp} {lo : Int} {n : Nat} (hg : GvS K ca tg g) (hb : SvS K ca W tb body) :
    let Pv : Nat → L2.St → Hp → Prop := fun i σ' H' => ∃ as' env' st', Step as H as' H' ∧ EnvOk K ca as' (stab as' H') σ' env' ∧ StOk K ca as' H' st' ∧ PostS K ca W as' H' (forF g body ((rng lo n).drop i) env' st') E
    (∀ i σ' H', i < n → Pv i σ' H' → tg (.int (lo + i)) σ' H' fun σ2 H2 => tb { E with nx := Pv (i + 1), ct := Pv (i + 1), bk := E.nx } σ2 H2) ∧ (∀ σ' H', Pv n σ' H' → E.nx σ' H') := by
  intro Pv
  have hln : (rng lo n).length = n := by unfold rng; simp
  refine ⟨fun i σ' H' hi ⟨as', env', st', s, he, k, p⟩ => ?_, fun σ' H' ⟨as', env', st', s, he, k, p⟩ => ?_⟩
  · have e1 : (rng lo n).drop i = .int (lo + i) :: (rng lo n).drop (i + 1) := by
      rw [List.drop_eq_getElem_cons (by rw [hln]; exact hi)]
      congr 1
      unfold rng
      simp
    rw [e1] at p
    exact turn_is hg hb he k (.int _) p fun as2 H2 σ2 env2 st2 s2 he2 k2 p2 => ⟨as2, env2, st2, s.trans s2, he2, k2, p2⟩
  · rw [List.drop_eq_nil_of_le (by rw [hln]; exact Nat.le_refl _)] at p
    exact PostS.here p k he
theorem js_forR {b : Expr} {pr pp : Pos} (hp : PassesOwn (model X.prog X.w) X.A X.env X.xe) (hc : X.calm = true) (hgl : Gl X "range") (hm : X.mg "range" = none) (hi : JE ca X W b fa) (hg : JG ca X tgE gg) (hb : JB ca X W bodyS f) (hs : ∀ x, foldedSetIterable (.Call (.Name "range" pr) [b] [] pp) X.env x = pure x := by intro _; rfl)
    (hst : starEach [b] X.env = [(false, eval b X.env)] := by rfl) (hst2 : starEach [b] X.env = (false, eval b X.env) :: starEach [] X.env := by rfl) :
    JS ca X W (.For tgE (.Call (.Name "range" pr) [b] [] pp) bodyS [] pos) (sForR fa gg f) := by
  obtain ⟨t, p, q⟩ := hi
  obtain ⟨tg, pg, qg⟩ := hg
  obtain ⟨tb, pb, qb⟩ := hb
  refine ⟨_, ps_for hp hc (pi_range1 hgl hm (pa_cons p pa_nil hst2) hst) pg pb hs, fun as H σ env st E he hs hp => ?_⟩
  refine q as H σ env st _ he hs (PostS.bnd hp he fun d st1 v as1 H1 s1 k1 i1 p1 => ?_)
  cases i1 <;> first | exact False.elim p1 | skip
  rename_i j
  dsimp only at p1
  by_cases h : -(2 ^ 62) ≤ j ∧ j < 2 ^ 62
  · rw [if_pos h] at p1
    obtain ⟨q1, q2⟩ := for_invR (E := E) (lo := 0) (n := j.toNat) (as := as1) (H := H1) qg qb
    exact ⟨j, rfl, h.1, h.2, for_range (lo := 0) (n := j.toNat) _ ⟨as1, env, st1, Step.refl _ _, he.step s1, k1, p1⟩ q1 q2⟩
  · rw [if_neg h] at p1
    exact p1.elim
theorem js_forR2 {a b : Expr} {fb : F D} {pr pp : Pos} (hp : PassesOwn (model X.prog X.w) X.A X.env X.xe) (hc : X.calm = true) (hgl : Gl X "range") (hm : X.mg "range" = none) (hi : JE ca X W a fa) (hj : JE ca X W b fb) (hg : JG ca X tgE gg) (hb : JB ca X W bodyS f) (hs : ∀ x, foldedSetIterable (.Call (.Name "range" pr) [a, b] [] pp) X.env x = pure x := by intro _; rfl)
    (hst : starEach [a, b] X.env = [(false, eval a X.env), (false, eval b X.env)] := by rfl) (hst2 : starEach [b] X.env = [(false, eval b X.env)] := by rfl) (hst3 : starEach [a, b] X.env = (false, eval a X.env) :: starEach [b] X.env := by rfl) (hst4 : starEach [b] X.env = (false, eval b X.env) :: starEach [] X.env := by rfl) :
    JS ca X W (.For tgE (.Call (.Name "range" pr) [a, b] [] pp) bodyS [] pos) (sForR2 fa fb gg f) := by
  obtain ⟨t, p, q⟩ := hi
  obtain ⟨t', p', q'⟩ := hj
  obtain ⟨tg, pg, qg⟩ := hg
  obtain ⟨tb, pb, qb⟩ := hb
  refine ⟨_, ps_for hp hc (pi_range2 hgl hm (pa_cons p (pa_cons p' pa_nil hst4) hst3) hst hst2) pg pb hs, fun as H σ env st E he hs hp => ?_⟩
  refine q as H σ env st _ he hs (PostS.bnd hp he fun d st1 v as1 H1 s1 k1 i1 p1 => ?_)
  refine q' as1 H1 σ env st1 _ (he.step s1) k1 (PostS.bnd p1 (he.step s1) fun d2 st2 v2 as2 H2 s2 k2 i2 p2 => ?_)
  cases i1 <;> cases i2 <;> first | exact False.elim p2 | skip
  rename_i i j
  dsimp only at p2
  by_cases h : -(2 ^ 62) ≤ i ∧ i < 2 ^ 62 ∧ -(2 ^ 62) ≤ j ∧ j < 2 ^ 62
  · rw [if_pos h] at p2
    obtain ⟨q1, q2⟩ := for_invR (E := E) (lo := i) (n := (j - i).toNat) (as := as2) (H := H2) qg qb
    exact ⟨i, j, rfl, h, for_range (lo := i) (n := (j - i).toNat) _ ⟨as2, env, st2, Step.refl _ _, (he.step s1).step s2, k2, p2⟩ q1 q2⟩
  · rw [if_neg h] at p2
    exact p2.elim
end
end DS

namespace DS
open PySem L2 PySem.Spec PyProof.Rows
/-! ### defs -/
mutual
def pl (n : Nat) : D → Bool
  | .cell k => decide (k < n)
  | .tup ds => pls n ds
  | .lst ds => pls n ds
  | .fls ds => pls n ds
  | .ins _ fs => plf n fs
  | .opq _ fs => plf n fs
  | .dic ks vs => pls n ks && pls n vs
  | .dik ks vs => pls n ks && pls n vs
  | .lok _ _ => false
  | _ => true
def pls (n : Nat) : List D → Bool
  | [] => true
  | d :: ds => pl n d && pls n ds
def plf (n : Nat) : List (Str × D) → Bool
  | [] => true
  | (_, d) :: ds => pl n d && plf n ds
end
def plk (n : Nat) : List (Int × D) → Bool
  | [] => true
  | (_, d) :: ds => pl n d && plk n ds
def plt (n : Nat) : List (Str × D) → Bool
  | [] => true
  | (_, d) :: ds => pl n d && plt n ds
/-- what was changed within and is handed out stands still from now on -/
def fz (n : Nat) (st : Sta) (d : D) : Option D := match d with
  | .cell k => if k < n then some (.cell k) else match st[k]? with
    | some (.lst ds) => if pls n ds = true then some (.lst ds) else none
    | some (.dct ks) => if plk n ks = true then some (.dic (ks.map fun x => .int x.1) (ks.map (·.2))) else none
    | some (.dcs ks) => if plt n ks = true then some (.dic (ks.map fun x => .str x.1) (ks.map (·.2))) else none
    | some (.dck ks ds) => if pls n ks = true ∧ pls n ds = true then some (.dik ks ds) else none
    | _ => none
  | d => if pl n d = true then some d else none
def fzs (n : Nat) (st : Sta) : List D → Option (List D)
  | [] => some []
  | d :: ds => (fz n st d).bind fun d' => (fzs n st ds).map fun ds' => d' :: ds'
def fz2 (n : Nat) (st : Sta) (d : D) : Option D := match d with
  | .tup ds => (fzs n st ds).map .tup
  | d => fz n st d
def Wl.cut (as : Wl) (n : Nat) : Wl := ⟨as.as.take n, as.hs⟩
section
variable {K : PySem.W.Frag} {ca : Ca} {as : Wl} {H : Hp} {n : Nat} {st : Sta}
theorem stab_cut : Ext (stab as H) (stab (as.cut n) H) := fun a o h => by
  obtain ⟨h1, h2, h3⟩ := stab_some h
  rw [stab_out (as := as.cut n) (fun z => h1 (List.mem_of_mem_take z)) h2]
  exact h3
mutual
theorem IsD.cut {v : V} {d : D} (h : IsD K ca as (stab as H) v d) (p : pl n d = true) : IsD K ca (as.cut n) (stab (as.cut n) H) v d := by
  cases h with
  | non => exact .non
  | bl b => exact .bl b
  | int i => exact .int i
  | str x => exact .str x
  | tup h1 h2 => unfold pl at p; exact .tup (ext_t stab_cut h1) (IsDs.cut' h2 p)
  | lst h1 h2 => unfold pl at p; exact .lst (stab_cut _ _ h1) (IsDs.cut' h2 p)
  | fls h1 h2 => unfold pl at p; exact .fls (ext_l stab_cut h1) (IsDs.cut' h2 p)
  | ins h0 h1 h2 => unfold pl at p; exact .ins h0 (stab_cut _ _ h1) (IsFs.cut h2 p)
  | cell h1 =>
    unfold pl at p
    refine .cell ?_
    show (as.as.take n)[_]? = _
    rw [List.getElem?_take_of_lt (of_decide_eq_true p)]
    exact h1
  | opq0 h1 => exact .opq0 h1
  | opq1 h1 h2 h3 => unfold pl at p; exact .opq1 h1 (stab_cut _ _ h2) (IsFs.cut h3 p)
  | dic h1 h2 h3 h4 h5 => unfold pl at p; rw [Bool.and_eq_true] at p; exact .dic (stab_cut _ _ h1) h2 h3 (IsDs.cut' h4 p.1) (IsDs.cut' h5 p.2)
  | lok h1 h2 h3 h4 h5 => unfold pl at p; cases p
  | dik h1 h0 h2 h3 h4 h5 => unfold pl at p; rw [Bool.and_eq_true] at p; exact .dik (stab_cut _ _ h1) h0 h2 h3 (IsDs.cut' h4 p.1) (IsDs.cut' h5 p.2)
theorem IsDs.cut' {vs : List V} {ds : List D} (h : IsDs K ca as (stab as H) vs ds) (p : pls n ds = true) : IsDs K ca (as.cut n) (stab (as.cut n) H) vs ds := by
  cases h with
  | nil => exact .nil
  | cons h1 h2 =>
    unfold pls at p
    rw [Bool.and_eq_true] at p
    exact .cons (IsD.cut h1 p.1) (IsDs.cut' h2 p.2)
theorem IsFs.cut {vs : List (Str × V)} {ds : List (Str × D)} (h : IsFs K ca as (stab as H) vs ds) (p : plf n ds = true) : IsFs K ca (as.cut n) (stab (as.cut n) H) vs ds := by
  cases h with
  | nil => exact .nil
  | cons h1 h2 =>
    unfold plf at p
    rw [Bool.and_eq_true] at p
    exact .cons (IsD.cut h1 p.1) (IsFs.cut h2 p.2)
end
theorem IsKs.cut : ∀ {r : List (Key × V)} {s : List (Int × D)}, IsKs K ca as (stab as H) r s → plk n s = true → IsKs K ca (as.cut n) (stab (as.cut n) H) r s
  | [], [], _, _ => trivial
  | [], _ :: _, h, _ => h.elim
  | _ :: _, [], h, _ => h.elim
  | (_, _) :: _, (_, _) :: _, h, p => by
    unfold plk at p
    rw [Bool.and_eq_true] at p
    exact ⟨h.1, h.2.1.cut p.1, IsKs.cut h.2.2 p.2⟩
theorem IsKt.cut : ∀ {r : List (Key × V)} {s : List (Str × D)}, IsKt K ca as (stab as H) r s → plt n s = true → IsKt K ca (as.cut n) (stab (as.cut n) H) r s
  | [], [], _, _ => trivial
  | [], _ :: _, h, _ => h.elim
  | _ :: _, [], h, _ => h.elim
  | (_, _) :: _, (_, _) :: _, h, p => by
    unfold plt at p
    rw [Bool.and_eq_true] at p
    exact ⟨h.1, h.2.1.cut p.1, IsKt.cut h.2.2 p.2⟩
theorem ks_keys {as : Wl} {G : Hp} : ∀ {r : List (Key × V)} {s : List (Int × D)}, IsKs K ca as G r s → IsDs K ca as G (r.map fun x => kV x.1) (s.map fun x => .int x.1) ∧ IsDs K ca as G (r.map (·.2)) (s.map (·.2))
  | [], [], _ => ⟨.nil, .nil⟩
  | [], _ :: _, h => h.elim
  | _ :: _, [], h => h.elim
  | (_, _) :: _, (_, _) :: _, h => by
    obtain ⟨h1, h2, h3⟩ := h
    subst h1
    exact ⟨.cons (.int _) (ks_keys h3).1, .cons h2 (ks_keys h3).2⟩
theorem kt_keys {as : Wl} {G : Hp} : ∀ {r : List (Key × V)} {s : List (Str × D)}, IsKt K ca as G r s → IsDs K ca as G (r.map fun x => kV x.1) (s.map fun x => .str x.1) ∧ IsDs K ca as G (r.map (·.2)) (s.map (·.2))
  | [], [], _ => ⟨.nil, .nil⟩
  | [], _ :: _, h => h.elim
  | _ :: _, [], h => h.elim
  | (_, _) :: _, (_, _) :: _, h => by
    obtain ⟨h1, h2, h3⟩ := h
    subst h1
    exact ⟨.cons (.str _) (kt_keys h3).1, .cons h2 (kt_keys h3).2⟩
theorem fz_is {v : V} {d d' : D} (k : StOk K ca as H st) (h : IsD K ca as (stab as H) v d) (e : fz n st d = some d') : IsD K ca (as.cut n) (stab (as.cut n) H) v d' := by
  unfold fz at e
  split at e
  · rename_i j
    cases h with
    | cell h1 =>
      rename_i a
      split at e
      · rename_i hj
        cases e
        refine .cell ?_
        show (as.as.take n)[_]? = _
        rw [List.getElem?_take_of_lt hj]
        exact h1
      · rename_i hj
        have out : ∀ {o : HO}, H a = some o → stab (as.cut n) H a = some o := fun {o} hq => by
          rw [stab_out]
          · exact hq
          · intro z
            obtain ⟨i, hi, ei⟩ := List.mem_iff_getElem.mp (show a ∈ as.as.take n from z)
            have hi' : i < n := by rw [List.length_take] at hi; omega
            have e2 : as.as[i]? = some a := by
              rw [← List.getElem?_take_of_lt hi', List.getElem?_eq_getElem hi, ei]
            have := nd_ix k.nd e2 h1
            omega
          · intro z
            exact (k.hid a z).1 (List.mem_of_getElem? h1)
        split at e
        · rename_i ds es
          split at e
          · rename_i hp
            cases e
            have c := k.at_ j a _ h1 es
            cases hq : H a with
            | none => rw [hq] at c; exact c.elim
            | some u =>
              rw [hq] at c
              cases u <;> first | exact False.elim c | skip
              rename_i xs
              have c' : IsDs K ca as (stab as H) xs ds := c
              exact .lst (out hq) (c'.cut' hp)
          · cases e
        · rename_i ds es
          split at e
          · rename_i hp
            cases e
            have c := k.at_ j a _ h1 es
            cases hq : H a with
            | none => rw [hq] at c; exact c.elim
            | some u =>
              rw [hq] at c
              cases u <;> first | exact False.elim c | skip
              rename_i xs
              have c' : IsKs K ca (as.cut n) (stab (as.cut n) H) xs ds := IsKs.cut (show IsKs K ca as (stab as H) xs ds from c) hp
              exact .dic (out hq) rfl rfl (ks_keys c').1 (ks_keys c').2
          · cases e
        · rename_i ds es
          split at e
          · rename_i hp
            cases e
            have c := k.at_ j a _ h1 es
            cases hq : H a with
            | none => rw [hq] at c; exact c.elim
            | some u =>
              rw [hq] at c
              cases u <;> first | exact False.elim c | skip
              rename_i xs
              have c' : IsKt K ca (as.cut n) (stab (as.cut n) H) xs ds := IsKt.cut (show IsKt K ca as (stab as H) xs ds from c) hp
              exact .dic (out hq) rfl rfl (kt_keys c').1 (kt_keys c').2
          · cases e
        · rename_i ks ds es
          split at e
          · rename_i hp
            cases e
            have c := k.at_ j a _ h1 es
            cases hq : H a with
            | none => rw [hq] at c; exact c.elim
            | some u =>
              rw [hq] at c
              cases u <;> first | exact False.elim c | skip
              obtain ⟨xs, c1, c0, c2, c3⟩ := c
              exact .dik (out (hq.trans (congrArg some c1))) c0 rfl rfl (c2.cut' hp.1) (c3.cut' hp.2)
          · cases e
        · cases e
  · split at e
    · rename_i hp
      cases e
      exact h.cut hp
    · cases e
theorem fzs_is (k : StOk K ca as H st) : ∀ {ds ds' : List D} {vs : List V}, IsDs K ca as (stab as H) vs ds → fzs n st ds = some ds' → IsDs K ca (as.cut n) (stab (as.cut n) H) vs ds'
  | [], _, _, h, e => by cases h; unfold fzs at e; cases e; exact .nil
  | d :: ds, _, _, h, e => by
    cases h with
    | cons h1 h2 =>
      unfold fzs at e
      obtain ⟨d', e1, e2⟩ := Option.bind_eq_some_iff.mp e
      obtain ⟨ds', e3, e4⟩ := Option.map_eq_some_iff.mp e2
      subst e4
      exact .cons (fz_is k h1 e1) (fzs_is k h2 e3)
theorem fz2_is {v : V} {d d' : D} (k : StOk K ca as H st) (h : IsD K ca as (stab as H) v d) (e : fz2 n st d = some d') : IsD K ca (as.cut n) (stab (as.cut n) H) v d' := by
  unfold fz2 at e
  split at e
  · rename_i ds
    obtain ⟨ds', e3, e4⟩ := Option.map_eq_some_iff.mp e
    subst e4
    cases h with
    | tup h1 h2 => exact .tup (ext_t stab_cut h1) (fzs_is k h2 e3)
  · exact fz_is k h e
end
/-- the def's meaning by its body's -/
def pls_st (n : Nat) : Sta → Bool
  | [] => true
  | .lst ds :: r => pls n ds && pls_st n r
  | .ins _ fs :: r => plf n fs && pls_st n r
  | .dct ks :: r => plk n ks && pls_st n r
  | .dcs ks :: r => plt n ks && pls_st n r
  | .dck ks ds :: r => (pls n ks && pls n ds) && pls_st n r
def endF (n : Nat) : Option (O × Sta) → Option (R D)
  | some (.rt d, st) => if st.length = n then some (.ok d st) else if pls_st n (st.take n) = true then (fz2 n st d).map fun d' => .ok d' (st.take n) else none
  | some (.nx _, st) => if st.length = n then some (.ok .non st) else if pls_st n (st.take n) = true then some (.ok .non (st.take n)) else none
  | some (.er c fs _, st) => if st.length = n then some (.err c fs st) else if pls_st n (st.take n) = true ∧ plf n fs = true then some (.err c fs (st.take n)) else none
  | _ => none
def fnF (m : Nat) (fb : FS) (ds : List D) (st : Sta) : Option (R D) := endF st.length (fb (ds.map some ++ List.replicate (m - ds.length) none) st)
/-- what a def promises -/
def PostF (K : PySem.W.Frag) (ca : Ca) (as : Wl) (H : Hp) : Option (R D) → VK → XK → Prop
  | none, _, _ => False
  | some (.ok d st), Q, _ => ∀ v H', Step as H as H' → StOk K ca as H' st → IsD K ca as (stab as H') v d → Q v H'
  | some (.err c fs st), _, E => ∀ cls dd H', Step as H as H' → StOk K ca as H' st → ErrOk K ca as (stab as H') cls dd c fs → E cls dd H'
def spD (K : PySem.W.Frag) (ca : Ca) (n : Nat) (Fm : List D → Sta → Option (R D)) : Sp := fun vs H Q E => ∃ as st ds, IsDs K ca as (stab as H) vs ds ∧ StOk K ca as H st ∧ ds.length = n ∧ PostF K ca as H (Fm ds st) Q E
section
variable {K : PySem.W.Frag} {ca : Ca} {as as' : Wl} {H H' : Hp} {n : Nat} {st : Sta}
theorem StOk.cut (k : StOk K ca as' H' st) (hp : pls_st n (st.take n) = true) : StOk K ca (as'.cut n) H' (st.take n) := by
  have all : ∀ (l : Sta), pls_st n l = true → ∀ c ∈ l, match c with | .lst ds => pls n ds = true | .ins _ fs => plf n fs = true | .dct ks => plk n ks = true | .dcs ks => plt n ks = true | .dck ks vs => pls n ks = true ∧ pls n vs = true := by
    intro l
    induction l with
    | nil => intro _ c hc; cases hc
    | cons a r ih =>
      intro h c hc
      cases a with
      | lst ds =>
        unfold pls_st at h
        rw [Bool.and_eq_true] at h
        rcases List.mem_cons.mp hc with e | hc
        · subst e; exact h.1
        · exact ih h.2 c hc
      | ins q fs =>
        unfold pls_st at h
        rw [Bool.and_eq_true] at h
        rcases List.mem_cons.mp hc with e | hc
        · subst e; exact h.1
        · exact ih h.2 c hc
      | dct ks =>
        unfold pls_st at h
        rw [Bool.and_eq_true] at h
        rcases List.mem_cons.mp hc with e | hc
        · subst e; exact h.1
        · exact ih h.2 c hc
      | dcs ks =>
        unfold pls_st at h
        rw [Bool.and_eq_true] at h
        rcases List.mem_cons.mp hc with e | hc
        · subst e; exact h.1
        · exact ih h.2 c hc
      | dck ks vs =>
        unfold pls_st at h
        rw [Bool.and_eq_true, Bool.and_eq_true] at h
        rcases List.mem_cons.mp hc with e | hc
        · subst e; exact h.1
        · exact ih h.2 c hc
  refine ⟨k.nd.sublist (List.take_sublist _ _), by show (as'.as.take n).length = _; rw [List.length_take, List.length_take, k.len], fun a ha => ?_, fun j a c e1 e2 => ?_⟩
  · obtain ⟨h1, h2⟩ := k.hid a ha
    exact ⟨fun z => h1 (List.mem_of_mem_take z), h2⟩
  · have hj : j < n := by
      have := (List.getElem?_eq_some_iff.mp e2).1
      rw [List.length_take] at this
      omega
    have m := all _ hp c (List.mem_of_getElem? e2)
    rw [List.getElem?_take_of_lt hj] at e2
    have e1 : as'.as[j]? = some a := by
      rw [← List.getElem?_take_of_lt hj]
      exact e1
    have q := k.at_ j a c e1 e2
    cases hq : H' a with
    | none => rw [hq] at q; exact q.elim
    | some u =>
      rw [hq] at q
      cases u <;> cases c <;> first | exact False.elim q | skip
      · exact IsDs.cut' (show IsDs K ca as' (stab as' H') _ _ from q) m
      · exact IsKs.cut (show IsKs K ca as' (stab as' H') _ _ from q) m
      · exact IsKt.cut (show IsKt K ca as' (stab as' H') _ _ from q) m
      · exact ⟨q.1, IsFs.cut q.2 m⟩
      · exact q.imp fun xs h => ⟨h.1, h.2.1, h.2.2.1.cut' m.1, h.2.2.2.cut' m.2⟩
theorem cut_pre (s : Step as H as' H') (k : StOk K ca as H st) : as'.cut st.length = as := by
  obtain ⟨t, e⟩ := s.pre
  unfold Wl.cut
  rw [← e, ← k.len, List.take_left, s.hid]
theorem Step.cut (s : Step as H as' H') : Step as H as H' := ⟨List.prefix_refl _, rfl, fun _ h n => (n h).elim, s.keep⟩
theorem same_len (s : Step as H as' H') {st' : Sta} (k : StOk K ca as H st) (k' : StOk K ca as' H' st') (e : st'.length = st.length) : as' = as := by
  have h := cut_pre s k
  rw [← h]
  unfold Wl.cut
  rw [← e, ← k'.len, List.take_length]
theorem end_is {m : Option (O × Sta)} {Q : VK} {E : XK} {W : WX} (k : StOk K ca as H st) (hW : ∀ c d σ H, E c d H → W c d σ H) (h : PostF K ca as H (endF st.length m) Q E) : PostS K ca W as H m { nx := fun _ H' => Q .non H', rt := Q } := by
  cases m with
  | none => exact h
  | some r =>
    obtain ⟨o, st'⟩ := r
    cases o with
    | rt d =>
      intro v as' H' s k' i
      unfold endF at h
      dsimp only at h
      by_cases hl : st'.length = st.length
      · rw [if_pos hl] at h
        have e := same_len s k k' hl
        subst e
        exact h v H' s k' i
      · rw [if_neg hl] at h
        by_cases hp : pls_st st.length (st'.take st.length) = true
        · rw [if_pos hp] at h
          cases e : fz2 st.length st' d with
          | none => rw [e] at h; exact h.elim
          | some d' =>
            rw [e] at h
            have i2 := fz2_is k' i e
            have k2 := k'.cut hp
            rw [cut_pre s k] at i2 k2
            exact h v H' s.cut k2 i2
        · rw [if_neg hp] at h
          exact h.elim
    | nx env =>
      intro σ as' H' s k' i
      unfold endF at h
      dsimp only at h
      by_cases hl : st'.length = st.length
      · rw [if_pos hl] at h
        have e := same_len s k k' hl
        subst e
        exact h .non H' s k' .non
      · rw [if_neg hl] at h
        by_cases hp : pls_st st.length (st'.take st.length) = true
        · rw [if_pos hp] at h
          have k2 := k'.cut hp
          rw [cut_pre s k] at k2
          exact h .non H' s.cut k2 .non
        · rw [if_neg hp] at h
          exact h.elim
    | er c fs env =>
      intro cls dd σ as' H' s k' i er
      unfold endF at h
      dsimp only at h
      by_cases hl : st'.length = st.length
      · rw [if_pos hl] at h
        have e := same_len s k k' hl
        subst e
        exact hW _ _ _ _ (h cls dd H' s k' er)
      · rw [if_neg hl] at h
        by_cases hp : pls_st st.length (st'.take st.length) = true ∧ plf st.length fs = true
        · rw [if_pos hp] at h
          have k2 := k'.cut hp.1
          have er2 : ErrOk K ca (as'.cut st.length) (stab (as'.cut st.length) H') cls dd c fs := by
            refine ⟨er.1, ?_⟩
            rcases er.2 with z | ⟨q, vs, z1, z2, z3⟩
            · exact .inl z
            · exact .inr ⟨q, vs, z1, stab_cut _ _ z2, z3.cut hp.2⟩
          rw [cut_pre s k] at k2 er2
          exact hW _ _ _ _ (h cls dd H' s.cut k2 er2)
        · rw [if_neg hp] at h
          exact h.elim
    | bk env => exact h.elim
    | ct env => exact h.elim
theorem env_start {vs : List V} {ds : List D} {N : List Str} (h : IsDs K ca as (stab as H) vs ds) : EnvOk K ca as (stab as H) (L2.start N vs) (ds.map some ++ List.replicate (N.length - ds.length) none) := by
  refine ⟨by unfold L2.start; simp [h.len], fun i d e => ?_⟩
  by_cases hi : i < ds.length
  · rw [List.getElem?_append_left (by simpa using hi), List.getElem?_map] at e
    cases q : ds[i]? with
    | none => rw [q] at e; cases e
    | some d' =>
      rw [q] at e
      simp at e
      subst e
      obtain ⟨v, ev, hv⟩ := h.get q
      refine ⟨v, ?_, hv⟩
      unfold L2.start
      rw [List.getElem?_append_left (by rw [List.length_map, h.len]; exact hi), List.getElem?_map, ev]
      rfl
  · rw [List.getElem?_append_right (by simpa using hi), List.getElem?_replicate] at e
    split at e <;> simp at e
end
/-- a def as others use it -/
structure DefOk (P : Program) (w : World) (K : PySem.W.Frag) (mg : Str → Option Value) (base : Heap) (ca : Ca) (k : Nat) (x : Str) (ps : List Str) (Fm : List D → Sta → Option (R D)) : Prop where
  ex : ∃ f fd, FnOk P w K mg base (L2.CX P w) k f fd ps (spD K ca ps.length Fm) ∧ mg x = some (.ref f) ∧ PySem.W.keepIn K (.ref f) = true ∧ Binds K fd ps []
section
variable {P : Program} {w : World} {K : PySem.W.Frag} {mg : Str → Option Value} {base : Heap} {ca : Ca}
theorem fn_body {x qual : Str} {st : Stmt} {f : Addr} {fd : FuncData} {N ps : List Str} {k : Nat} {fb : FS} (Fn : L2.Fun K x qual st f fd) (S : FnScope N ps (defScope st))
    (hb : ∀ (cdv : Value) (A : Around) (outer : List Env) (s : Shared) (H : Hp) (E : XK), Room k (A.deeper (envOfC qual (defScope st) s.heap.objs.size f cdv)) → Takes (cxOf (L2.CX P w) P w K mg base N qual (defScope st) f cdv A outer s H E) (fun c d _ H => E c d H) →
      PassesOwn (model P w) (A.deeper (envOfC qual (defScope st) s.heap.objs.size f cdv)) (envOfC qual (defScope st) s.heap.objs.size f cdv) (cxOf (L2.CX P w) P w K mg base N qual (defScope st) f cdv A outer s H E).xe →
      JB ca (cxOf (L2.CX P w) P w K mg base N qual (defScope st) f cdv A outer s H E) (fun c d _ H => E c d H) (defBody st) fb) :
    FnOk P w K mg base (L2.CX P w) (k + 1) f fd ps (spD K ca ps.length (fnF N.length fb)) := by
  refine Fn.okX S (fun vs H Q E ⟨as, st, ds, h1, _, h2, _⟩ => h1.len.trans h2) (fun cdv A outer s H vs Q E hr ⟨as, sta, ds, h1, h2, h3, h4⟩ => ?_)
  obtain ⟨t, p, q⟩ := hb cdv A outer s H E hr (takes_of rfl rfl rfl rfl) (passes_of rfl)
  exact ⟨t, p, q as H _ _ sta _ (env_start h1) h2 (end_is h2 (fun _ _ _ _ z => z) h4)⟩
end
section
variable {ca : Ca} {X : Cx} {W : WX} {e : Expr} {es : List Expr} {fs : F (List D)} {pos p : Pos} {x : Str} {k j : Nat} {ps : List Str} {Fm : List D → Sta → Option (R D)}
def oCall (n : Nat) (Fm : List D → Sta → Option (R D)) (ds : List D) (st : Sta) : Option (R D) := if ds.length = n then Fm ds st else none
theorem post_fn {K : PySem.W.Frag} {as : Wl} {H : Hp} {σ : L2.St} {m : Option (R D)} {Q : VK} (h : Post K ca W (IsD K ca) as H σ m Q) : PostF K ca as H m Q (WE W σ) := by
  cases m with
  | none => exact h
  | some r =>
    cases r with
    | ok d st => exact fun v H' s k i => h v as H' s k i
    | err c fs st => exact fun cls dd H' s k i => h cls dd as H' s k i
theorem je_call {n : Nat} (Fn : DefOk X.prog X.w X.K X.mg X.base ca k x ps Fm) (hr : Room j X.A) (hk : k ≤ j) (tk : Takes X W) (ha : JA ca X W (e :: es) fs) (hn : ps.length = n := by rfl) (hg : Gl X x := by rfl) (hd : (x == ("__debug__" : Str)) = false := by decide) (h1 : starEach (e :: es) X.env = (false, eval e X.env) :: starEach es X.env := by rfl)
    (h2 : ((backTo pos (starEach es X.env)).any fun x => x.1) = false := by rfl) : JE ca X W (.Call (.Name x p) (e :: es) [] pos) (fN (oCall n Fm) fs) := by
  subst hn
  obtain ⟨f, fd, F, hm, hkp, hb⟩ := Fn.ex
  obtain ⟨ta, pa, sa⟩ := ha
  refine ⟨_, pe_callS F (hr.mono hk) hg hm hkp hb (fun σ => passAt tk σ) pa hd h1 h2, fun as H σ env st Q he hs hp => ?_⟩
  refine sa as H σ env st _ he hs (Post.bnd hp fun xs st1 vs as1 H1 s1 k1 i1 p1 => ?_)
  unfold oCall at p1
  by_cases hl : xs.length = ps.length
  · rw [if_pos hl] at p1
    exact ⟨as1, st1, xs, i1, k1, hl, post_fn p1⟩
  · rw [if_neg hl] at p1
    exact p1.elim
end
end DS

namespace DS
open PySem L2 PySem.Spec PyProof.Rows
/-! ### instances -/
/-- an instance's class and attributes -/
def insOf (x : D) (st : Sta) : Option (Nat × List (Str × D)) := match x with
  | .ins c fs => some (c, fs)
  | .cell k => match st[k]? with | some (.ins c fs) => some (c, fs) | _ => none
  | _ => none
section
variable {K : PySem.W.Frag} {ca : Ca} {as : Wl} {H : Hp} {st : Sta}
theorem ins_is {v : V} {x : D} {c : Nat} {fs : List (Str × D)} (k : StOk K ca as H st) (h : IsD K ca as (stab as H) v x) (e : insOf x st = some (c, fs)) :
    ∃ a dx vs, v = .ref a ∧ H a = some (.ins (ca c) dx vs) ∧ IsFs K ca as (stab as H) vs fs := by
  cases h <;> first | (unfold insOf at e; cases e; done) | skip
  · rename_i h0 h1 h2
    unfold insOf at e; cases e
    exact ⟨_, _, _, rfl, by rw [← h0]; exact (stab_some h1).2.2, h2⟩
  · rename_i p j h1
    unfold insOf at e
    simp only at e
    split at e
    · rename_i c' fs' e2
      cases e
      have q := k.at_ j p _ h1 e2
      cases hq : H p with
      | none => rw [hq] at q; exact q.elim
      | some o =>
        rw [hq] at q
        cases o <;> first | exact False.elim q | skip
        obtain ⟨q1, q2⟩ := q
        exact ⟨_, _, _, rfl, by rw [← q1]; exact hq, q2⟩
    · cases e
end
def oFld (c : Nat) (f : Str) (x : D) (st : Sta) : Option (R D) := match insOf x st with
  | some (c', fs) => if c' = c then match fs.lookup f with | some d => ret d st | none => none else none
  | none => none
def fFld (c : Nat) (f : Str) (fa : F D) : F D := fun env st => bnd (fa env st) fun x st => oFld c f x st
def fProp (c : Nat) (Fg : List D → Sta → Option (R D)) (fa : F D) : F D := fun env st => bnd (fa env st) fun x st => match insOf x st with
  | some (c', _) => if c' = c then match Fg [x] st with | some (.ok d st') => some (.ok d st') | _ => none else none
  | none => none
/-- o.f = e -/
def sFldS (c : Nat) (f : Str) (fo fa : F D) : FS := fun env st => bndS (fa env st) env fun d st => bndS (fo env st) env fun o st => match o with
  | .cell k => (match st[k]? with
    | some (.ins c' fs) => if c' = c ∧ fs.length < 1000 then some (.nx env, st.set k (.ins c (putD f d fs))) else none
    | _ => none)
  | _ => none
section
variable {ca : Ca} {X : Cx} {W : WX} {e o : Expr} {fa fo : F D} {pos pos' : Pos} {f : Str} {c : Nat}
theorem je_fld (cl : Cls X.K (ca c)) (n : NoAttr X.K (ca c) f) (h : JE ca X W e fa) (hb : attributeBase e f X.env (eval e X.env) = eval e X.env := by rfl) : JE ca X W (.Attribute e f pos) (fFld c f fa) := by
  obtain ⟨t, p, q⟩ := h
  refine ⟨_, pe_fld p hb, fun as H σ env st Q he hs hp => ?_⟩
  refine q as H σ env st _ he hs (Post.bnd hp fun x st1 v as1 H1 s1 k1 i1 p1 => ?_)
  unfold oFld at p1
  split at p1
  · rename_i c' fs e1
    split at p1
    · rename_i hc
      subst hc
      split at p1
      · rename_i d ed
        obtain ⟨a, dx, vs, rfl, ha, hf⟩ := ins_is k1 i1 e1
        obtain ⟨w, ew, hw⟩ := hf.look ed
        exact ⟨a, _, dx, vs, w, rfl, ha, cl, n, ew, p1.here k1 hw⟩
      · exact p1.elim
    · exact p1.elim
  · exact p1.elim
theorem je_prop {CX : CXT} {k j : Nat} {pp g : Addr} {fd : FuncData} {ps : List Str} {Fg : List D → Sta → Option (R D)} (cl : Cls X.K (ca c)) (hp : PropOf X.K (ca c) f pp g) (Fn : FnOk X.prog X.w X.K X.mg X.base (L2.CX X.prog X.w) k g fd ["self"] (spD X.K ca 1 Fg)) (hr : Room j X.A) (hk : k + 1 ≤ j) (hb : Binds X.K fd ["self"] [])
    (h : JE ca X W e fa) (hab : attributeBase e f X.env (eval e X.env) = eval e X.env := by rfl) : JE ca X W (.Attribute e f pos) (fProp c Fg fa) := by
  obtain ⟨t, p, q⟩ := h
  have hx : Passes (L2.CX X.prog X.w) X.nox E0 := passL
  refine ⟨_, pe_prop p cl hp Fn (hr.mono hk) hb .nil hx hab, fun as H σ env st Q he hs hp => ?_⟩
  refine q as H σ env st _ he hs (Post.bnd hp fun x st1 v as1 H1 s1 k1 i1 p1 => ?_)
  split at p1
  · rename_i c' fs e1
    split at p1
    · rename_i hc
      subst hc
      split at p1
      · rename_i d st' ed
        obtain ⟨a, dx, vs, rfl, ha, hf⟩ := ins_is k1 i1 e1
        refine ⟨a, dx, vs, rfl, ha, as1, st1, [x], .cons i1 .nil, k1, rfl, ?_⟩
        rw [ed]
        exact fun v H' s k i => p1 v as1 H' s k i
      · exact p1.elim
    · exact p1.elim
  · exact p1.elim
theorem js_fld (cl : Cls X.K (ca c)) (n : NoAttr X.K (ca c) f) (ho : JE ca X W o fo) (hv : JE ca X W e fa) (hs : swapsWith e (some (.Attribute o f pos')) pos.line X.env = pure false := by rfl) : JS ca X W (.Assign [.Attribute o f pos'] e pos) (sFldS c f fo fa) := by
  obtain ⟨to, p2, q2⟩ := ho
  obtain ⟨t, p, q⟩ := hv
  refine ⟨_, ps_fld p2 p hs, fun as H σ env st E he hs hp => ?_⟩
  refine q as H σ env st _ he hs (PostS.bnd hp he fun d st1 v as1 H1 s1 k1 i1 p1 => ?_)
  refine q2 as1 H1 σ env st1 _ (he.step s1) k1 (PostS.bnd p1 (he.step s1) fun od st2 ov as2 H2 s2 k2 i2 p2 => ?_)
  have i1' := i1.step s2
  cases i2 <;> first | exact False.elim p2 | skip
  rename_i a j hj
  dsimp only at p2
  split at p2
  · rename_i c' fs eds
    split at p2
    · rename_i hc
      obtain ⟨hc, hl⟩ := hc
      subst hc
      have q := k2.at_ j a _ hj eds
      cases hq : H2 a with
      | none => rw [hq] at q; exact q.elim
      | some u =>
        rw [hq] at q
        cases u <;> first | exact False.elim q | skip
        rename_i C dx vs
        obtain ⟨q1, q2⟩ := q
        subst q1
        have sc := Step.chg (as := as2) (H := H2) (o := .ins (ca c') dx (putF f v vs)) hj
        exact ⟨a, _, dx, vs, rfl, hq, cl, n, by rw [q2.len]; exact hl, p2 σ as2 _ sc (k2.chg hj ⟨rfl, q2.put i1'⟩) (((he.step s1).step s2).step sc)⟩
    · exact p2.elim
  · exact p2.elim
end
/-! ### making -/
def fMake (c : Nat) (n : Nat) (Fi : List D → Sta → Option (R D)) (fs : F (List D)) : F D := fun env st => bnd (fs env st) fun xs st =>
  if xs.length + 1 = n then match Fi (.cell st.length :: xs) (st ++ [.ins c []]) with
    | some (.ok .non st') => (match st'[st.length]? with
      | some (.ins c' fs) => if pls_st st.length (st'.take st.length) = true ∧ plf st.length fs = true then some (.ok (.ins c' fs) (st'.take st.length)) else none
      | _ => none)
    | some (.err ce fe st') => if pls_st st.length (st'.take st.length) = true ∧ plf st.length fe = true then some (.err ce fe (st'.take st.length)) else none
    | _ => none
  else none
/-- the same, when it is changed later -/
def fMakeC (c : Nat) (n : Nat) (Fi : List D → Sta → Option (R D)) (fs : F (List D)) : F D := fun env st => bnd (fs env st) fun xs st =>
  if xs.length + 1 = n then match Fi (.cell st.length :: xs) (st ++ [.ins c []]) with
    | some (.ok .non st') => some (.ok (.cell st.length) st')
    | some (.err ce fe st') => some (.err ce fe st')
    | _ => none
  else none
section
variable {ca : Ca} {X : Cx} {W : WX} {e : Expr} {es : List Expr} {fs : F (List D)} {pos p : Pos} {x : Str} {c k j : Nat} {fi : Addr} {fd : FuncData} {ps : List Str} {Fi : List D → Sta → Option (R D)}
theorem Step.init {as : Wl} {H : Hp} {C a dx : Addr} (h1 : H a = none) (h2 : H dx = none) (hne : dx ≠ a) : Step as H (as.add a) (upd (upd H dx (.own a)) a (.ins C dx [])) :=
  (Step.laid h2).trans (Step.made (by rw [upd_ne hne.symm]; exact h1))
theorem StOk.init {K : PySem.W.Frag} {as : Wl} {H : Hp} {st : Sta} {C a dx : Addr} (k : StOk K ca as H st) (h1 : H a = none) (h2 : H dx = none) (hne : dx ≠ a) (hC : C = ca c) : StOk K ca (as.add a) (upd (upd H dx (.own a)) a (.ins C dx [])) (st ++ [.ins c []]) :=
  (k.laid h2).made (c := .ins c []) (by rw [upd_ne hne.symm]; exact h1) ⟨hC, .nil⟩
theorem je_make (M : Mk X.K (ca c) fi) (Fn : FnOk X.prog X.w X.K X.mg X.base (L2.CX X.prog X.w) k fi fd ps (spD X.K ca ps.length Fi)) (hr : Room j X.A) (hk : k + 1 ≤ j) (hg : Gl X x) (hm : X.mg x = some (.ref (ca c))) (hb : Binds X.K fd ps [])
    (tk : Takes X W) (hW : ∀ c d σ σ' H, W c d σ H → W c d σ' H) (ha : JA ca X W (e :: es) fs) (hdb : (x == ("__debug__" : Str)) = false := by decide) (he : starEach (e :: es) X.env = (false, eval e X.env) :: starEach es X.env := by rfl) (hpl : (backTo pos (starEach es X.env)).any (·.1) = false := by rfl) :
    JE ca X W (.Call (.Name x p) (e :: es) [] pos) (fMake c ps.length Fi fs) := by
  obtain ⟨t, pa, q⟩ := ha
  have hx : Passes (L2.CX X.prog X.w) X (fun cls d H => W cls d [] H) := passes_call tk fun cls d σ H w => hW _ _ _ _ _ w
  refine ⟨_, pe_make M Fn (hr.mono hk) hg hm hb .nil hx pa hdb he hpl, fun as H σ env st Q he hs hp => ?_⟩
  refine q as H σ env st _ he hs (Post.bnd hp fun xs st1 vs as1 H1 s1 k1 i1 p1 => ?_)
  intro a dx ha hdx hne
  by_cases hl : xs.length + 1 = ps.length
  · rw [if_pos hl] at p1
    have si := Step.init (as := as1) (C := ca c) ha hdx hne
    have ki := k1.init (C := ca c) ha hdx hne rfl
    rw [List.append_nil]
    refine ⟨as1.add a, st1 ++ [.ins c []], .cell st1.length :: xs, .cons (.cell (by rw [← k1.len]; exact made_get)) (i1.step si), ki, by simpa using hl, ?_⟩
    have cutA : ∀ {H' : Hp}, Step (as1.add a) (upd (upd H1 dx (.own a)) a (.ins (ca c) dx [])) (as1.add a) H' → Step as1 H1 as1 H' := fun s => (si.trans s).cut
    have ecut : (as1.add a).cut st1.length = as1 := by
      unfold Wl.cut
      rw [← k1.len]
      simp
    cases er : Fi (.cell st1.length :: xs) (st1 ++ [.ins c []]) with
    | none => rw [er] at p1; exact p1.elim
    | some r =>
      rw [er] at p1
      cases r with
      | ok d st' =>
        intro v H' s k' i
        cases i <;> first | exact False.elim p1 | skip
        dsimp only at p1
        split at p1
        · rename_i c' fs' e'
          split at p1
          · rename_i hpl2
            refine ⟨rfl, ?_⟩
            have hat : (as1.add a).as[st1.length]? = some a := by rw [← k1.len]; exact made_get
            have q := k'.at_ st1.length a _ hat e'
            cases hq : H' a with
            | none => rw [hq] at q; exact q.elim
            | some u =>
              rw [hq] at q
              cases u <;> first | exact False.elim q | skip
              obtain ⟨q1, q2⟩ := q
              have k2 := k'.cut hpl2.1
              have q3 := q2.cut hpl2.2
              rw [ecut] at k2 q3
              have hst := (stab_out (H := H') (k1.free ha) (k1.freeH ha)).trans hq
              exact p1 _ as1 H' (cutA s) k2 (.ins q1 hst q3)
          · exact p1.elim
        · exact p1.elim
      | err ce fe st' =>
        intro cls dd H' s k' er2
        dsimp only at p1
        split at p1
        · rename_i hpl2
          have k2 := k'.cut hpl2.1
          have er3 : ErrOk X.K ca ((as1.add a).cut st1.length) (stab ((as1.add a).cut st1.length) H') cls dd ce fe := by
            refine ⟨er2.1, ?_⟩
            rcases er2.2 with z | ⟨q, vs, z1, z2, z3⟩
            · exact .inl z
            · exact .inr ⟨q, vs, z1, stab_cut _ _ z2, z3.cut hpl2.2⟩
          rw [ecut] at k2 er3
          exact hW _ _ _ _ _ (p1 cls dd as1 H' (cutA s) k2 er3)
        · exact p1.elim
  · rw [if_neg hl] at p1
    exact p1.elim
theorem je_makeC (M : Mk X.K (ca c) fi) (Fn : FnOk X.prog X.w X.K X.mg X.base (L2.CX X.prog X.w) k fi fd ps (spD X.K ca ps.length Fi)) (hr : Room j X.A) (hk : k + 1 ≤ j) (hg : Gl X x) (hm : X.mg x = some (.ref (ca c))) (hb : Binds X.K fd ps [])
    (tk : Takes X W) (hW : ∀ c d σ σ' H, W c d σ H → W c d σ' H) (ha : JA ca X W (e :: es) fs) (hdb : (x == ("__debug__" : Str)) = false := by decide) (he : starEach (e :: es) X.env = (false, eval e X.env) :: starEach es X.env := by rfl) (hpl : (backTo pos (starEach es X.env)).any (·.1) = false := by rfl) :
    JE ca X W (.Call (.Name x p) (e :: es) [] pos) (fMakeC c ps.length Fi fs) := by
  obtain ⟨t, pa, q⟩ := ha
  have hx : Passes (L2.CX X.prog X.w) X (fun cls d H => W cls d [] H) := passes_call tk fun cls d σ H w => hW _ _ _ _ _ w
  refine ⟨_, pe_make M Fn (hr.mono hk) hg hm hb .nil hx pa hdb he hpl, fun as H σ env st Q he hs hp => ?_⟩
  refine q as H σ env st _ he hs (Post.bnd hp fun xs st1 vs as1 H1 s1 k1 i1 p1 => ?_)
  intro a dx ha hdx hne
  by_cases hl : xs.length + 1 = ps.length
  · rw [if_pos hl] at p1
    have si := Step.init (as := as1) (C := ca c) ha hdx hne
    have ki := k1.init (C := ca c) ha hdx hne rfl
    have hat : (as1.add a).as[st1.length]? = some a := by rw [← k1.len]; exact made_get
    rw [List.append_nil]
    refine ⟨as1.add a, st1 ++ [.ins c []], .cell st1.length :: xs, .cons (.cell hat) (i1.step si), ki, by simpa using hl, ?_⟩
    cases er : Fi (.cell st1.length :: xs) (st1 ++ [.ins c []]) with
    | none => rw [er] at p1; exact p1.elim
    | some r =>
      rw [er] at p1
      cases r with
      | ok d st' =>
        intro v H' s k' i
        cases i <;> first | exact False.elim p1 | skip
        exact ⟨rfl, p1 _ _ H' (si.trans s) k' (.cell hat)⟩
      | err ce fe st' =>
        intro cls dd H' s k' er2
        exact hW _ _ _ _ _ (p1 cls dd _ H' (si.trans s) k' er2)
  · rw [if_neg hl] at p1
    exact p1.elim
end
/-! ### len of an own instance, isinstance of an own class -/
section
variable {ca : Ca} {X : Cx} {W : WX} {c k j : Nat} {f : Addr} {fd : FuncData} {Fl : List D → Sta → Option (R D)}
def rLenO (C : Addr) (sp : Sp) : List V → Hp → VK → Prop := fun xs H Q => ∃ a dx fs, xs = [.ref a] ∧ H a = some (.ins C dx fs) ∧ sp [.ref a] H (fun v H' => ∃ n, v = .int n ∧ 0 ≤ n ∧ n < 2 ^ 63 ∧ Q (.int n) H') E0
theorem call_lenO {C : Addr} {sp : Sp} (hs : PySem.W.findIn X.K (.ref C) "__len__" = some (some (.ref f))) (hf : PySem.W.isFn X.K (.ref f) = true) (Fn : FnOk X.prog X.w X.K X.mg X.base (L2.CX X.prog X.w) k f fd ["self"] sp) (hr : Room (k + 1) X.A) (hb : Binds X.K fd ["self"] []) :
    CallR X (.builtin "len") (rLenO C sp) := by
  intro pins s σ H xs us Q I r h
  obtain ⟨a, dx, fs, rfl, ha, h⟩ := h
  obtain ⟨u, rfl, ru⟩ := vals1 r
  cases ru
  obtain ⟨m, F⟩ := I.fr
  obtain ⟨mA, O, _⟩ := ins_get I.hok ha
  obtain ⟨od, J, _⟩ := O.look
  refine PySem.W.len_K F I.ok.mod.kin J hs hf ?_
  refine wpAny_call (codeAny_mono (Fn.run X.A.in1 X.stack s H ⟨[.ref a], []⟩ [.ref a] [.ref a] _ E0 hr.in1 I.env0.in1 (hb s [.ref a] I.kIn rfl) (.cons rfl .nil) h) fun r s' hq => ?_)
  cases r with
  | error e =>
    obtain ⟨_, _, _, _, _, _, _, _, _, _, _, _, z⟩ := hq
    exact z.elim
  | ok fl =>
    cases fl with
    | ret u =>
      obtain ⟨v, H', I3, rv, n, rfl, h0, h1, q⟩ := I.after hq
      obtain ⟨t, rfl⟩ := rv
      exact ⟨⟨h0, h1⟩, ⟨.int n, H', I3.tok _, ⟨_, rfl⟩, q⟩⟩
    | next => exact False.elim hq
    | brk => exact False.elim hq
    | cont => exact False.elim hq
def oLenO (c : Nat) (Fl : List D → Sta → Option (R D)) (xs : List D) (st : Sta) : Option (R D) := match xs with
  | [x] => (match insOf x st with
    | some (c', _) => if c' = c then (match Fl [x] st with
      | some (.ok (.int n) st') => if 0 ≤ n ∧ n < 2 ^ 63 then some (.ok (.int n) st') else none
      | _ => none) else none
    | none => none)
  | _ => none
theorem rn_lenO {K : PySem.W.Frag} : RvN K ca W (rLenO (ca c) (spD K ca 1 Fl)) (oLenO c Fl) := by
  intro as H σ st v x Q k hx hp
  cases hx with
  | nil => exact False.elim hp
  | cons h1 h2 =>
    cases h2 with
    | cons => exact False.elim hp
    | nil =>
      rename_i x
      unfold oLenO at hp
      dsimp only at hp
      split at hp
      · rename_i c' fs e1
        split at hp
        · rename_i hc
          subst hc
          obtain ⟨a, dx, vs, rfl, ha, hf⟩ := ins_is k h1 e1
          refine ⟨a, dx, vs, rfl, ha, as, st, [x], .cons h1 .nil, k, rfl, ?_⟩
          split at hp
          · rename_i n st' e2
            rw [e2]
            split at hp
            · rename_i hn
              intro v H' s k' i
              cases i
              exact ⟨n, rfl, hn.1, hn.2, hp _ as H' s k' (.int n)⟩
            · exact hp.elim
          · exact hp.elim
        · exact hp.elim
      · exact hp.elim
end
end DS

namespace DS
open PySem L2 PySem.Spec PyProof.Rows RZ
/-! ### what is walked -/
/-- the source yields what stands for ds, one after another, as long as what stands still is kept -/
def ItOk (K : PySem.W.Frag) (ca : Ca) (as : Wl) (H : Hp) (J : It) (ds : List D) : Prop :=
  ∀ (as' : Wl) (H' : Hp) (i : Nat), as.as <+: as'.as → Ext (stab as H) (stab as' H') → (ds[i]? = none → J.stop i H') ∧ ∀ d, ds[i]? = some d → J.go i H' ∧ ∀ x H'', J.yld i H' x H'' →
    (∀ st, StOk K ca as' H' st → Step as' H' as' H'' ∧ StOk K ca as' H'' st ∧ IsD K ca as' (stab as' H'') x d)
def IvS (K : PySem.W.Frag) (ca : Ca) (W : WX) (wi : TI) (f : F (List D)) : Prop :=
  ∀ as H σ env st (R : It → Hp → Prop), EnvOk K ca as (stab as H) σ env → StOk K ca as H st → Post K ca W (fun as' G (v : It × Hp) ds => G = stab as' v.2 ∧ ItOk K ca as' v.2 v.1 ds) as H σ (f env st) (fun v H' => v.2 = H' → R v.1 H') → wi σ H R
def JI (ca : Ca) (X : Cx) (W : WX) (tg e : Expr) (f : F (List D)) : Prop := ∃ wi, PI X tg e wi ∧ IvS X.K ca W wi f
def iL (fa : F D) : F (List D) := fun env st => bnd (fa env st) fun x st => match x with | .lst ds => some (.ok ds st) | .fls ds => some (.ok ds st) | _ => none
def iT (fa : F D) : F (List D) := fun env st => bnd (fa env st) fun x st => match x with | .tup ds => some (.ok ds st) | _ => none
def iR (fa : F D) : F (List D) := fun env st => bnd (fa env st) fun x st => match x with | .int n => if -(2 ^ 62) ≤ n ∧ n < 2 ^ 62 then some (.ok (rng 0 n.toNat) st) else none | _ => none
def iR2 (fa fb : F D) : F (List D) := fun env st => bnd (fa env st) fun x st => bnd (fb env st) fun y st => match x, y with
  | .int i, .int j => if -(2 ^ 62) ≤ i ∧ i < 2 ^ 62 ∧ -(2 ^ 62) ≤ j ∧ j < 2 ^ 62 then some (.ok (rng i (j - i).toNat) st) else none
  | _, _ => none
def enumD : Nat → List D → List D
  | _, [] => []
  | n, d :: ds => .tup [.int n, d] :: enumD (n + 1) ds
def zipD : List D → List D → List D
  | d :: ds, e :: es => .tup [d, e] :: zipD ds es
  | _, _ => []
def iE (fa : F D) : F (List D) := fun env st => bnd (fa env st) fun x st => match x with | .lst ds => some (.ok (enumD 0 ds) st) | .fls ds => some (.ok (enumD 0 ds) st) | _ => none
def iZ (fa fb : F D) : F (List D) := fun env st => bnd (fa env st) fun x st => bnd (fb env st) fun y st => match x, y with
  | .tup ds, .tup es => some (.ok (zipD ds es) st)
  | .lst ds, .lst es => some (.ok (zipD ds es) st)
  | _, _ => none
section
variable {ca : Ca} {X : Cx} {W : WX} {e e2 tg : Expr} {fa fb : F D} {pos p p2 : Pos} {K : PySem.W.Frag}
theorem it_same {as : Wl} {H : Hp} {v : V} {d : D} (h : IsD K ca as (stab as H) v d) : ∀ st, StOk K ca as H st → Step as H as H ∧ StOk K ca as H st ∧ IsD K ca as (stab as H) v d := fun st k => ⟨Step.refl _ _, k, h⟩
theorem itok_l {as : Wl} {H : Hp} {a : Addr} {xs : List V} {ds : List D} (h : SqL K (stab as H) a xs) (hd : IsDs K ca as (stab as H) xs ds) : ItOk K ca as H (Itl K a) ds := fun as' H' i p e => by
  have h' := ext_l (stab_sub _ _) (ext_l e h)
  refine ⟨fun n => ⟨xs, h', by rw [hd.len]; exact List.getElem?_eq_none_iff.mp n⟩, fun d ed => ?_⟩
  obtain ⟨v, ev, hv⟩ := hd.get ed
  refine ⟨⟨xs, v, h', ev⟩, fun x H'' ⟨eH, y⟩ => ?_⟩
  subst eH
  have := y xs h'
  rw [ev] at this
  cases this
  exact it_same (hv.ext p e)
theorem itok_t {as : Wl} {H : Hp} {a : Addr} {xs : List V} {ds : List D} (h : SqT K (stab as H) a xs) (hd : IsDs K ca as (stab as H) xs ds) : ItOk K ca as H (Itt K a) ds := fun as' H' i p e => by
  have h' := ext_t (stab_sub _ _) (ext_t e h)
  refine ⟨fun n => ⟨xs, h', by rw [hd.len]; exact List.getElem?_eq_none_iff.mp n⟩, fun d ed => ?_⟩
  obtain ⟨v, ev, hv⟩ := hd.get ed
  refine ⟨⟨xs, v, h', ev⟩, fun x H'' ⟨eH, y⟩ => ?_⟩
  subst eH
  have := y xs h'
  rw [ev] at this
  cases this
  exact it_same (hv.ext p e)
theorem rng_get {lo : Int} {n i : Nat} : (rng lo n)[i]? = if i < n then some (.int (lo + (i : Nat))) else none := by
  unfold rng
  rw [List.getElem?_map]
  by_cases h : i < n
  · rw [List.getElem?_range h, if_pos h]
    rfl
  · rw [List.getElem?_eq_none (by simpa using h), if_neg h]
    rfl
theorem itok_r {as : Wl} {H : Hp} {lo : Int} {n : Nat} : ItOk K ca as H (Itr lo n) (rng lo n) := fun as' H' i p e => by
  rw [rng_get]
  by_cases hi : i < n
  · rw [if_pos hi]
    refine ⟨fun z => (nomatch z), fun d ed => ⟨hi, fun x H'' y => ?_⟩⟩
    cases ed
    obtain ⟨eH, y⟩ := y
    subst eH y
    exact it_same (.int _)
  · rw [if_neg hi]
    exact ⟨fun _ => Nat.le_of_not_lt hi, fun d z => nomatch z⟩
theorem enum_get : ∀ {ds : List D} {n i : Nat}, (enumD n ds)[i]? = (ds[i]?).map fun d => .tup [.int ((n + i : Nat) : Int), d]
  | [], n, i => by simp [enumD]
  | d :: ds, n, 0 => by simp [enumD]
  | d :: ds, n, i + 1 => by
    show (enumD (n + 1) ds)[i]? = _
    rw [enum_get]
    have : n + 1 + i = n + (i + 1) := by omega
    rw [this]
    rfl
theorem pair_is {as : Wl} {H : Hp} {T : Addr} {x y : V} {d e : D} (hT : H T = none) (hx : IsD K ca as (stab as H) x d) (hy : IsD K ca as (stab as H) y e) :
    ∀ st, StOk K ca as H st → Step as H as (upd H T (.tup [x, y])) ∧ StOk K ca as (upd H T (.tup [x, y])) st ∧ IsD K ca as (stab as (upd H T (.tup [x, y]))) (.ref T) (.tup [d, e]) := fun st k =>
  ⟨Step.laid hT, k.laid hT, .tup (.inl (.inl (stab_laid k hT))) (.cons (hx.step (Step.laid hT)) (.cons (hy.step (Step.laid hT)) .nil))⟩
theorem itok_e {as : Wl} {H : Hp} {a : Addr} {xs : List V} {ds : List D} (h : SqL K (stab as H) a xs) (hd : IsDs K ca as (stab as H) xs ds) : ItOk K ca as H (Ite K a) (enumD 0 ds) := fun as' H' i p e => by
  have h' := ext_l (stab_sub _ _) (ext_l e h)
  rw [enum_get]
  cases q : ds[i]? with
  | none => exact ⟨fun n => ⟨xs, h', by rw [hd.len]; exact List.getElem?_eq_none_iff.mp q⟩, fun d z => nomatch z⟩
  | some d =>
    refine ⟨fun z => (nomatch z), fun d' ed => ?_⟩
    obtain ⟨v, ev, hv⟩ := hd.get q
    simp only [Option.map_some, Option.some.injEq, Nat.zero_add] at ed
    subst ed
    refine ⟨⟨xs, v, h', ev⟩, fun x H'' ⟨T, x', e1, e2, e3, y⟩ => ?_⟩
    have := y xs h'
    rw [ev] at this
    cases this
    subst e1 e3
    exact pair_is e2 (.int _) (hv.ext p e)
theorem zip_get : ∀ {ds es : List D} {i : Nat}, (zipD ds es)[i]? = (ds[i]?).bind fun d => (es[i]?).map fun e => .tup [d, e]
  | [], es, i => by simp [zipD]
  | d :: ds, [], i => by cases q : (d :: ds)[i]? <;> simp [zipD]
  | d :: ds, e :: es, 0 => by simp [zipD]
  | d :: ds, e :: es, i + 1 => by
    show (zipD ds es)[i]? = _
    rw [zip_get]
    rfl
theorem itok_zt {as : Wl} {H : Hp} {a b : Addr} {xs ys : List V} {ds es : List D} (h : SqT K (stab as H) a xs) (hd : IsDs K ca as (stab as H) xs ds) (h2 : SqT K (stab as H) b ys) (hd2 : IsDs K ca as (stab as H) ys es) : ItOk K ca as H (ItzT K a b) (zipD ds es) := fun as' H' i p e => by
  have h' := ext_t (stab_sub _ _) (ext_t e h)
  have h2' := ext_t (stab_sub _ _) (ext_t e h2)
  rw [zip_get]
  cases q : ds[i]? with
  | none => exact ⟨fun n => ⟨xs, ys, h', h2', .inl (by rw [hd.len]; exact List.getElem?_eq_none_iff.mp q)⟩, fun d z => nomatch z⟩
  | some d =>
    cases q2 : es[i]? with
    | none => exact ⟨fun n => ⟨xs, ys, h', h2', .inr (by rw [hd2.len]; exact List.getElem?_eq_none_iff.mp q2)⟩, fun d z => nomatch z⟩
    | some d2 =>
      refine ⟨fun z => (nomatch z), fun d' ed => ?_⟩
      obtain ⟨v, ev, hv⟩ := hd.get q
      obtain ⟨v2, ev2, hv2⟩ := hd2.get q2
      simp only [Option.bind_some, Option.map_some, Option.some.injEq] at ed
      subst ed
      refine ⟨⟨xs, ys, v, v2, h', h2', ev, ev2⟩, fun x H'' ⟨T, x', y', e1, e2, e3, y, y2⟩ => ?_⟩
      have := y xs h'
      rw [ev] at this
      cases this
      have := y2 ys h2'
      rw [ev2] at this
      cases this
      subst e1 e3
      exact pair_is e2 (hv.ext p e) (hv2.ext p e)
theorem itok_zl {as : Wl} {H : Hp} {a b : Addr} {xs ys : List V} {ds es : List D} (h : SqL K (stab as H) a xs) (hd : IsDs K ca as (stab as H) xs ds) (h2 : SqL K (stab as H) b ys) (hd2 : IsDs K ca as (stab as H) ys es) : ItOk K ca as H (Itz K a b) (zipD ds es) := fun as' H' i p e => by
  have h' := ext_l (stab_sub _ _) (ext_l e h)
  have h2' := ext_l (stab_sub _ _) (ext_l e h2)
  rw [zip_get]
  cases q : ds[i]? with
  | none => exact ⟨fun n => ⟨xs, ys, h', h2', .inl (by rw [hd.len]; exact List.getElem?_eq_none_iff.mp q)⟩, fun d z => nomatch z⟩
  | some d =>
    cases q2 : es[i]? with
    | none => exact ⟨fun n => ⟨xs, ys, h', h2', .inr (by rw [hd2.len]; exact List.getElem?_eq_none_iff.mp q2)⟩, fun d z => nomatch z⟩
    | some d2 =>
      refine ⟨fun z => (nomatch z), fun d' ed => ?_⟩
      obtain ⟨v, ev, hv⟩ := hd.get q
      obtain ⟨v2, ev2, hv2⟩ := hd2.get q2
      simp only [Option.bind_some, Option.map_some, Option.some.injEq] at ed
      subst ed
      refine ⟨⟨xs, ys, v, v2, h', h2', ev, ev2⟩, fun x H'' ⟨T, x', y', e1, e2, e3, y, y2⟩ => ?_⟩
      have := y xs h'
      rw [ev] at this
      cases this
      have := y2 ys h2'
      rw [ev2] at this
      cases this
      subst e1 e3
      exact pair_is e2 (hv.ext p e) (hv2.ext p e)
theorem ji_l (h : JE ca X W e fa) : JI ca X W tg e (iL fa) := by
  obtain ⟨t, pt, q⟩ := h
  refine ⟨_, pi_list pt, fun as H σ env st R he hs hp => ?_⟩
  refine q as H σ env st _ he hs (Post.bnd hp fun x st1 v as1 H1 s1 k1 i1 p1 => ?_)
  cases i1 <;> first | exact False.elim p1 | skip
  · rename_i h1 h2
    exact ⟨_, rfl, ⟨_, ext_l (stab_sub _ _) (SqL.of h1)⟩, p1 (Itl X.K _, H1) as1 H1 (Step.refl _ _) k1 ⟨rfl, itok_l (SqL.of h1) h2⟩ rfl⟩
  · rename_i h1 h2
    exact ⟨_, rfl, ⟨_, ext_l (stab_sub _ _) h1⟩, p1 (Itl X.K _, H1) as1 H1 (Step.refl _ _) k1 ⟨rfl, itok_l h1 h2⟩ rfl⟩
theorem ji_t (h : JE ca X W e fa) : JI ca X W tg e (iT fa) := by
  obtain ⟨t, pt, q⟩ := h
  refine ⟨_, pi_tup pt, fun as H σ env st R he hs hp => ?_⟩
  refine q as H σ env st _ he hs (Post.bnd hp fun x st1 v as1 H1 s1 k1 i1 p1 => ?_)
  cases i1 <;> first | exact False.elim p1 | skip
  rename_i h1 h2
  exact ⟨_, rfl, ⟨_, ext_t (stab_sub _ _) h1⟩, p1 (Itt X.K _, H1) as1 H1 (Step.refl _ _) k1 ⟨rfl, itok_t h1 h2⟩ rfl⟩
theorem ji_r (hgl : Gl X "range") (hm : X.mg "range" = none) (h : JE ca X W e fa) (hst : starEach [e] X.env = [(false, eval e X.env)] := by rfl) (hst2 : starEach [e] X.env = (false, eval e X.env) :: starEach [] X.env := by rfl) : JI ca X W tg (.Call (.Name "range" p) [e] [] pos) (iR fa) := by
  obtain ⟨t, pt, q⟩ := h
  refine ⟨_, pi_range1 hgl hm (pa_cons pt pa_nil hst2) hst, fun as H σ env st R he hs hp => ?_⟩
  refine q as H σ env st _ he hs (Post.bnd hp fun x st1 v as1 H1 s1 k1 i1 p1 => ?_)
  cases i1 <;> first | exact False.elim p1 | skip
  rename_i j
  dsimp only at p1
  by_cases hj : -(2 ^ 62) ≤ j ∧ j < 2 ^ 62
  · rw [if_pos hj] at p1
    exact ⟨j, rfl, hj.1, hj.2, p1 (Itr 0 j.toNat, H1) as1 H1 (Step.refl _ _) k1 ⟨rfl, itok_r⟩ rfl⟩
  · rw [if_neg hj] at p1
    exact p1.elim
theorem ji_r2 (hgl : Gl X "range") (hm : X.mg "range" = none) (h : JE ca X W e fa) (h2 : JE ca X W e2 fb) (hst : starEach [e, e2] X.env = [(false, eval e X.env), (false, eval e2 X.env)] := by rfl) (hst2 : starEach [e2] X.env = [(false, eval e2 X.env)] := by rfl)
    (hst3 : starEach [e, e2] X.env = (false, eval e X.env) :: starEach [e2] X.env := by rfl) (hst4 : starEach [e2] X.env = (false, eval e2 X.env) :: starEach [] X.env := by rfl) : JI ca X W tg (.Call (.Name "range" p) [e, e2] [] pos) (iR2 fa fb) := by
  obtain ⟨t, pt, q⟩ := h
  obtain ⟨t', pt', q'⟩ := h2
  refine ⟨_, pi_range2 hgl hm (pa_cons pt (pa_cons pt' pa_nil hst4) hst3) hst hst2, fun as H σ env st R he hs hp => ?_⟩
  refine q as H σ env st _ he hs (Post.bnd hp fun x st1 v as1 H1 s1 k1 i1 p1 => ?_)
  refine q' as1 H1 σ env st1 _ (he.step s1) k1 (Post.bnd p1 fun y st2 v2 as2 H2 s2 k2 i2 p2 => ?_)
  cases i1 <;> cases i2 <;> first | exact False.elim p2 | skip
  rename_i i j
  dsimp only at p2
  by_cases hj : -(2 ^ 62) ≤ i ∧ i < 2 ^ 62 ∧ -(2 ^ 62) ≤ j ∧ j < 2 ^ 62
  · rw [if_pos hj] at p2
    exact ⟨i, j, rfl, hj, p2 (Itr i (j - i).toNat, H2) as2 H2 (Step.refl _ _) k2 ⟨rfl, itok_r⟩ rfl⟩
  · rw [if_neg hj] at p2
    exact p2.elim
theorem ji_e {elts : List Expr} {kk : Nat} {tpos : Pos} (hgl : Gl X "enumerate") (hm : X.mg "enumerate" = none) (h : JE ca X W e fa) (hst : starEach [e] X.env = [(false, eval e X.env)] := by rfl) (hst2 : starEach [e] X.env = (false, eval e X.env) :: starEach [] X.env := by rfl) : JI ca X W (.Tuple elts kk tpos) (.Call (.Name "enumerate" p) [e] [] pos) (iE fa) := by
  obtain ⟨t, pt, q⟩ := h
  refine ⟨_, pi_enum hgl hm (pa_cons pt pa_nil hst2) hst, fun as H σ env st R he hs hp => ?_⟩
  refine q as H σ env st _ he hs (Post.bnd hp fun x st1 v as1 H1 s1 k1 i1 p1 => ?_)
  cases i1 <;> first | exact False.elim p1 | skip
  · rename_i h1 h2
    exact ⟨_, _, rfl, ext_l (stab_sub _ _) (SqL.of h1), p1 (Ite X.K _, H1) as1 H1 (Step.refl _ _) k1 ⟨rfl, itok_e (SqL.of h1) h2⟩ rfl⟩
  · rename_i h1 h2
    exact ⟨_, _, rfl, ext_l (stab_sub _ _) h1, p1 (Ite X.K _, H1) as1 H1 (Step.refl _ _) k1 ⟨rfl, itok_e h1 h2⟩ rfl⟩
theorem ji_z {elts : List Expr} {kk : Nat} {tpos : Pos} (hgl : Gl X "zip") (hm : X.mg "zip" = none) (h : JE ca X W e fa) (h2 : JE ca X W e2 fb) (hs3 : starEach [e, e2] X.env = (false, eval e X.env) :: starEach [e2] X.env := by rfl) (hpl : (backTo pos (starEach [e2] X.env)).any (·.1) = false := by rfl) (hst4 : starEach [e2] X.env = (false, eval e2 X.env) :: starEach [] X.env := by rfl) :
    JI ca X W (.Tuple elts kk tpos) (.Call (.Name "zip" p) [e, e2] [] pos) (iZ fa fb) := by
  obtain ⟨t, pt, q⟩ := h
  obtain ⟨t', pt', q'⟩ := h2
  refine ⟨_, pi_zipA hgl hm (pa_cons pt (pa_cons pt' pa_nil hst4) hs3) hs3 hpl, fun as H σ env st R he hs hp => ?_⟩
  refine q as H σ env st _ he hs (Post.bnd hp fun x st1 v as1 H1 s1 k1 i1 p1 => ?_)
  refine q' as1 H1 σ env st1 _ (he.step s1) k1 (Post.bnd p1 fun y st2 v2 as2 H2 s2 k2 i2 p2 => ?_)
  have i1' := i1.step s2
  cases i1' <;> cases i2 <;> first | exact False.elim p2 | skip
  · rename_i h1 h2 _ _ _ h3 h4
    exact ⟨_, _, _, _, rfl, .inr ⟨ext_t (stab_sub _ _) h1, ext_t (stab_sub _ _) h3, p2 (ItzT X.K _ _, H2) as2 H2 (Step.refl _ _) k2 ⟨rfl, itok_zt h1 h2 h3 h4⟩ rfl⟩⟩
  · rename_i h1 h2 _ _ _ h3 h4
    exact ⟨_, _, _, _, rfl, .inl ⟨ext_l (stab_sub _ _) (SqL.of h1), ext_l (stab_sub _ _) (SqL.of h3), p2 (Itz X.K _ _, H2) as2 H2 (Step.refl _ _) k2 ⟨rfl, itok_zl (SqL.of h1) h2 (SqL.of h3) h4⟩ rfl⟩⟩
/-! ### for, over anything -/
def sForI (fi : F (List D)) (g : FG) (body : FS) : FS := fun env st => bndS (fi env st) env fun ds st => forF g body ds env st
theorem js_for {iter : Expr} {fi : F (List D)} {gg : FG} {f : FS} {bodyS : List Stmt} (hp : PassesOwn (model X.prog X.w) X.A X.env X.xe) (hc : X.calm = true) (hi : JI ca X W tg iter fi) (hg : JG ca X tg gg) (hb : JB ca X W bodyS f) (hs : ∀ x, foldedSetIterable iter X.env x = pure x := by intro _; rfl) :
    JS ca X W (.For tg iter bodyS [] pos) (sForI fi gg f) := by
  obtain ⟨wi, pi, qi⟩ := hi
  obtain ⟨tg', pg, qg⟩ := hg
  obtain ⟨tb, pb, qb⟩ := hb
  refine ⟨_, ps_for hp hc pi pg pb hs, fun as H σ env st E he hs hp => ?_⟩
  refine qi as H σ env st _ he hs (PostS.bnd hp he fun ds st1 v as1 H1 s1 k1 i1 p1 => ?_)
  intro eH
  obtain ⟨J, H1'⟩ := v
  dsimp only at eH i1 ⊢
  subst eH
  obtain ⟨_, ok⟩ := i1
  refine ⟨fun i m σ' H' => m = ds.length - i ∧ i ≤ ds.length ∧ ∃ as' env' st', Step as1 H1' as' H' ∧ EnvOk X.K ca as' (stab as' H') σ' env' ∧ StOk X.K ca as' H' st' ∧ PostS X.K ca W as' H' (forF gg f (ds.drop i) env' st') E, ⟨ds.length, by simp, Nat.zero_le _, as1, env, st1, Step.refl _ _, he.step s1, k1, p1⟩, ?_⟩
  rintro i m σ' H' ⟨rfl, hi, as', env', st', s, he', k, p⟩
  by_cases hlt : i < ds.length
  · have ed : ds[i]? = some ds[i] := by simp [hlt]
    obtain ⟨_, h2⟩ := ok as' H' i s.pre s.ext
    obtain ⟨go, yl⟩ := h2 _ ed
    refine .inr ⟨go, fun σ2 H2 => i + 1 ≤ ds.length ∧ ∃ as' env' st', Step as1 H1' as' H2 ∧ EnvOk X.K ca as' (stab as' H2) σ2 env' ∧ StOk X.K ca as' H2 st' ∧ PostS X.K ca W as' H2 (forF gg f (ds.drop (i + 1)) env' st') E, fun σ2 H2 q => ⟨ds.length - (i + 1), by omega, rfl, q⟩, fun x H'' y => ?_⟩
    obtain ⟨sy, ky, iy⟩ := yl x H'' y st' k
    have p' := PostS.step p sy
    rw [List.drop_eq_getElem_cons hlt] at p'
    exact turn_is qg qb (he'.step sy) ky iy p' fun as2 H2 σ2 env2 st2 s2 he2 k2 p2 => ⟨hlt, as2, env2, st2, (s.trans sy).trans s2, he2, k2, p2⟩
  · have e : i = ds.length := by omega
    subst e
    obtain ⟨h1, _⟩ := ok as' H' ds.length s.pre s.ext
    rw [List.drop_length] at p
    exact .inl ⟨h1 (by simp), PostS.here p k he'⟩
end
end DS

namespace DS
open PySem L2 PySem.Spec PyProof.Rows
/-! ### list comprehensions -/
def wipeE (env : Evn) : List Nat → Evn
  | [] => env
  | v :: vs => (wipeE env vs).set v none
/-- an error within is not carried -/
def bnd0 {α β : Type} (m : Option (R α)) (f : α → Sta → Option (R β)) : Option (R β) := match m with
  | some (.ok a st) => f a st
  | _ => none
def lcF (g : FG) (t : F Bool) (fe : F D) (env : Evn) : List D → List D → Sta → Option (R (List D))
  | [], acc, st => some (.ok acc st)
  | d :: ds, acc, st => match g d env st with
    | none => none
    | some (env1, st1) => bnd0 (t env1 st1) fun b st => match b with
      | true => bnd0 (fe env1 st) fun y st => if acc.length < 100000 then lcF g t fe env ds (acc ++ [y]) st else none
      | false => lcF g t fe env ds acc st
def fLc (fi : F (List D)) (g : FG) (t : F Bool) (fe : F D) (vs : List Nat) : F D := fun env st => bnd (fi env st) fun ds st => bnd (lcF g t fe (wipeE env vs) ds [] st) fun ys st => some (.ok (.lst ys) st)
/-- into a list that is changed later -/
def fLcN (fi : F (List D)) (g : FG) (t : F Bool) (fe : F D) (vs : List Nat) : F D := fun env st => bnd (fi env st) fun ds st => bnd (lcF g t fe (wipeE env vs) ds [] st) fun ys st => some (.ok (.cell st.length) (st ++ [.lst ys]))
def fYes : F Bool := fun _ st => some (.ok true st)
abbrev W0 : WX := fun _ _ _ _ => False
def Wl.hide (as : Wl) (p : Addr) : Wl := ⟨as.as, p :: as.hs⟩
section
variable {K : PySem.W.Frag} {ca : Ca} {as as' : Wl} {H H' : Hp} {st : Sta} {σ : L2.St} {env : Evn}
theorem wipe_get {α : Type} (wp : List (Option α) → List Nat → List (Option α)) (h0 : ∀ e, wp e [] = e) (h1 : ∀ e v vs, wp e (v :: vs) = (wp e vs).set v none) (e : List (Option α)) : ∀ (vs : List Nat) (k : Nat), (wp e vs)[k]? = if k ∈ vs then (e[k]?).map fun _ => none else e[k]?
  | [], k => by rw [h0]; simp
  | v :: vs, k => by
    rw [h1]
    have ih := wipe_get wp h0 h1 e vs k
    have hl : ∀ vs, (wp e vs).length = e.length := by
      intro vs
      induction vs with
      | nil => rw [h0]
      | cons v vs ih => rw [h1, List.length_set, ih]
    by_cases hv : v = k
    · subst hv
      rw [if_pos List.mem_cons_self]
      by_cases hk : v < e.length
      · rw [List.getElem?_set_self (by rw [hl]; exact hk)]
        simp [hk]
      · rw [List.getElem?_eq_none (by rw [List.length_set, hl]; omega), List.getElem?_eq_none (by omega)]
        rfl
    · rw [List.getElem?_set_ne hv, ih]
      by_cases hm : k ∈ vs
      · rw [if_pos hm, if_pos (List.mem_cons_of_mem _ hm)]
      · rw [if_neg hm, if_neg (fun z => (List.mem_cons.mp z).elim (fun e => hv e.symm) hm)]
theorem wipe_getV (σ : L2.St) (vs : List Nat) (k : Nat) : (wipe σ vs)[k]? = if k ∈ vs then (σ[k]?).map fun _ => none else σ[k]? := wipe_get wipe (fun _ => rfl) (fun _ _ _ => rfl) σ vs k
theorem wipe_getE (σ : Evn) (vs : List Nat) (k : Nat) : (wipeE σ vs)[k]? = if k ∈ vs then (σ[k]?).map fun _ => none else σ[k]? := wipe_get wipeE (fun _ => rfl) (fun _ _ _ => rfl) σ vs k
theorem wipe_set {σ : L2.St} {vs : List Nat} {i : Nat} {x : Option V} (h : i ∈ vs) : wipe (σ.set i x) vs = wipe σ vs := by
  apply List.ext_getElem?
  intro k
  rw [wipe_getV, wipe_getV]
  by_cases hk : k ∈ vs
  · rw [if_pos hk, if_pos hk]
    by_cases e : i = k
    · subst e
      by_cases hl : i < σ.length
      · simp [hl]
      · rw [List.getElem?_eq_none (by rw [List.length_set]; omega), List.getElem?_eq_none (by omega)]
    · rw [List.getElem?_set_ne e]
  · rw [if_neg hk, if_neg hk, List.getElem?_set_ne (fun e => hk (by rw [← e]; exact h))]
theorem wipe_wipe {σ : L2.St} {vs : List Nat} : wipe (wipe σ vs) vs = wipe σ vs := by
  apply List.ext_getElem?
  intro k
  rw [wipe_getV, wipe_getV]
  by_cases hk : k ∈ vs
  · rw [if_pos hk, if_pos hk]
    cases σ[k]? <;> rfl
  · rw [if_neg hk, if_neg hk]
theorem EnvOk.wipe {G : Hp} (h : EnvOk K ca as G σ env) (vs : List Nat) : EnvOk K ca as G (L2.wipe σ vs) (wipeE env vs) := by
  refine ⟨?_, fun i d e => ?_⟩
  · rw [wipe_length]
    have : ∀ vs, (wipeE env vs).length = env.length := by
      intro vs
      induction vs with
      | nil => rfl
      | cons v vs ih => unfold wipeE; rw [List.length_set, ih]
    rw [this, h.len]
  · rw [wipe_getE] at e
    split at e
    · cases q : env[i]? with
      | none => rw [q] at e; cases e
      | some z => rw [q] at e; cases e
    · rename_i hm
      obtain ⟨v, ev, hv⟩ := h.at_ i d e
      exact ⟨v, by rw [wipe_getV, if_neg hm]; exact ev, hv⟩
/-- a target keeps to the block's own slots -/
def OwnT (tg : TG) (vs : List Nat) : Prop := ∀ v σ H (Q : L2.St → Hp → Prop), tg v (L2.wipe σ vs) H Q → tg v (L2.wipe σ vs) H fun σ2 H2 => L2.wipe σ2 vs = L2.wipe σ vs ∧ Q σ2 H2
theorem own_name {i : Nat} {vs : List Nat} (h : i ∈ vs) : OwnT (gName i) vs := fun v σ H Q q => ⟨by rw [wipe_set h, wipe_wipe], q⟩
theorem own_pair {K : PySem.W.Frag} {i j n : Nat} {vs : List Nat} (h : i ∈ vs) (h2 : j ∈ vs) : OwnT (gTup K n (gCons (gName i) (gCons (gName j) gNil))) vs := fun v σ H Q ⟨a, xs, e1, e2, e3, v1, r1, e4, v2, r2, e5, e6, q⟩ =>
  ⟨a, xs, e1, e2, e3, v1, r1, e4, v2, r2, e5, e6, by rw [wipe_set h2, wipe_set h, wipe_wipe], q⟩
theorem hide_ext {D : Addr} (hD : H D = none) (s : Step as H as' H') : Ext (stab as H) (stab (as'.hide D) H') := fun a o h => by
  obtain ⟨h1, h2, h3⟩ := stab_some h
  rw [stab_out (as := as'.hide D) (s.out h1 h3) (by
    intro z
    rcases List.mem_cons.mp z with e | z
    · subst e; rw [hD] at h3; cases h3
    · exact h2 (by rw [← s.hid]; exact z))]
  exact s.keep a o h1 h3
theorem unhide_ext {D : Addr} : Ext (stab (as.hide D) H) (stab as H) := fun a o h => by
  obtain ⟨h1, h2, h3⟩ := stab_some h
  rw [stab_out (as := as) h1 (fun z => h2 (List.mem_cons_of_mem _ z))]
  exact h3
theorem StOk.unhide {D : Addr} (k : StOk K ca (as.hide D) H st) : StOk K ca as H st :=
  ⟨k.nd, k.len, fun a ha => k.hid a (List.mem_cons_of_mem _ ha), fun i a c e1 e2 => (k.at_ i a c e1 e2).ext (as := as.hide D) (as' := as) (List.prefix_refl _) unhide_ext⟩
/-- from without to within -/
theorem StOk.hideD {D : Addr} {o : HO} (k : StOk K ca as H st) (hD : H D = none) : StOk K ca (as.hide D) (upd H D o) st := by
  have k' := k.laid (o := o) hD
  refine ⟨k'.nd, k'.len, fun a ha => ?_, fun i a c e1 e2 => ?_⟩
  · rcases List.mem_cons.mp ha with e | ha
    · subst e
      exact ⟨k.free hD, o, upd_same⟩
    · exact k'.hid a ha
  · have hne : a ≠ D := fun z => k.free hD (z ▸ List.mem_of_getElem? e1)
    rw [upd_ne hne]
    exact (k.at_ i a c e1 e2).ext (as := as) (as' := as.hide D) (List.prefix_refl _) (hide_ext hD (Step.laid hD))
/-- within, another item is put behind -/
theorem StOk.grow {D : Addr} {o : HO} (k : StOk K ca (as.hide D) H st) : StOk K ca (as.hide D) (upd H D o) st := by
  have hn : D ∉ as.as := (k.hid D List.mem_cons_self).1
  have ex : Ext (stab (as.hide D) H) (stab (as.hide D) (upd H D o)) := fun a u h => by
    obtain ⟨h1, h2, h3⟩ := stab_some h
    rw [stab_out h1 h2, upd_ne (fun z => h2 (by rw [z]; exact List.mem_cons_self))]
    exact h3
  refine ⟨k.nd, k.len, fun a ha => ?_, fun i a c e1 e2 => ?_⟩
  · obtain ⟨h1, u, h2⟩ := k.hid a ha
    refine ⟨h1, ?_⟩
    by_cases e : a = D
    · subst e; exact ⟨o, upd_same⟩
    · exact ⟨u, by rw [upd_ne e]; exact h2⟩
  · have hne : a ≠ D := fun z => hn (z ▸ List.mem_of_getElem? e1)
    rw [upd_ne hne]
    exact (k.at_ i a c e1 e2).ext (List.prefix_refl _) ex
theorem grow_ext {D : Addr} {o : HO} : Ext (stab (as.hide D) H) (stab (as.hide D) (upd H D o)) := fun a u h => by
  obtain ⟨h1, h2, h3⟩ := stab_some h
  rw [stab_out h1 h2, upd_ne (fun z => h2 (by rw [z]; exact List.mem_cons_self))]
  exact h3
end
section
variable {K : PySem.W.Frag} {ca : Ca} {as : Wl} {H : Hp} {st : Sta}
theorem StOk.adopt {D : Addr} {acc : List V} {ads : List DS.D} (k : StOk K ca (as.hide D) H st) (hD : H D = some (.lst acc)) (ia : IsDs K ca (as.hide D) (stab (as.hide D) H) acc ads) (hn : D ∉ as.hs) : StOk K ca (as.add D) H (st ++ [.lst ads]) := by
  have nD : D ∉ as.as := (k.hid D List.mem_cons_self).1
  have ex : Ext (stab (as.hide D) H) (stab (as.add D) H) := fun a u h => by
    obtain ⟨h1, h2, h3⟩ := stab_some h
    rw [stab_out (as := as.add D) (fun z => (List.mem_append.mp z).elim h1 fun z => h2 (by rw [List.mem_singleton.mp z]; exact List.mem_cons_self)) fun z => h2 (List.mem_cons_of_mem _ z)]
    exact h3
  have pre : (as.hide D).as <+: (as.add D).as := List.prefix_append _ _
  refine ⟨List.nodup_append.mpr ⟨k.nd, by simp, fun a ha b hb => by rw [List.mem_singleton.mp hb]; exact fun z => nD (z ▸ ha)⟩, by simp [Wl.add, ← k.len]; rfl, fun a ha => ?_, fun i a c e1 e2 => ?_⟩
  · obtain ⟨h1, h2⟩ := k.hid a (List.mem_cons_of_mem _ ha)
    exact ⟨fun z => (List.mem_append.mp z).elim h1 fun z => hn (by rw [← List.mem_singleton.mp z]; exact ha), h2⟩
  · have hlen : as.as.length = st.length := k.len
    by_cases hi : i < as.as.length
    · have e1' : as.as[i]? = some a := by rw [← e1]; exact (List.getElem?_append_left hi).symm
      rw [List.getElem?_append_left (by rw [← hlen]; exact hi)] at e2
      exact (k.at_ i a c e1' e2).ext (as := as.hide D) (as' := as.add D) pre ex
    · have hi' : i = as.as.length := by
        have := (List.getElem?_eq_some_iff.mp e1).1
        simp at this
        omega
      subst hi'
      have e1' : a = D := by
        have := e1
        rw [made_get] at this
        exact (Option.some.inj this).symm
      subst e1'
      rw [hlen, List.getElem?_append_right (Nat.le_refl _)] at e2
      simp at e2
      subst e2
      rw [hD]
      exact ia.ext (as := as.hide a) (as' := as.add a) pre ex
end
section
variable {ca : Ca} {X : Cx} {W : WX} {K : PySem.W.Frag}
/-- the heart of a comprehension -/
theorem lc_is {wi : TI} {g : TG} {tt : TT} {te : TE} {vs : List Nat} {fi : F (List D)} {gg : FG} {ft : F Bool} {fe : F D} (hi : IvS K ca W wi fi) (hg : GvS K ca g gg) (ho : OwnT g vs) (ht : TvS K ca W0 tt ft) (he : EvS K ca W0 te fe)
    {as : Wl} {H : Hp} {σ : L2.St} {env : Evn} {st : Sta} {Q : VK} {fin : List D → Sta → Option (R D)} (henv : EnvOk K ca as (stab as H) σ env) (hst : StOk K ca as H st)
    (hp : Post K ca W (IsD K ca) as H σ (bnd (fi env st) fun ds st => bnd (lcF gg ft fe (wipeE env vs) ds [] st) fin) Q)
    (hfin : ∀ as1 H1 as' H' D acc ads st' st1, StOk K ca as1 H1 st1 → Step as1 H1 as' H' → H1 D = none → H' D = some (.lst acc) → IsDs K ca (as'.hide D) (stab (as'.hide D) H') acc ads → StOk K ca (as'.hide D) H' st' → StOk K ca as' H' st' → Post K ca W (IsD K ca) as1 H1 σ (fin ads st') Q → Q (.ref D) H') :
    tLc wi g tt te vs σ H Q := by
  refine hi as H σ env st _ henv hst (Post.bnd hp fun ds st1 v as1 H1 s1 k1 i1 p1 => ?_)
  intro eH
  obtain ⟨J, H1'⟩ := v
  dsimp only at eH i1 ⊢
  subst eH
  obtain ⟨_, ok⟩ := i1
  intro D hD
  have henv1 := henv.step s1
  refine ⟨fun i m H' => m = ds.length - i ∧ i ≤ ds.length ∧ ∃ as' acc ads st', Step as1 H1' as' H' ∧ H' D = some (.lst acc) ∧ IsDs K ca (as'.hide D) (stab (as'.hide D) H') acc ads ∧ StOk K ca (as'.hide D) H' st' ∧ StOk K ca as' H' st' ∧ Post K ca W (IsD K ca) as1 H1' σ (bnd (lcF gg ft fe (wipeE env vs) (ds.drop i) ads st') fin) Q,
    ⟨ds.length, by simp, Nat.zero_le _, as1, [], [], st1, Step.laid hD, upd_same, .nil, k1.hideD hD, k1.laid hD, p1⟩, ?_⟩
  rintro i m H' ⟨rfl, hile, as', acc, ads, st', s, hDa, ia, kh, ku, p⟩
  by_cases hlt : i < ds.length
  · have ed : ds[i]? = some ds[i] := by simp [hlt]
    obtain ⟨_, h2⟩ := ok (as'.hide D) H' i s.pre (hide_ext hD s)
    obtain ⟨go, yl⟩ := h2 _ ed
    refine .inr ⟨go, fun H2 => i + 1 ≤ ds.length ∧ ∃ as' acc ads st', Step as1 H1' as' H2 ∧ H2 D = some (.lst acc) ∧ IsDs K ca (as'.hide D) (stab (as'.hide D) H2) acc ads ∧ StOk K ca (as'.hide D) H2 st' ∧ StOk K ca as' H2 st' ∧ Post K ca W (IsD K ca) as1 H1' σ (bnd (lcF gg ft fe (wipeE env vs) (ds.drop (i + 1)) ads st') fin) Q, fun H2 q => ⟨ds.length - (i + 1), by omega, rfl, q⟩, fun x H'' y => ?_⟩
    obtain ⟨sy, ky, iy⟩ := yl x H'' y st' kh
    rw [List.drop_eq_getElem_cons hlt] at p
    unfold lcF at p
    have nD : D ∉ as'.as := (kh.hid D List.mem_cons_self).1
    have sy' : Step as' H' as' H'' := ⟨List.prefix_refl _, rfl, fun _ h n => (n h).elim, sy.keep⟩
    have envW : EnvOk K ca (as'.hide D) (stab (as'.hide D) H'') (L2.wipe σ vs) (wipeE env vs) := ((henv1.ext (as' := as'.hide D) s.pre (hide_ext hD s)).step sy).wipe vs
    refine ho x σ H'' _ (hg (as'.hide D) H'' _ _ _ x ds[i] _ envW ky iy ?_)
    cases eg : gg ds[i] (wipeE env vs) st' with
    | none => simp only [eg] at p; exact p.elim
    | some q =>
      obtain ⟨env1, st2⟩ := q
      simp only [eg] at p
      intro σ2 H2 s2 k2 e2
      refine ht (as'.hide D) H2 σ2 env1 st2 _ e2 k2 ?_
      cases et : ft env1 st2 with
      | none => rw [et] at p; exact p.elim
      | some q =>
        rw [et] at p
        cases q with
        | err => exact p.elim
        | ok b st3 =>
          intro b' as3 H3 s3 k3 eb
          cases (show b' = b from eb)
          have hs3 : as3.hs = D :: as'.hs := s3.hid
          obtain ⟨a3, h3⟩ := as3
          dsimp only at hs3
          subst hs3
          have s3' : Step as1 H1' ⟨a3, as'.hs⟩ H3 := by
            refine ((s.trans sy').trans ⟨List.prefix_refl _, rfl, fun _ h n => (n h).elim, s2.keep⟩).trans ⟨s3.pre, rfl, s3.new, s3.keep⟩
          have hDk : ∀ {H5 : Hp} {a5 : List Addr}, Step (as'.hide D) H'' ⟨a5, D :: as'.hs⟩ H5 → H5 D = some (.lst acc) := fun s5 => s5.keep D _ nD (sy.keep D _ nD hDa)
          have ia3 := ((ia.step sy).step s2).step s3
          cases b with
          | false =>
            refine iteF ⟨hlt, ⟨a3, as'.hs⟩, acc, ads, st3, s3', hDk (s2.trans s3), ia3, k3, k3.unhide, p⟩
          | true =>
            refine iteT (he ⟨a3, D :: as'.hs⟩ H3 σ2 env1 st3 _ (e2.step s3) k3 ?_)
            dsimp only [bnd0] at p
            cases ee : fe env1 st3 with
            | none => rw [ee] at p; exact p.elim
            | some q =>
              rw [ee] at p
              cases q with
              | err => exact p.elim
              | ok yd st4 =>
                intro yv as4 H4 s4 k4 iy4
                have hs4 : as4.hs = D :: as'.hs := s4.hid
                obtain ⟨a4, h4⟩ := as4
                dsimp only at hs4
                subst hs4
                have hD4 : H4 D = some (.lst acc) := s4.keep D _ (by
                  intro z
                  exact (k3.hid D List.mem_cons_self).1 z) (hDk (s2.trans s3))
                dsimp only at p
                by_cases hz : ads.length < 100000
                · rw [if_pos hz] at p
                  have ia4 := ia3.step s4
                  refine ⟨acc, hD4, by rw [ia4.len]; exact sz_lt hz, hlt, ⟨a4, as'.hs⟩, acc ++ [yv], ads ++ [yd], st4, ?_, upd_same, ?_, k4.grow, k4.grow.unhide, p⟩
                  · have s4' : Step as1 H1' ⟨a4, as'.hs⟩ H4 := s3'.trans ⟨s4.pre, rfl, s4.new, s4.keep⟩
                    exact ⟨s4'.pre, s4'.hid, s4'.new, fun a o h1 h2 => by
                      have hne : a ≠ D := fun z => by rw [z, hD] at h2; cases h2
                      rw [upd_ne hne]
                      exact s4'.keep a o h1 h2⟩
                  · exact (ia4.append (.cons iy4 .nil)).ext (List.prefix_refl _) grow_ext
                · rw [if_neg hz] at p
                  exact p.elim
  · have e : i = ds.length := by omega
    subst e
    obtain ⟨h1, _⟩ := ok as' H' ds.length s.pre s.ext
    rw [List.drop_length] at p
    exact .inl ⟨h1 (by simp), hfin as1 H1' as' H' D acc ads st' st1 k1 s hD hDa ia kh ku p⟩
variable {elt tg iter : Expr} {scope : Scope} {own : List (Str × Nat)} {pos : Pos} {gg : FG} {fe : F D} {fi : F (List D)}
/-- the target of a comprehension's block -/
def JGo (ca : Ca) (X : Cx) (vs : List Nat) (e : Expr) (g : TG) (f : FG) : Prop := PG X e g ∧ GvS X.K ca g f ∧ OwnT g vs
theorem gvs_name {i : Nat} : GvS K ca (gName i) (gN i) := fun as H σ env st v d Q he hs hv hq => hq _ H (Step.refl _ _) hs (he.set i hv)
theorem gvs_pair {i j : Nat} : GvS K ca (gTup K 2 (gCons (gName i) (gCons (gName j) gNil))) (gTp 2 (gCn (gN i) (gCn (gN j) gNl))) := fun as H σ env st v d Q he hs hv hq => by
  cases hv <;> first | exact False.elim hq | skip
  rename_i a xs ds h1 h2
  unfold gTp at hq
  dsimp only at hq
  by_cases hl : ds.length = 2
  · rw [if_pos hl] at hq
    cases h2 with
    | nil => cases hl
    | cons a1 h2 =>
      cases h2 with
      | nil => cases hl
      | cons a2 h3 =>
        cases h3 with
        | cons => simp at hl
        | nil => exact ⟨_, _, rfl, ext_t (stab_sub _ _) h1, rfl, _, _, rfl, _, _, rfl, rfl, hq _ H (Step.refl _ _) hs ((he.set i a1).set j a2)⟩
  · rw [if_neg hl] at hq
    exact hq.elim
theorem je_lcG {g : TG} {ifs : List Expr} {tt : TT} {ft : F Bool} {te : TE} (hc : X.calm = true) (hN : X.N.Nodup) (hi : JI ca X W tg iter fi) (ok : BlkOk X.N X.env.scope scope own)
    (hg : ∀ (s : Shared) (H : Hp) (C : Addr) (cl : List (Str × Addr)) (fp : List Addr), PG (X.blk s H scope (compEnvC scope cl C X.env) fp) tg g) (hgs : GvS X.K ca g gg) (ho : OwnT g (own.map (·.2)))
    (ht : ∀ (s : Shared) (H : Hp) (C : Addr) (cl : List (Str × Addr)) (fp : List Addr), PTs (X.blk s H scope (compEnvC scope cl C X.env) fp) ifs tt) (hts : TvS X.K ca W0 tt ft)
    (he : ∀ (s : Shared) (H : Hp) (C : Addr) (cl : List (Str × Addr)) (fp : List Addr), PE (X.blk s H scope (compEnvC scope cl C X.env) fp) elt te) (hes : EvS X.K ca W0 te fe) (hs : ∀ x, foldedSetIterable iter X.env x = pure x) :
    (JE ca X W (.ListComp elt [⟨tg, iter, ifs, 0⟩] scope pos) (fLc fi gg ft fe (own.map (·.2)))) ∧ (JE ca X W (.ListComp elt [⟨tg, iter, ifs, 0⟩] scope pos) (fLcN fi gg ft fe (own.map (·.2)))) := by
  obtain ⟨wi, pi, qi⟩ := hi
  refine ⟨⟨_, pe_lc hc hN pi ok hg ht he hs, fun as H σ env st Q henv hst hp => ?_⟩, ⟨_, pe_lc hc hN pi ok hg ht he hs, fun as H σ env st Q henv hst hp => ?_⟩⟩
  · refine lc_is qi hgs ho hts hes henv hst hp fun as1 H1 as' H' D acc ads st' st1 k1 s hD hDa ia kh ku p => ?_
    have nD := (kh.hid D List.mem_cons_self).1
    have hn : D ∉ as'.hs := by
      rw [s.hid]
      exact k1.freeH hD
    have e1 := (stab_out (as := as') (H := H') nD hn).trans hDa
    exact p _ as' H' s ku (.lst e1 (ia.ext (as := as'.hide D) (as' := as') (List.prefix_refl _) unhide_ext))
  · refine lc_is qi hgs ho hts hes henv hst hp fun as1 H1 as' H' D acc ads st' st1 k1 s hD hDa ia kh ku p => ?_
    have hn : D ∉ as'.hs := by
      rw [s.hid]
      exact k1.freeH hD
    have k2 := kh.adopt hDa ia hn
    refine p _ (as'.add D) H' ⟨s.pre.trans (List.prefix_append _ _), s.hid, fun a ha n => ?_, s.keep⟩ k2 (.cell (by rw [← ku.len]; exact made_get))
    rcases List.mem_append.mp ha with ha | ha
    · exact s.new a ha n
    · rw [List.mem_singleton.mp ha]; exact hD
theorem pg_pair {i j : Nat} {x y : Str} {p1 p2 pt : Pos} {k : Nat} (hc : X.calm = true) (h1 : PG X (.Name x p1) (gName i)) (h2 : PG X (.Name y p2) (gName j)) (q1 : (assignEach [.Name x p1, .Name y p2] X.env).map (·.2) = assign (.Name x p1) X.env :: (assignEach [.Name y p2] X.env).map (·.2) := by rfl)
    (q2 : (assignEach [.Name y p2] X.env).map (·.2) = assign (.Name y p2) X.env :: (assignEach [] X.env).map (·.2) := by rfl) (hn : (assignEach [.Name x p1, .Name y p2] X.env).length = 2 := by rfl) (hst : (assignEach [.Name x p1, .Name y p2] X.env).findIdx? (·.1) = none := by rfl) :
    PG X (.Tuple [.Name x p1, .Name y p2] k pt) (gTup X.K 2 (gCons (gName i) (gCons (gName j) gNil))) := pg_tup hc (pgs_cons h1 (pgs_cons h2 pgs_nil q2) q1) hn hst
end
end DS

namespace DS
open PySem L2 PySem.Spec PyProof.Rows
open PySem.W (alike dataLe AllAlike EachIs KeyedOut keyedOut_each SortsAt)
/-! ### sorted, the order of data -/
def toPd (d : D) : PyData := (toP d).getD .none
def sortOk (ps : List PyData) : Bool := (ps.all fun p => ps.all fun q => alike p q) && (((ps.all fun p => match p with | .tuple (_ :: _) => true | _ => false) || (ps.all fun p => match p with | .none => false | .tuple _ => false | _ => true)) && ps.all fun p => decide (p.depth ≤ 60))
def sortD (a : List D) : List D := a.mergeSort (dataLe false toPd)
def lstOf (x : D) (st : Sta) : Option (List D) := match x with | .tup _ => none | x => seqOf x st
def oSorted (xs : List D) (st : Sta) : Option (R D) := match xs with
  | [x] => (match lstOf x st with
    | some a => if (a.all fun d => (toP d).isSome) = true ∧ sortOk (a.map toPd) = true then ret (.lst (sortD a)) st else none
    | none => none)
  | _ => none
def rSortedD (K : PySem.W.Frag) (ca : Ca) : List V → Hp → VK → Prop := fun vs H Q => ∃ (a : Addr) (xs : List V) (as : Wl) (ds : List D), vs = [.ref a] ∧ SqL K H a xs ∧ IsDs K ca as (stab as H) xs ds ∧ (ds.all fun d => (toP d).isSome) = true ∧ sortOk (ds.map toPd) = true ∧
  ∀ p ys, H p = none → IsDs K ca as (stab as H) ys (sortD ds) → Q (.ref p) (upd H p (.lst ys))
section
variable {K : PySem.W.Frag} {ca : Ca} {W : WX} {X : Cx}
theorem isDs_pairs {as : Wl} {G : Hp} : ∀ {bs : List (V × D)}, (∀ b ∈ bs, IsD K ca as G b.1 b.2) → IsDs K ca as G (bs.map (·.1)) (bs.map (·.2))
  | [], _ => .nil
  | b :: bs, h => .cons (h b List.mem_cons_self) (isDs_pairs fun c hc => h c (List.mem_cons_of_mem _ hc))
theorem pairs_isDs {as : Wl} {G : Hp} : ∀ {xs : List V} {ds : List D}, IsDs K ca as G xs ds → ∃ bs : List (V × D), bs.map (·.1) = xs ∧ bs.map (·.2) = ds ∧ ∀ b ∈ bs, IsD K ca as G b.1 b.2
  | [], ds, h => by cases h; exact ⟨[], rfl, rfl, fun b z => nomatch z⟩
  | x :: xs, ds, h => by
    cases h with
    | cons h1 h2 =>
      obtain ⟨bs, e1, e2, e3⟩ := pairs_isDs h2
      refine ⟨(x, _) :: bs, by rw [List.map_cons, e1], by rw [List.map_cons, e2], fun b hb => ?_⟩
      rcases List.mem_cons.mp hb with e | hb
      · subst e; exact h1
      · exact e3 b hb
theorem each_vals : ∀ {bs : List (V × D)} {us : List Value}, Vals (bs.map (·.1)) us → EachIs (fun u (b : V × D) => RelV b.1 u) us bs
  | [], us, h => by cases h; exact .nil
  | b :: bs, us, h => by
    cases h with
    | cons h1 h2 => exact .cons h1 (each_vals h2)
theorem vals_each : ∀ {bs : List (V × D)} {us : List Value}, EachIs (fun u (b : V × D) => RelV b.1 u) us bs → Vals (bs.map (·.1)) us
  | [], us, h => by cases h; exact .nil
  | b :: bs, us, h => by
    cases h with
    | cons h1 h2 => exact .cons h1 (vals_each h2)
theorem cr_sortedD (hu : X.A.units + 64 < cLine) : CallR X (.builtin "sorted") (rSortedD X.K ca) := by
  intro pins s σ H vs us Q I r h
  obtain ⟨a, xs, as, ds, rfl, hs, hd, hp, hok, q⟩ := h
  obtain ⟨its, rv, hl, hz⟩ := I.list hs
  obtain ⟨u, rfl, ru⟩ := vals1 r
  obtain rfl : u = Value.ref a := ru
  obtain ⟨bs, e1, e2, hb⟩ := pairs_isDs hd
  unfold sortOk at hok
  rw [Bool.and_eq_true, Bool.and_eq_true] at hok
  obtain ⟨ha, hk, hdep⟩ := hok
  have hlen : its.length ≤ sizeLine := by rw [← rv.length]; exact hz
  have hall : AllAlike (bs.map fun b => toPd b.2) := by
    intro d hd' d' hd''
    have e3 : (bs.map fun b => toPd b.2) = ds.map toPd := by rw [← e2, List.map_map]; rfl
    rw [e3] at hd' hd''
    exact List.all_eq_true.mp (List.all_eq_true.mp ha d hd') d' hd''
  have reads : ∀ {s' : Shared}, Inv X pins σ H s' → EachIs (fun v d => ∃ cs, Reads s'.heap v d cs) its (bs.map fun b => toPd b.2) := by
    intro s' I'
    have go : ∀ {bs : List (V × D)} {us : List Value}, (∀ b ∈ bs, IsD X.K ca as (stab as H) b.1 b.2 ∧ (toP b.2).isSome = true) → Vals (bs.map (·.1)) us → EachIs (fun v d => ∃ cs, Reads s'.heap v d cs) us (bs.map fun b => toPd b.2) := by
      intro bs
      induction bs with
      | nil => intro us _ hv; cases hv; exact .nil
      | cons b bs ih =>
        intro us hm hv
        cases hv with
        | cons h1 h2 =>
          refine .cons ?_ (ih (fun c hc => hm c (List.mem_cons_of_mem _ hc)) h2)
          obtain ⟨i, hsome⟩ := hm b List.mem_cons_self
          obtain ⟨p, ep⟩ := Option.isSome_iff_exists.mp hsome
          have : toPd b.2 = p := by unfold toPd; rw [ep]; rfl
          show ∃ cs, Reads s'.heap _ (toPd b.2) cs
          rw [this]
          exact Dp.reads I' p b.1 _ (i.dp (stab_sub _ _) ep) h1
    refine go (fun b hm => ⟨hb b hm, ?_⟩) (by rw [e1]; exact rv)
    exact List.all_eq_true.mp hp b.2 (by rw [← e2]; exact List.mem_map.mpr ⟨b, hm, rfl⟩)
  have I2 : Inv X pins σ H { s with heap := PySem.W.sortingHeap (PySem.W.copyHeap s.heap its) (s.heap.objs.size + 1) its } := I.kept (t' := s.toks) fun b o e => PySem.W.sorting_copy_old e
  have e3 : (bs.map fun b => toPd b.2) = ds.map toPd := by rw [← e2, List.map_map]; rfl
  have hsort : PySem.W.Sortable (bs.map fun b => toPd b.2) := by
    rw [e3]
    rw [Bool.or_eq_true] at hk
    rcases hk with hk | hk
    · refine .inl fun d hd' => ?_
      have := List.all_eq_true.mp hk d hd'
      revert this
      cases d <;> try (intro z; cases z)
      rename_i ys
      cases ys with
      | nil => intro z; cases z
      | cons y ys => exact fun _ => ⟨y, ys, rfl⟩
    · refine .inr fun d hd' => ?_
      have := List.all_eq_true.mp hk d hd'
      revert this
      cases d <;> intro z <;> first | (cases z; done) | exact ⟨by simp, by simp⟩
  refine PySem.W.sorted_vals (κ := PySem.W.dataKind (PySem.W.sortingHeap (PySem.W.copyHeap s.heap its) (s.heap.objs.size + 1) its) (bs.map fun b => toPd b.2)) hl.isList (SortsAt.data (reads I2) hall hsort fun d hd' => ?_) hlen ?_
  · have h6 : d.depth ≤ 60 := by
      rw [e3] at hd'
      exact of_decide_eq_true (List.all_eq_true.mp hdep d hd')
    show X.A.units + 1 + 1 + d.depth < cLine
    omega
  · have ko : KeyedOut false (bs.map fun b => toPd b.2) its (PySem.W.sortVals (PySem.W.dataKind (PySem.W.sortingHeap (PySem.W.copyHeap s.heap its) (s.heap.objs.size + 1) its) (bs.map fun b => toPd b.2)) false its its) := ⟨_, its, hall, rfl, reads I2⟩
    have ke := keyedOut_each (k := fun b : V × D => toPd b.2) ko (each_vals (by rw [e1]; exact rv))
    have vo := vals_each ke
    have em : (bs.mergeSort (dataLe false fun b : V × D => toPd b.2)).map (·.2) = sortD ds := by
      unfold sortD
      rw [← e2]
      exact List.map_mergeSort fun a _ b _ => rfl
    have hys : IsDs X.K ca as (stab as H) ((bs.mergeSort (dataLe false fun b : V × D => toPd b.2)).map (·.1)) (sortD ds) := by
      rw [← em]
      exact isDs_pairs fun b hm => hb b ((List.mergeSort_perm _ _).mem_iff.mp hm)
    obtain ⟨n, hn⟩ := PyProof.Rows.sortedAll_at s.heap its (PySem.W.sortVals (PySem.W.dataKind (PySem.W.sortingHeap (PySem.W.copyHeap s.heap its) (s.heap.objs.size + 1) its) (bs.map fun b => toPd b.2)) false its its).toArray
    refine ⟨.ref (s.heap.objs.size + 1), upd H (s.heap.objs.size + 1) (.lst _), I.laid (t' := s.toks) (fun b o e => PyProof.Rows.sortedAll_old e) (Nat.le_succ _) ⟨?_, _, n, vo, hn⟩, rfl, q _ _ (I.hok.fresh (Nat.le_succ _)) hys⟩
    rw [vo.length, ko.length (by rw [List.length_map, ← rv.length, ← e1, List.length_map])]
    exact hlen
theorem rn_sorted : RvN K ca W (rSortedD K ca) oSorted := by
  intro as H σ st v x Q k hx hp
  cases hx with
  | nil => exact False.elim hp
  | cons h1 h2 =>
    cases h2 with
    | cons => exact False.elim hp
    | nil =>
      unfold oSorted at hp
      dsimp only at hp
      split at hp
      · rename_i a ea
        split at hp
        · rename_i hc
          unfold lstOf at ea
          split at ea
          · cases ea
          · rename_i hne
            rcases seq_isL k h1 ea with ⟨p, xs, rfl, hs, hd⟩ | ⟨p, xs, rfl, rfl, hs, hd⟩
            · exact ⟨p, xs, as, a, rfl, hs, hd, hc.1, hc.2, fun q ys hq hy => hp _ as _ (Step.laid hq) (k.laid hq) (.lst (stab_laid k hq) (hy.step (Step.laid hq)))⟩
            · exact (hne _ rfl).elim
        · exact hp.elim
      · exact hp.elim
end
end DS

namespace DS
open PySem L2 PySem.Spec PyProof.Rows
/-! ### a written table with text keys and whole numbers -/
structure TblK (K : PySem.W.Frag) (w : World) (a : Addr) (tbl : List (Str × Int)) : Prop where
  ex : ∃ es n, KDict K w a es n
  get : ∀ z i, tbl.lookup z = some i → ∃ t, PySem.W.nsIn K a z = some (some (.int i t))
def fGetK (tbl : List (Str × Int)) (fa : F D) : F D := fun env st => bnd (fa env st) fun x st => match x with
  | .str z => (match tbl.lookup z with | some i => ret (.int i) st | none => none)
  | _ => none
def tGetK (K : PySem.W.Frag) (a : Addr) (td ty : TE) : TE := fun σ H Q => td σ H fun x H1 => x = .ref a ∧ ty σ H1 fun y H2 => ∃ z u v, y = .str z ∧ PySem.W.nsIn K a z = some (some u) ∧ RelV v u ∧ Q v H2
section
variable {ca : Ca} {X : Cx} {W : WX} {e : Expr} {fa : F D} {a : Addr} {tbl : List (Str × Int)} {apos cpos p : Pos} {x : Str}
theorem pe_getK {td ty : TE} {o : Expr} (D : ∃ es n, KDict X.K X.w a es n) (ho : PE X o td) (he : PE X e ty) (m : M1 X o "get" apos e cpos) : PE X (.Call (.Attribute o "get" apos) [e] [] cpos) (tGetK X.K a td ty) := by
  refine ⟨fun pins s σ H Q I h => ?_⟩
  obtain ⟨es, n, D⟩ := D
  refine wpAny_Call_method m.base m.few m.line PySem.F.plainAttrs_dict PySem.F.slot_dict_get PySem.F.type_dict_get (thn (ho.run pins s σ H _ I h) fun u s1 ⟨x, H1, I1, rx, ex, q1⟩ => ?_)
  subst ex
  obtain rfl : u = Value.ref a := rx
  refine ⟨kd_type D I1, fun b q => ?_, ?_⟩
  · cases q
    exact ⟨_, I1.kIn _ _ D.at_, rfl⟩
  rw [m.trees]
  refine Calls.callWith_builtin rfl (Calls.evalArgs_plain (Calls.spliced_cons (thn (he.run pins s1 σ H1 _ I1 q1) fun iv s2 ⟨y, H2, I2, ry, z, u, v, ey, eu, rv, q2⟩ => Calls.spliced_nil ?_)))
  subst ey
  obtain ⟨t, rfl⟩ := ry
  have hm := PySem.W.mapOf_K (prog := X.prog) (w := X.w) I2.kIn D.at_ D.lit
  refine call_meetsIn PySem.F.slot_dict_get hm.typeIs PySem.F.entry_dict_get (PySem.F.args_dict_get_2 _ _) (meets_dict_get (strKind X.prog X.w) a (strKind_is X.prog X.w z t) D.low) ⟨_, hm, ?_⟩
  rw [PySem.W.find_K D.at_ eu]
  exact ⟨v, H2, I2.tok _, rv, q2⟩
theorem je_getK (T : TblK X.K X.w a tbl) (hg : Gl X x) (hm : X.mg x = some (.ref a)) (h : JE ca X W e fa) (hd : (x == ("__debug__" : Str)) = false := by decide)
    (m : M1 X (.Name x p) "get" apos e cpos := by exact ⟨rfl, rfl, rfl, rfl⟩) : JE ca X W (.Call (.Attribute (.Name x p) "get" apos) [e] [] cpos) (fGetK tbl fa) := by
  obtain ⟨t, pt, q⟩ := h
  refine ⟨_, pe_getK T.ex (pe_glob (v := .ref a) hg hm rfl hd) pt m, fun as H σ env st Q he hs hp => ?_⟩
  refine ⟨rfl, q as H σ env st _ he hs (Post.bnd hp fun x st1 v as1 H1 s1 k1 i1 p1 => ?_)⟩
  cases i1 <;> first | exact False.elim p1 | skip
  rename_i z
  dsimp only at p1
  split at p1
  · rename_i i ei
    obtain ⟨t, et⟩ := T.get z i ei
    exact ⟨z, _, .int i, rfl, et, ⟨t, rfl⟩, p1.here k1 (.int i)⟩
  · exact p1.elim
/-! ### the module's constants -/
theorem je_gint {i : Int} {t : Tok} {pos : Pos} (hg : Gl X x) (hm : X.mg x = some (.int i t)) (hd : (x == ("__debug__" : Str)) = false := by decide) : JE ca X W (.Name x pos) (fC (.int i)) :=
  ⟨_, pe_glob (v := .int i) hg hm ⟨t, rfl⟩ hd, evs_c fun _ _ => .int i⟩
/-- a written tuple of texts -/
structure TupK (K : PySem.W.Frag) (a : Addr) (zs : List Str) : Prop where
  ex : ∃ (o : Obj) (its : Array Value) (n : Nat), K.lookup a = some o ∧ o.cls = .type "tuple" ∧ o.data = .seq its n ∧ its.size ≤ sizeLine ∧ Vals (zs.map V.str) its.toList
theorem strs_is {K : PySem.W.Frag} {as : Wl} {G : Hp} : ∀ zs : List Str, IsDs K ca as G (zs.map V.str) (zs.map D.str)
  | [] => .nil
  | z :: zs => .cons (.str z) (strs_is zs)
theorem je_gtup {zs : List Str} {pos : Pos} (T : TupK X.K a zs) (hg : Gl X x) (hm : X.mg x = some (.ref a)) (hd : (x == ("__debug__" : Str)) = false := by decide) : JE ca X W (.Name x pos) (fC (.tup (zs.map D.str))) :=
  ⟨_, pe_glob (v := .ref a) hg hm rfl hd, evs_c fun _ _ => .tup (.inr T.ex) (strs_is zs)⟩
/-! ### isinstance of an own class -/
structure ClsI (K : PySem.W.Frag) (C : Addr) : Prop where
  cl : Cls K C
  c1 : PySem.W.findIn K (.ref C) "__class__" = some (some (.builtin "object.__class__"))
  c2 : PySem.W.specialIn K (.builtin "object.__class__") "__get__" = some (some (.builtin "getset_descriptor.__get__"))
  c3 : PySem.W.takesIn K (.builtin "object.__class__") = some true
  c4 : PySem.W.mroIn K C (.type "object") = some true
  me : PySem.W.kitOne K (.ref C) (.ref C) = some true
  tup : PySem.W.kitOne K (.type "tuple") (.ref C) = some false
def fIsOwn (c : Nat) (fa : F D) : F D := fun env st => bnd (fa env st) fun x st => match x with
  | .ins c' _ => if c' = c then ret (.bl true) st else none
  | .tup _ => ret (.bl false) st
  | _ => none
theorem je_isOwn {c : Nat} {nx px : Pos} {cn : Str} (T : ClsI X.K (ca c)) (hg : Gl X "isinstance") (hm : X.mg "isinstance" = none) (hg2 : Gl X cn) (hm2 : X.mg cn = some (.ref (ca c))) (ha : JE ca X W e fa) (hdb : (cn == ("__debug__" : Str)) = false := by decide)
    (hs1 : starEach [.Name cn nx] X.env = [(false, eval (.Name cn nx) X.env)] := by rfl) (hs : starEach [e, .Name cn nx] X.env = (false, eval e X.env) :: starEach [.Name cn nx] X.env := by rfl) : JE ca X W (.Call (.Name "isinstance" px) [e, .Name cn nx] [] cpos) (fIsOwn c fa) := by
  obtain ⟨ta, pa, sa⟩ := ha
  refine ⟨_, pe_callB call_isi hg hm (by decide +kernel) (pa_cons pa (pa_cons (pe_glob (v := .ref (ca c)) hg2 hm2 rfl hdb) pa_nil (by rw [hs1]; rfl)) hs) (he := hs) (hpl := by rw [hs1]; rfl), fun as H σ env st Q he hs hp => ?_⟩
  refine sa as H σ env st _ he hs (Post.bnd hp fun x st1 v as1 H1 s1 k1 i1 p1 => ?_)
  cases i1 <;> first | exact False.elim p1 | skip
  · rename_i h1 h2
    exact ⟨_, .ref (ca c), .type "tuple", .ref (ca c), false, rfl, .own _, tyx_tup (ext_t (stab_sub _ _) h1), T.tup, p1.here k1 (.bl _)⟩
  · rename_i h0 h1 h2
    dsimp only at p1
    split at p1
    · rename_i hc
      subst hc
      subst h0
      exact ⟨_, .ref _, .ref _, .ref _, true, rfl, .own _, .base (.ins (stab_some h1).2.2 T.cl T.c1 T.c2 T.c3 T.c4), T.me, p1.here k1 (.bl _)⟩
    · exact p1.elim
/-! ### what is never reached; a try that runs through -/
def sNever : FS := fun _ _ => none
theorem js_never {s : Stmt} : JS ca X W s sNever := ⟨_, ps_never, fun _ _ _ _ _ _ _ _ h => h⟩
/-- no error in it -/
def sThru (f : FS) : FS := fun env st => match f env st with | some (.er _ _ _, _) => none | r => r
theorem js_thru {body : List Stmt} {h0 : ExceptHandler} {hs : List ExceptHandler} {pos : Pos} {f : FS} (hb : JB ca X.nox W0 body f) : JS ca X W (.Try body (h0 :: hs) [] [] pos) (sThru f) := by
  obtain ⟨t, p, q⟩ := hb
  refine ⟨_, ps_try_thru0 p, fun as H σ env st E he hs hp => q as H σ env st E he hs ?_⟩
  unfold sThru at hp
  cases r : f env st with
  | none => rw [r] at hp; exact hp
  | some o =>
    rw [r] at hp
    obtain ⟨o, st'⟩ := o
    cases o <;> first | exact hp | exact False.elim hp
end
end DS

namespace DS
open PySem L2 PySem.Spec PyProof.Rows
/-! ### readings that do not lean on the context -/
def teF (K : PySem.W.Frag) (ca : Ca) (W : WX) (f : F D) : TE := fun σ H Q => ∃ as env st, EnvOk K ca as (stab as H) σ env ∧ StOk K ca as H st ∧ Post K ca W (IsD K ca) as H σ (f env st) Q
def ttF (K : PySem.W.Frag) (ca : Ca) (W : WX) (f : F Bool) : TT := fun σ H Q => ∃ as env st, EnvOk K ca as (stab as H) σ env ∧ StOk K ca as H st ∧ Post K ca W IsB as H σ (f env st) Q
section
variable {ca : Ca} {X : Cx} {W : WX} {e : Expr} {f : F D} {ft : F Bool} {K : PySem.W.Frag}
theorem je_canon (h : JE ca X W e f) : PE X e (teF X.K ca W f) := by
  obtain ⟨t, p, q⟩ := h
  exact ⟨fun pins s σ H Q I ⟨as, env, st, he, hs, hp⟩ => p.run pins s σ H Q I (q as H σ env st Q he hs hp)⟩
theorem jt_canon (h : JT ca X W e ft) : PT X e (ttF X.K ca W ft) := by
  obtain ⟨t, p, q⟩ := h
  exact ⟨fun pins s σ H Q I ⟨as, env, st, he, hs, hp⟩ => p.run pins s σ H Q I (q as H σ env st Q he hs hp)⟩
theorem evs_canon : EvS K ca W (teF K ca W f) f := fun as H σ env st Q he hs hp => ⟨as, env, st, he, hs, hp⟩
theorem tvs_canon : TvS K ca W (ttF K ca W ft) ft := fun as H σ env st Q he hs hp => ⟨as, env, st, he, hs, hp⟩
theorem tvs_yes : TvS K ca W tYes fYes := fun as H σ env st Q he hs hp => hp.here hs rfl
variable {elt tg iter tst : Expr} {scope : Scope} {own : List (Str × Nat)} {pos : Pos} {fi : F (List D)} {fe : F D}
abbrev BK (X : Cx) (scope : Scope) (P : Cx → Prop) : Prop := ∀ (s : Shared) (H : Hp) (C : Addr) (cl : List (Str × Addr)) (fp : List Addr), P (X.blk s H scope (compEnvC scope cl C X.env) fp)
theorem je_lc {g : TG} {gg : FG} (hc : X.calm = true) (hN : X.N.Nodup) (hi : JI ca X W tg iter fi) (ok : BlkOk X.N X.env.scope scope own) (hg : ∀ (s : Shared) (H : Hp) (C : Addr) (cl : List (Str × Addr)) (fp : List Addr), PG (X.blk s H scope (compEnvC scope cl C X.env) fp) tg g) (hgs : GvS X.K ca g gg) (ho : OwnT g (own.map (·.2)))
    (he : ∀ (s : Shared) (H : Hp) (C : Addr) (cl : List (Str × Addr)) (fp : List Addr), JE ca (X.blk s H scope (compEnvC scope cl C X.env) fp) W0 elt fe) (hs : ∀ x, foldedSetIterable iter X.env x = pure x := by intro _; rfl) : JE ca X W (.ListComp elt [⟨tg, iter, [], 0⟩] scope pos) (fLc fi gg fYes fe (own.map (·.2))) :=
  (je_lcG hc hN hi ok hg hgs ho (fun _ _ _ _ _ => pts_nil) tvs_yes (fun s H C cl fp => je_canon (he s H C cl fp)) evs_canon hs).1
theorem je_lcI {g : TG} {gg : FG} (hc : X.calm = true) (hN : X.N.Nodup) (hi : JI ca X W tg iter fi) (ok : BlkOk X.N X.env.scope scope own) (hg : ∀ (s : Shared) (H : Hp) (C : Addr) (cl : List (Str × Addr)) (fp : List Addr), PG (X.blk s H scope (compEnvC scope cl C X.env) fp) tg g) (hgs : GvS X.K ca g gg) (ho : OwnT g (own.map (·.2)))
    (ht : ∀ (s : Shared) (H : Hp) (C : Addr) (cl : List (Str × Addr)) (fp : List Addr), JT ca (X.blk s H scope (compEnvC scope cl C X.env) fp) W0 tst ft) (he : ∀ (s : Shared) (H : Hp) (C : Addr) (cl : List (Str × Addr)) (fp : List Addr), JE ca (X.blk s H scope (compEnvC scope cl C X.env) fp) W0 elt fe) (hs : ∀ x, foldedSetIterable iter X.env x = pure x := by intro _; rfl) : JE ca X W (.ListComp elt [⟨tg, iter, [tst], 0⟩] scope pos) (fLc fi gg ft fe (own.map (·.2))) :=
  (je_lcG hc hN hi ok hg hgs ho (fun s H C cl fp => pts_one (jt_canon (ht s H C cl fp))) tvs_canon (fun s H C cl fp => je_canon (he s H C cl fp)) evs_canon hs).1
end
/-! ### a, b = x, y -/
def sPar (i j : Nat) (fa fb : F D) : FS := fun env st => bndS (fa env st) env fun x st => bndS (fb env st) env fun y st => some (.nx ((env.set i (some x)).set j (some y)), st)
section
variable {ca : Ca} {X : Cx} {W : WX} {a b : Expr} {fa fb : F D} {pos px py pt pt2 : Pos} {x y : Str} {kt k2 : Nat}
theorem js_par (i j : Nat) (hc : X.calm = true) (hN : X.N.Nodup) (h1 : JE ca X W a fa) (h2 : JE ca X W b fb) (hi : X.N[i]? = some x := by rfl) (hj : X.N[j]? = some y := by rfl) (hij : i ≠ j := by decide)
    (hx : X.env.scope.names.lookup x = some .local := by rfl) (hy : X.env.scope.names.lookup y = some .local := by rfl)
    (hw : swappedStores [.Tuple [.Name x px, .Name y py] kt pt] (.Tuple [a, b] k2 pt2) X.env = pure (some [x, y]) := by rfl)
    (hs : swapsWithSole [.Tuple [.Name x px, .Name y py] kt pt] (.Tuple [a, b] k2 pt2) pos.line X.env = pure false := by rfl)
    (s1 : starEach [a, b] X.env = (false, eval a X.env) :: starEach [b] X.env := by rfl) (s2 : starEach [b] X.env = (false, eval b X.env) :: starEach [] X.env := by rfl) :
    JS ca X W (.Assign [.Tuple [.Name x px, .Name y py] kt pt] (.Tuple [a, b] k2 pt2) pos) (sPar i j fa fb) := by
  obtain ⟨t, p, q⟩ := h1
  obtain ⟨t', p', q'⟩ := h2
  refine ⟨_, ps_par hc hN hi hj hij hx hy (pa_cons p (pa_cons p' pa_nil s2) s1) hw hs, fun as H σ env st E he hs hp => ?_⟩
  refine q as H σ env st _ he hs (PostS.bnd hp he fun d st1 v as1 H1 s1 k1 i1 p1 => ?_)
  refine q' as1 H1 σ env st1 _ (he.step s1) k1 (PostS.bnd p1 (he.step s1) fun d2 st2 v2 as2 H2 s2 k2 i2 p2 => ?_)
  exact ⟨v, v2, rfl, p2.here k2 ((((he.step s1).step s2).set i (i1.step s2)).set j i2)⟩
end
def sPar3 (i j l : Nat) (fa fb fc : F D) : FS := fun env st => bndS (fa env st) env fun x st => bndS (fb env st) env fun y st => bndS (fc env st) env fun z st => some (.nx (((env.set i (some x)).set j (some y)).set l (some z)), st)
section
variable {ca : Ca} {X : Cx} {W : WX} {a b c : Expr} {fa fb fc : F D} {pos px py pz pt pt2 : Pos} {x y z : Str} {kt k2 : Nat}
theorem js_par3 (i j l : Nat) (hc : X.calm = true) (hN : X.N.Nodup) (h1 : JE ca X W a fa) (h2 : JE ca X W b fb) (h3 : JE ca X W c fc) (hi : X.N[i]? = some x := by rfl) (hj : X.N[j]? = some y := by rfl) (hl : X.N[l]? = some z := by rfl) (hij : i ≠ j := by decide) (hil : i ≠ l := by decide) (hjl : j ≠ l := by decide)
    (hx : X.env.scope.names.lookup x = some .local := by rfl) (hy : X.env.scope.names.lookup y = some .local := by rfl) (hz : X.env.scope.names.lookup z = some .local := by rfl)
    (hw : swappedStores [.Tuple [.Name x px, .Name y py, .Name z pz] kt pt] (.Tuple [a, b, c] k2 pt2) X.env = pure (some [x, y, z]) := by rfl)
    (hs : swapsWithSole [.Tuple [.Name x px, .Name y py, .Name z pz] kt pt] (.Tuple [a, b, c] k2 pt2) pos.line X.env = pure false := by rfl)
    (s1 : starEach [a, b, c] X.env = (false, eval a X.env) :: starEach [b, c] X.env := by rfl) (s2 : starEach [b, c] X.env = (false, eval b X.env) :: starEach [c] X.env := by rfl) (s3 : starEach [c] X.env = (false, eval c X.env) :: starEach [] X.env := by rfl) :
    JS ca X W (.Assign [.Tuple [.Name x px, .Name y py, .Name z pz] kt pt] (.Tuple [a, b, c] k2 pt2) pos) (sPar3 i j l fa fb fc) := by
  obtain ⟨t, p, q⟩ := h1
  obtain ⟨t', p', q'⟩ := h2
  obtain ⟨t2, p2, q2⟩ := h3
  refine ⟨_, ps_par3 hc hN hi hj hl hij hil hjl hx hy hz (pa_cons p (pa_cons p' (pa_cons p2 pa_nil s3) s2) s1) hw hs, fun as H σ env st E he hs hp => ?_⟩
  refine q as H σ env st _ he hs (PostS.bnd hp he fun d st1 v as1 H1 s1 k1 i1 p1 => ?_)
  refine q' as1 H1 σ env st1 _ (he.step s1) k1 (PostS.bnd p1 (he.step s1) fun d2 st2 v2 as2 H2 s2 k2 i2 p2 => ?_)
  refine q2 as2 H2 σ env st2 _ ((he.step s1).step s2) k2 (PostS.bnd p2 ((he.step s1).step s2) fun d3 st3 v3 as3 H3 s3 k3 i3 p3 => ?_)
  exact ⟨v, v2, v3, rfl, p3.here k3 ((((((he.step s1).step s2).step s3).set i ((i1.step s2).step s3)).set j (i2.step s3)).set l i3)⟩
end
/-! ### classes as others use them -/
structure PrpOk (P : Program) (w : World) (K : PySem.W.Frag) (mg : Str → Option Value) (base : Heap) (ca : Ca) (k : Nat) (c : Nat) (f : Str) (Fg : List D → Sta → Option (R D)) : Prop where
  cl : Cls K (ca c)
  ex : ∃ pp g fd, PropOf K (ca c) f pp g ∧ FnOk P w K mg base (L2.CX P w) k g fd ["self"] (spD K ca 1 Fg) ∧ Binds K fd ["self"] []
structure MakOk (P : Program) (w : World) (K : PySem.W.Frag) (mg : Str → Option Value) (base : Heap) (ca : Ca) (k : Nat) (c : Nat) (x : Str) (ps : List Str) (Fi : List D → Sta → Option (R D)) : Prop where
  ex : ∃ fi fd, Mk K (ca c) fi ∧ FnOk P w K mg base (L2.CX P w) k fi fd ps (spD K ca ps.length Fi) ∧ mg x = some (.ref (ca c)) ∧ Binds K fd ps []
structure LenOk (P : Program) (w : World) (K : PySem.W.Frag) (mg : Str → Option Value) (base : Heap) (ca : Ca) (k : Nat) (c : Nat) (Fl : List D → Sta → Option (R D)) : Prop where
  ex : ∃ f fd, PySem.W.findIn K (.ref (ca c)) "__len__" = some (some (.ref f)) ∧ PySem.W.isFn K (.ref f) = true ∧ FnOk P w K mg base (L2.CX P w) k f fd ["self"] (spD K ca 1 Fl) ∧ Binds K fd ["self"] []
theorem bb_len : bootBuiltins "len" = some (.builtin "len") := by decide +kernel
theorem bb_int : bootBuiltins "int" = some (.type "int") := by decide +kernel
theorem bb_bool : bootBuiltins "bool" = some (.type "bool") := by decide +kernel
theorem bb_str : bootBuiltins "str" = some (.type "str") := by decide +kernel
theorem bb_tuple : bootBuiltins "tuple" = some (.type "tuple") := by decide +kernel
theorem bb_list : bootBuiltins "list" = some (.type "list") := by decide +kernel
theorem bb_max : bootBuiltins "max" = some (.builtin "max") := by decide +kernel
theorem bb_min : bootBuiltins "min" = some (.builtin "min") := by decide +kernel
theorem bb_all : bootBuiltins "all" = some (.builtin "all") := by decide +kernel
theorem bb_any : bootBuiltins "any" = some (.builtin "any") := by decide +kernel
theorem bb_sorted : bootBuiltins "sorted" = some (.builtin "sorted") := by decide +kernel
section
variable {ca : Ca} {X : Cx} {W : WX} {e a b : Expr} {es : List Expr} {fa fb : F D} {fs : F (List D)} {pos p : Pos} {x f : Str} {c k j : Nat} {ps : List Str} {Fm : List D → Sta → Option (R D)}
theorem je_len (hm : X.mg "len" = none) (hg : Gl X "len") (h : JE ca X W e fa) (he : starEach [e] X.env = (false, eval e X.env) :: starEach [] X.env := by rfl) (hpl : (backTo pos (starEach [] X.env)).any (·.1) = false := by rfl) : JE ca X W (.Call (.Name "len" p) [e] [] pos) (fN oLen (fCons fa fNil)) :=
  je_callB call_len_seq rn_len hg hm bb_len (ja_cons h ja_nil he) (by decide) (by decide) he hpl
theorem je_lenO (T : LenOk X.prog X.w X.K X.mg X.base ca k c Fm) (hr : Room j X.A) (hk : k + 1 ≤ j) (hm : X.mg "len" = none) (hg : Gl X "len") (h : JE ca X W e fa) (he : starEach [e] X.env = (false, eval e X.env) :: starEach [] X.env := by rfl) (hpl : (backTo pos (starEach [] X.env)).any (·.1) = false := by rfl) : JE ca X W (.Call (.Name "len" p) [e] [] pos) (fN (oLenO c Fm) (fCons fa fNil)) := by
  obtain ⟨f, fd, h1, h2, h3, h4⟩ := T.ex
  exact je_callB (call_lenO h1 h2 h3 (hr.mono hk) h4) rn_lenO hg hm bb_len (ja_cons h ja_nil he) (by decide) (by decide) he hpl
theorem je_intc (hm : X.mg "int" = none) (hg : Gl X "int") (h : JE ca X W e fa) (he : starEach [e] X.env = (false, eval e X.env) :: starEach [] X.env := by rfl) (hpl : (backTo pos (starEach [] X.env)).any (·.1) = false := by rfl) : JE ca X W (.Call (.Name "int" p) [e] [] pos) (fN oInt (fCons fa fNil)) :=
  je_callTy call_int1 rn_int hg hm bb_int (ja_cons h ja_nil he) (by decide) (by decide) he hpl
theorem je_tupc (hm : X.mg "tuple" = none) (hg : Gl X "tuple") (h : JE ca X W e fa) (he : starEach [e] X.env = (false, eval e X.env) :: starEach [] X.env := by rfl) (hpl : (backTo pos (starEach [] X.env)).any (·.1) = false := by rfl) : JE ca X W (.Call (.Name "tuple" p) [e] [] pos) (fN oTupOf (fCons fa fNil)) :=
  je_callTy call_tuple_of rn_tup hg hm bb_tuple (ja_cons h ja_nil he) (by decide) (by decide) he hpl
theorem je_listc (hm : X.mg "list" = none) (hg : Gl X "list") (h : JE ca X W e fa) (he : starEach [e] X.env = (false, eval e X.env) :: starEach [] X.env := by rfl) (hpl : (backTo pos (starEach [] X.env)).any (·.1) = false := by rfl) : JE ca X W (.Call (.Name "list" p) [e] [] pos) (fN oListOf (fCons fa fNil)) :=
  je_callTy call_list_of rn_list hg hm bb_list (ja_cons h ja_nil he) (by decide) (by decide) he hpl
theorem je_listn (hm : X.mg "list" = none) (hg : Gl X "list") (h : JE ca X W e fa) (he : starEach [e] X.env = (false, eval e X.env) :: starEach [] X.env := by rfl) (hpl : (backTo pos (starEach [] X.env)).any (·.1) = false := by rfl) : JE ca X W (.Call (.Name "list" p) [e] [] pos) (fN oListNew (fCons fa fNil)) :=
  je_callTy call_list_of rn_listNew hg hm bb_list (ja_cons h ja_nil he) (by decide) (by decide) he hpl
theorem je_all (hm : X.mg "all" = none) (hg : Gl X "all") (hc : X.calm = true) (h : JE ca X W e fa) (he : starEach [e] X.env = (false, eval e X.env) :: starEach [] X.env := by rfl) (hpl : (backTo pos (starEach [] X.env)).any (·.1) = false := by rfl) : JE ca X W (.Call (.Name "all" p) [e] [] pos) (fN oAll (fCons fa fNil)) :=
  je_callB (cr_all hc) rn_all hg hm bb_all (ja_cons h ja_nil he) (by decide) (by decide) he hpl
theorem je_any (hm : X.mg "any" = none) (hg : Gl X "any") (hc : X.calm = true) (h : JE ca X W e fa) (he : starEach [e] X.env = (false, eval e X.env) :: starEach [] X.env := by rfl) (hpl : (backTo pos (starEach [] X.env)).any (·.1) = false := by rfl) : JE ca X W (.Call (.Name "any" p) [e] [] pos) (fN oAny (fCons fa fNil)) :=
  je_callB (cr_any hc) rn_any hg hm bb_any (ja_cons h ja_nil he) (by decide) (by decide) he hpl
theorem je_sorted (hm : X.mg "sorted" = none) (hg : Gl X "sorted") (hu : X.A.units + 64 < cLine) (h : JE ca X W e fa) (he : starEach [e] X.env = (false, eval e X.env) :: starEach [] X.env := by rfl) (hpl : (backTo pos (starEach [] X.env)).any (·.1) = false := by rfl) : JE ca X W (.Call (.Name "sorted" p) [e] [] pos) (fN oSorted (fCons fa fNil)) :=
  je_callB (cr_sortedD hu) rn_sorted hg hm bb_sorted (ja_cons h ja_nil he) (by decide) (by decide) he hpl
theorem je_max (hm : X.mg "max" = none) (hg : Gl X "max") (hc : X.calm = true) (h : JE ca X W a fa) (h2 : JE ca X W b fb) (he : starEach [a, b] X.env = (false, eval a X.env) :: starEach [b] X.env := by rfl) (he2 : starEach [b] X.env = (false, eval b X.env) :: starEach [] X.env := by rfl) (hpl : (backTo pos (starEach [b] X.env)).any (·.1) = false := by rfl) : JE ca X W (.Call (.Name "max" p) [a, b] [] pos) (fN oMax (fCons fa (fCons fb fNil))) :=
  je_callB (call_max2 hc) rn_I2 hg hm bb_max (ja_cons h (ja_cons h2 ja_nil he2) he) (by decide) (by decide) he hpl
theorem je_min (hm : X.mg "min" = none) (hg : Gl X "min") (hc : X.calm = true) (h : JE ca X W a fa) (h2 : JE ca X W b fb) (he : starEach [a, b] X.env = (false, eval a X.env) :: starEach [b] X.env := by rfl) (he2 : starEach [b] X.env = (false, eval b X.env) :: starEach [] X.env := by rfl) (hpl : (backTo pos (starEach [b] X.env)).any (·.1) = false := by rfl) : JE ca X W (.Call (.Name "min" p) [a, b] [] pos) (fN oMin (fCons fa (fCons fb fNil))) :=
  je_callB (call_min2 hc) rn_I2 hg hm bb_min (ja_cons h (ja_cons h2 ja_nil he2) he) (by decide) (by decide) he hpl
theorem je_prp (T : PrpOk X.prog X.w X.K X.mg X.base ca k c f Fm) (hr : Room j X.A) (hk : k + 1 ≤ j) (h : JE ca X W e fa) (hab : attributeBase e f X.env (eval e X.env) = eval e X.env := by rfl) : JE ca X W (.Attribute e f pos) (fProp c Fm fa) := by
  obtain ⟨pp, g, fd, h1, h2, h3⟩ := T.ex
  exact je_prop (CX := CX0) (ps := []) T.cl h1 h2 hr hk h3 h hab
theorem je_mak {n : Nat} (T : MakOk X.prog X.w X.K X.mg X.base ca k c x ps Fm) (hr : Room j X.A) (hk : k + 1 ≤ j) (tk : Takes X W) (hW : ∀ c d σ σ' H, W c d σ H → W c d σ' H) (ha : JA ca X W (e :: es) fs) (hn : ps.length = n := by rfl) (hg : Gl X x := by rfl) (hdb : (x == ("__debug__" : Str)) = false := by decide) (he : starEach (e :: es) X.env = (false, eval e X.env) :: starEach es X.env := by rfl) (hpl : (backTo pos (starEach es X.env)).any (·.1) = false := by rfl) :
    JE ca X W (.Call (.Name x p) (e :: es) [] pos) (fMake c n Fm fs) := by
  subst hn
  obtain ⟨fi, fd, h1, h2, h3, h4⟩ := T.ex
  exact je_make h1 h2 hr hk hg h3 h4 tk hW ha hdb he hpl
end
end DS

namespace DS
open PySem L2 PySem.Spec PyProof.Rows
section
variable {ca : Ca} {X : Cx} {W : WX} {e : Expr} {fa : F D} {tbl : List (Str × Int)} {zs : List Str} {apos cpos p pos : Pos} {x : Str}
theorem je_gintE {i : Int} (h : ∃ t, X.mg x = some (.int i t)) (hg : Gl X x := by rfl) (hd : (x == ("__debug__" : Str)) = false := by decide) : JE ca X W (.Name x pos) (fC (.int i)) := let ⟨_, h⟩ := h; je_gint hg h hd
theorem je_gtupE (h : ∃ a, TupK X.K a zs ∧ X.mg x = some (.ref a)) (hg : Gl X x := by rfl) (hd : (x == ("__debug__" : Str)) = false := by decide) : JE ca X W (.Name x pos) (fC (.tup (zs.map D.str))) := let ⟨_, T, h⟩ := h; je_gtup T hg h hd
theorem je_getKE (h : ∃ a, TblK X.K X.w a tbl ∧ X.mg x = some (.ref a)) (he : JE ca X W e fa) (hg : Gl X x := by rfl) (hd : (x == ("__debug__" : Str)) = false := by decide)
    (m : M1 X (.Name x p) "get" apos e cpos := by exact ⟨rfl, rfl, rfl, rfl⟩) : JE ca X W (.Call (.Attribute (.Name x p) "get" apos) [e] [] cpos) (fGetK tbl fa) := let ⟨_, T, h⟩ := h; je_getK T hg h he hd m
end
end DS

namespace DS
open PySem L2 PySem.Spec PyProof.Rows
/-! ### x = [.. for ..] on a row -/
section
variable {ca : Ca} {X : Cx} {W : WX} {elt tg iter : Expr} {scope : Scope} {own : List (Str × Nat)} {pos : Pos} {gg : FG} {fe : F D} {fi : F (List D)} {i : Nat} {y : Str} {py spos : Pos}
theorem evs_lc {K : PySem.W.Frag} {wi : TI} {g : TG} {tt : TT} {ft : F Bool} {te : TE} {vs : List Nat} (qi : IvS K ca W wi fi) (hgs : GvS K ca g gg) (ho : OwnT g vs) (hts : TvS K ca W0 tt ft) (hes : EvS K ca W0 te fe) :
    EvS K ca W (tLc wi g tt te vs) (fLc fi gg ft fe vs) ∧ EvS K ca W (tLc wi g tt te vs) (fLcN fi gg ft fe vs) := by
  refine ⟨fun as H σ env st Q henv hst hp => ?_, fun as H σ env st Q henv hst hp => ?_⟩
  · refine lc_is qi hgs ho hts hes henv hst hp fun as1 H1 as' H' D acc ads st' st1 k1 s hD hDa ia kh ku p => ?_
    have nD := (kh.hid D List.mem_cons_self).1
    have hn : D ∉ as'.hs := by
      rw [s.hid]
      exact k1.freeH hD
    have e1 := (stab_out (as := as') (H := H') nD hn).trans hDa
    exact p _ as' H' s ku (.lst e1 (ia.ext (as := as'.hide D) (as' := as') (List.prefix_refl _) unhide_ext))
  · refine lc_is qi hgs ho hts hes henv hst hp fun as1 H1 as' H' D acc ads st' st1 k1 s hD hDa ia kh ku p => ?_
    have hn : D ∉ as'.hs := by
      rw [s.hid]
      exact k1.freeH hD
    have k2 := kh.adopt hDa ia hn
    refine p _ (as'.add D) H' ⟨s.pre.trans (List.prefix_append _ _), s.hid, fun a ha n => ?_, s.keep⟩ k2 (.cell (by rw [← ku.len]; exact made_get))
    rcases List.mem_append.mp ha with ha | ha
    · exact s.new a ha n
    · rw [List.mem_singleton.mp ha]; exact hD
theorem js_setLcG {g : TG} {ifs : List Expr} {tt : TT} {ft : F Bool} {te : TE} (hc : X.calm = true) (hN : X.N.Nodup) (hy : X.N[i]? = some y) (hyl : X.env.scope.names.lookup y = some .local)
    (hsw : swapsWith (.ListComp elt [⟨tg, iter, ifs, 0⟩] scope pos) (some (.Name y py)) spos.line X.env = pure true) (hi : JI ca X W tg iter fi) (ok : BlkOk X.N X.env.scope scope own)
    (hg : ∀ (s : Shared) (H : Hp) (C : Addr) (cl : List (Str × Addr)) (fp : List Addr), PG (X.blk s H scope (compEnvC scope cl C X.env) fp) tg g) (hgs : GvS X.K ca g gg) (ho : OwnT g (own.map (·.2)))
    (ht : ∀ (s : Shared) (H : Hp) (C : Addr) (cl : List (Str × Addr)) (fp : List Addr), PTs (X.blk s H scope (compEnvC scope cl C X.env) fp) ifs tt) (hts : TvS X.K ca W0 tt ft)
    (he : ∀ (s : Shared) (H : Hp) (C : Addr) (cl : List (Str × Addr)) (fp : List Addr), PE (X.blk s H scope (compEnvC scope cl C X.env) fp) elt te) (hes : EvS X.K ca W0 te fe) (hs : ∀ x, foldedSetIterable iter X.env x = pure x) :
    (JS ca X W (.Assign [.Name y py] (.ListComp elt [⟨tg, iter, ifs, 0⟩] scope pos) spos) (sAsg i (fLc fi gg ft fe (own.map (·.2))))) ∧ (JS ca X W (.Assign [.Name y py] (.ListComp elt [⟨tg, iter, ifs, 0⟩] scope pos) spos) (sAsg i (fLcN fi gg ft fe (own.map (·.2))))) := by
  obtain ⟨wi, pi, qi⟩ := hi
  have q := evs_lc (fi := fi) (gg := gg) (fe := fe) qi hgs ho hts hes
  refine ⟨⟨_, ps_setLc hc hN hy hyl hsw pi ok hg ht he hs, fun as H σ env st E henv hst hp => ?_⟩, ⟨_, ps_setLc hc hN hy hyl hsw pi ok hg ht he hs, fun as H σ env st E henv hst hp => ?_⟩⟩
  · refine q.1 as H σ env st _ henv hst (PostS.bnd hp henv fun d st1 v as1 H1 s1 k1 i1 p1 => ?_)
    exact p1.here k1 ((henv.step s1).set i i1)
  · refine q.2 as H σ env st _ henv hst (PostS.bnd hp henv fun d st1 v as1 H1 s1 k1 i1 p1 => ?_)
    exact p1.here k1 ((henv.step s1).set i i1)
theorem js_setLc {g : TG} {gg : FG}  (hc : X.calm = true) (hN : X.N.Nodup) (hy : X.N[i]? = some y) (hyl : X.env.scope.names.lookup y = some .local) (hi : JI ca X W tg iter fi) (ok : BlkOk X.N X.env.scope scope own) (hg : ∀ (s : Shared) (H : Hp) (C : Addr) (cl : List (Str × Addr)) (fp : List Addr), PG (X.blk s H scope (compEnvC scope cl C X.env) fp) tg g) (hgs : GvS X.K ca g gg) (ho : OwnT g (own.map (·.2)))
    (he : ∀ (s : Shared) (H : Hp) (C : Addr) (cl : List (Str × Addr)) (fp : List Addr), JE ca (X.blk s H scope (compEnvC scope cl C X.env) fp) W0 elt fe) (hs : ∀ x, foldedSetIterable iter X.env x = pure x := by intro _; rfl) (hsw : swapsWith (.ListComp elt [⟨tg, iter, [], 0⟩] scope pos) (some (.Name y py)) spos.line X.env = pure true := by rfl) :
    JS ca X W (.Assign [.Name y py] (.ListComp elt [⟨tg, iter, [], 0⟩] scope pos) spos) (sAsg i (fLc fi gg fYes fe (own.map (·.2)))) :=
  (js_setLcG hc hN hy hyl hsw hi ok hg hgs ho (fun _ _ _ _ _ => pts_nil) tvs_yes (fun s H C cl fp => je_canon (he s H C cl fp)) evs_canon hs).1
theorem js_setLcI {g : TG} {gg : FG} {tst : Expr} {ft : F Bool} (hc : X.calm = true) (hN : X.N.Nodup) (hy : X.N[i]? = some y) (hyl : X.env.scope.names.lookup y = some .local) (hi : JI ca X W tg iter fi) (ok : BlkOk X.N X.env.scope scope own) (hg : ∀ (s : Shared) (H : Hp) (C : Addr) (cl : List (Str × Addr)) (fp : List Addr), PG (X.blk s H scope (compEnvC scope cl C X.env) fp) tg g) (hgs : GvS X.K ca g gg) (ho : OwnT g (own.map (·.2)))
    (ht : ∀ (s : Shared) (H : Hp) (C : Addr) (cl : List (Str × Addr)) (fp : List Addr), JT ca (X.blk s H scope (compEnvC scope cl C X.env) fp) W0 tst ft) (he : ∀ (s : Shared) (H : Hp) (C : Addr) (cl : List (Str × Addr)) (fp : List Addr), JE ca (X.blk s H scope (compEnvC scope cl C X.env) fp) W0 elt fe) (hs : ∀ x, foldedSetIterable iter X.env x = pure x := by intro _; rfl) (hsw : swapsWith (.ListComp elt [⟨tg, iter, [tst], 0⟩] scope pos) (some (.Name y py)) spos.line X.env = pure true := by rfl) :
    JS ca X W (.Assign [.Name y py] (.ListComp elt [⟨tg, iter, [tst], 0⟩] scope pos) spos) (sAsg i (fLc fi gg ft fe (own.map (·.2)))) :=
  (js_setLcG hc hN hy hyl hsw hi ok hg hgs ho (fun s H C cl fp => pts_one (jt_canon (ht s H C cl fp))) tvs_canon (fun s H C cl fp => je_canon (he s H C cl fp)) evs_canon hs).1
theorem js_setLcN {g : TG} {gg : FG}  (hc : X.calm = true) (hN : X.N.Nodup) (hy : X.N[i]? = some y) (hyl : X.env.scope.names.lookup y = some .local) (hi : JI ca X W tg iter fi) (ok : BlkOk X.N X.env.scope scope own) (hg : ∀ (s : Shared) (H : Hp) (C : Addr) (cl : List (Str × Addr)) (fp : List Addr), PG (X.blk s H scope (compEnvC scope cl C X.env) fp) tg g) (hgs : GvS X.K ca g gg) (ho : OwnT g (own.map (·.2)))
    (he : ∀ (s : Shared) (H : Hp) (C : Addr) (cl : List (Str × Addr)) (fp : List Addr), JE ca (X.blk s H scope (compEnvC scope cl C X.env) fp) W0 elt fe) (hs : ∀ x, foldedSetIterable iter X.env x = pure x := by intro _; rfl) (hsw : swapsWith (.ListComp elt [⟨tg, iter, [], 0⟩] scope pos) (some (.Name y py)) spos.line X.env = pure true := by rfl) :
    JS ca X W (.Assign [.Name y py] (.ListComp elt [⟨tg, iter, [], 0⟩] scope pos) spos) (sAsg i (fLcN fi gg fYes fe (own.map (·.2)))) :=
  (js_setLcG hc hN hy hyl hsw hi ok hg hgs ho (fun _ _ _ _ _ => pts_nil) tvs_yes (fun s H C cl fp => je_canon (he s H C cl fp)) evs_canon hs).2
theorem js_setLcNI {g : TG} {gg : FG} {tst : Expr} {ft : F Bool} (hc : X.calm = true) (hN : X.N.Nodup) (hy : X.N[i]? = some y) (hyl : X.env.scope.names.lookup y = some .local) (hi : JI ca X W tg iter fi) (ok : BlkOk X.N X.env.scope scope own) (hg : ∀ (s : Shared) (H : Hp) (C : Addr) (cl : List (Str × Addr)) (fp : List Addr), PG (X.blk s H scope (compEnvC scope cl C X.env) fp) tg g) (hgs : GvS X.K ca g gg) (ho : OwnT g (own.map (·.2)))
    (ht : ∀ (s : Shared) (H : Hp) (C : Addr) (cl : List (Str × Addr)) (fp : List Addr), JT ca (X.blk s H scope (compEnvC scope cl C X.env) fp) W0 tst ft) (he : ∀ (s : Shared) (H : Hp) (C : Addr) (cl : List (Str × Addr)) (fp : List Addr), JE ca (X.blk s H scope (compEnvC scope cl C X.env) fp) W0 elt fe) (hs : ∀ x, foldedSetIterable iter X.env x = pure x := by intro _; rfl) (hsw : swapsWith (.ListComp elt [⟨tg, iter, [tst], 0⟩] scope pos) (some (.Name y py)) spos.line X.env = pure true := by rfl) :
    JS ca X W (.Assign [.Name y py] (.ListComp elt [⟨tg, iter, [tst], 0⟩] scope pos) spos) (sAsg i (fLcN fi gg ft fe (own.map (·.2)))) :=
  (js_setLcG hc hN hy hyl hsw hi ok hg hgs ho (fun s H C cl fp => pts_one (jt_canon (ht s H C cl fp))) tvs_canon (fun s H C cl fp => je_canon (he s H C cl fp)) evs_canon hs).2
end
end DS

namespace DS
open PySem L2 PySem.Spec PyProof.Rows
/-! ### raise, an own class without own __init__ -/
def sRaise (c : Nat) : FS := fun env st => some (.er c [] env, st)
def sRaise1 (c : Nat) (fa : F D) : FS := fun env st => bndS (fa env st) env fun _ st => some (.er c [] env, st)
section
variable {ca : Ca} {X : Cx} {W : WX} {e : Expr} {es : List Expr} {fa : F D} {pos : Pos} {c : Nat}
theorem js_raise (hc : X.calm = true) (tk : Takes X W) (he : PMk X e (fun _ H Q => Q (.ref (ca c)) none H)) : JS ca X W (.Raise (some e) none pos) (sRaise c) :=
  ⟨_, ps_raise hc tk he, fun as H σ env st E henv hst hp => hp _ _ σ as H (Step.refl _ _) hst henv ⟨rfl, .inl ⟨rfl, rfl⟩⟩⟩
theorem js_raise1 {ta : TE} (hc : X.calm = true) (tk : Takes X W) (hs : EvS X.K ca W ta fa) (he : PMk X e (fun σ H Q => ta σ H fun _ H1 => Q (.ref (ca c)) none H1)) : JS ca X W (.Raise (some e) none pos) (sRaise1 c fa) :=
  ⟨_, ps_raise hc tk he, fun as H σ env st E henv hst hp => hs as H σ env st _ henv hst (PostS.bnd hp henv fun d st1 v as1 H1 s1 k1 i1 p1 => p1 _ _ σ as1 H1 (Step.refl _ _) k1 (henv.step s1) ⟨rfl, .inl ⟨rfl, rfl⟩⟩)⟩
/-! ### try, one clause without a name -/
def tsF (K : PySem.W.Frag) (ca : Ca) (W : WX) (f : FS) : TS := fun E σ H => ∃ as env st, EnvOk K ca as (stab as H) σ env ∧ StOk K ca as H st ∧ PostS K ca W as H (f env st) E
theorem jb_canon {f : FS} {s : List Stmt} (h : JB ca X W s f) : PSs X s (tsF X.K ca W f) := by
  obtain ⟨t, p, q⟩ := h
  exact ⟨fun pins s σ H D I ⟨as, env, st, he, hs, hp⟩ => p.run pins s σ H D I (q as H σ env st D he hs hp)⟩
/-- cc: which classes the clause takes -/
def sTry (cc : Nat → Option Bool) (f g : FS) : FS := fun env st => match f env st with
  | some (.er c fs env', st') => (match cc c with
    | some true => g env' st'
    | some false => some (.er c fs env', st')
    | none => none)
  | r => r
theorem js_try {cc : Nat → Option Bool} {f g : FS} {x : Str} {cv : Value} {body suite : List Stmt} {b₀ : Stmt} {np pos' : Pos} (hs : X.stack = X.env :: X.outer) (hf : X.env.frame = some X.env.locals) (hc : Names X x cv) (tk : Takes X W)
    (hx : ∀ c b, cc c = some b → PySem.W.exmOne X.K (.ref (ca c)) cv = some b)
    (hb : ∀ (W : WX) (pn : List (Addr × Obj)) (xe : Value → Shared → Prop), Takes (X.tr pn xe) W → PassesOwn (model X.prog X.w) X.A X.env xe → JB ca (X.tr pn xe) W body f)
    (hsu : ∀ (a : Addr) (oe : Obj) (cls : Value) (d : Option Addr) (pn : List (Addr × Obj)), Zc cls d oe → (∃ vs, oe.data = .fields vs) → JB ca (X.suite a ((a, oe) :: pn)) W (b₀ :: suite) g) :
    JS ca X W (.Try body [.ExceptHandler (some (.Name x np)) none (b₀ :: suite) pos'] [] [] pos) (sTry cc f g) := by
  refine ⟨_, ps_try_only (tb := fun W => tsF X.K ca W f) (ts := fun _ _ _ => tsF X.K ca W g) hs hf hc tk (fun W pn xe t p => jb_canon (hb W pn xe t p)) (fun a oe cls d pn z v => jb_canon (hsu a oe cls d pn z v)), fun as H σ env st E henv hst hp => ⟨as, env, st, henv, hst, ?_⟩⟩
  unfold sTry at hp
  cases r : f env st with
  | none => rw [r] at hp; exact hp
  | some o =>
    obtain ⟨o, st'⟩ := o
    rw [r] at hp
    cases o with
    | nx env' => exact hp
    | rt d => exact hp
    | bk env' => exact hp
    | ct env' => exact hp
    | er c fs env' =>
      dsimp only at hp
      intro cls dd σ' as' H' s' k' i' j'
      cases q : cc c with
      | none => rw [q] at hp; exact hp.elim
      | some b =>
        rw [q] at hp
        refine ⟨b, by rw [j'.1]; exact hx c b q, fun hb a _ => ?_, fun hb => ?_⟩
        · subst hb
          exact ⟨as', env', st', i', k', PostS.step hp s'⟩
        · subst hb
          exact hp cls dd σ' as' H' s' k' i' j'
end
end DS

namespace DS
open PySem L2 PySem.Spec PyProof.Rows
/-! ### enumerate of a tuple, over what its iterator draws -/
/-- the pairs (number, item) of the tuple at a, while it stands -/
def Tpairs (K : PySem.W.Frag) (a : Addr) : It :=
  ⟨fun k G => ∃ ys : List V, SqT K G a ys ∧ k < ys.length,
   fun k G v G' => ∃ (p : Addr) (y : V), (∀ ys : List V, SqT K G a ys → ys[k]? = some y) ∧ G p = none ∧ v = .ref p ∧ G' = upd G p (.tup [.int (k : Nat), y]),
   fun k G => ∃ ys : List V, SqT K G a ys ∧ ys.length ≤ k⟩
/-- where the pair's maker stands -/
abbrev AtPair (e it a : Addr) (k : Nat) (h : Heap) : Prop := (∃ old, IsEnum h e it ((k : Nat) : Int) old) ∧ h.IsTupleIter it a k ∧ e ≠ it
theorem two_apart {h : Heap} {p q : Addr} {o r : Obj} {S T : String} (h1 : h.get? p = some o) (h2 : h.get? q = some r) (c1 : o.cls = .type S) (c2 : r.cls = .type T) (n : S ≠ T) : p ≠ q := fun z => by
  subst z
  rw [h1] at h2
  have w : Value.type S = .type T := by rw [← c1, ← c2, Option.some.inj h2]
  injection w with w
  exact n w
theorem at_apart {h : Heap} {e it a : Addr} {k : Nat} {vs : Array Value} (s : AtPair e it a k h) (t : h.IsTuple a vs) : a ≠ it ∧ e ≠ a := by
  obtain ⟨⟨_, se⟩, ⟨o, oi, ci, _⟩, _⟩ := s
  obtain ⟨r, ri, ct, _⟩ := t
  exact ⟨two_apart ri oi ct ci (by decide), two_apart se ri rfl ct (by decide)⟩
theorem pair_free {h : Heap} {e it a : Addr} {k : Nat} {vs : Array Value} (s : AtPair e it a k h) (t : h.IsTuple a vs) : e ∉ [it, a] := by
  have := at_apart s t
  simp [s.2.2, this.2]
theorem turn_pairs {P : Program} {w : World} {K : PySem.W.Frag} {es : List Expr} {m : Nat} {q : Pos} (a e it : Addr) : Turn P w K (.Tuple es m q) (Tpairs K a) [e, it] e (AtPair e it a) := by
  refine ⟨List.mem_cons_self, ?ob, ?ke, ?im, ?dn, ?sf⟩
  case ob =>
    rintro k h ⟨⟨old, s1⟩, ⟨o, s2, _, s3⟩, _⟩ b hb
    rcases List.mem_cons.mp hb with rfl | hb
    · exact ⟨_, s1, nofun⟩
    · rw [List.mem_singleton.mp hb]
      exact ⟨o, s2, fun v z => by rw [s3] at z; cases z⟩
  case ke =>
    rintro k h h' ⟨⟨old, s1⟩, s2, s3⟩ kp
    exact ⟨⟨old, kp _ List.mem_cons_self _ s1⟩, s2.at fun o z => kp it (List.mem_cons_of_mem _ List.mem_cons_self) o z, s3⟩
  case im =>
    rintro X rfl rfl rfl calm k pins s σ G E I fr here ⟨ys, sq, lt⟩
    obtain ⟨vals, rel, tup, _⟩ := I.tuple sq
    have hy : ys[k]? = some ys[k] := by simp [lt]
    obtain ⟨u, eu, ru⟩ := rel.get hy
    have hn : k < vals.toArray.size := by simpa using (List.getElem?_eq_some_iff.mp eu).1
    have W := WalksT.enumerateD (prog := X.prog) (w := X.w) (A := X.A) (Draws.tuple (A := X.A.in1) (I.ok.hd calm) it a (at_apart here tup).1 vals.toArray) e here.2.2 (pair_free here tup) List.mem_cons_self
    refine W.item k s _ E hn ⟨here.1, here.2.1, tup⟩ fun p prs h1 tk hp fresh tp mid k1 => ⟨_, rfl, ?_⟩
    obtain ⟨t, x, hx, rfl⟩ := hp
    have ex : x = u := by
      have z : vals.toArray[k]? = some u := by simpa using eu
      exact Option.some.inj (hx.symm.trans z)
    subst ex
    refine W.go es m q k p { s with heap := h1, toks := tk } _ E mid fun h2 st2 k2 => ?_
    have hp2 : p ∉ [e, it] := W.apart k p h1 mid
    obtain ⟨o, o1, o2, on, o3⟩ := tp
    have laid : ObjOk X.prog X.w (upd G p (.tup [.int (k : Nat), ys[k]])) h2 p (.tup [.int (k : Nat), ys[k]]) :=
      ⟨(by decide : 2 ≤ sizeLine), [.int k t, x], .cons ⟨t, rfl⟩ (.cons ru .nil), o, k2 p o hp2 o1, o2, on, o3⟩
    have old : ∀ b o, b ∉ [e, it] → s.heap.get? b = some o → h2.get? b = some o := fun b o nb z => k2 b o nb (k1 b o nb z)
    refine ⟨.ref p, _, I.turnedNew (t' := tk) (ch := [e, it]) old fr fresh laid, rfl, ⟨p, ys[k], fun zs hz => by rw [I.tuple_inj hz sq]; exact hy, I.hok.fresh fresh, rfl, rfl⟩, ⟨st2.1, st2.2.1, here.2.2⟩, fun b hb => ?_⟩
    have lb : b < s.heap.objs.size := by
      rcases List.mem_cons.mp hb with rfl | hb
      · exact Heap.lt_size here.1.choose_spec
      · rw [List.mem_singleton.mp hb]
        exact Heap.lt_size here.2.1.choose_spec.1
    exact (upd_ne (fun z => Nat.lt_irrefl _ (Nat.lt_of_lt_of_le (z ▸ lb) fresh))).trans (fr b hb).1
  case dn =>
    rintro X rfl rfl rfl calm k pins s σ G E I fr here ⟨ys, sq, le⟩
    obtain ⟨vals, rel, tup, _⟩ := I.tuple sq
    have out : vals.toArray[k]? = none := by
      have := rel.length
      simp
      omega
    have D : Draws X.prog X.w X.A.in1 it [it, a] k (fun _ _ => False) (fun j h => j = k ∧ h.IsTupleIter it a k ∧ h.IsTuple a vals.toArray) :=
      { live := fun _ _ z => let ⟨_, ⟨o, ho, _⟩, _⟩ := z; ⟨o, ho⟩
        frame := fun _ _ _ z kp => ⟨z.1, z.2.1.at fun o y => kp it List.mem_cons_self o y, z.2.2.at fun o y => kp a (List.mem_cons_of_mem _ List.mem_cons_self) o y⟩
        item := fun j _ _ _ lt z _ => absurd z.1 (Nat.ne_of_lt lt)
        done := fun _ _ _ z go => wpAny_nextOf_tuple_end (I.ok.hd calm) z.2.1 z.2.2 out go }
    refine (WalksT.enumerateD (A := X.A) D e here.2.2 (pair_free here tup) List.mem_cons_self).done s _ E ⟨here.1, rfl, here.2.1, tup⟩ fun h1 tk kp => ⟨rfl, ?_⟩
    exact I.turnedL (ch := [e, it]) kp fr
  case sf =>
    rintro A k s Q E ⟨⟨_, z⟩, _⟩ go
    exact wpAny_pyIter_enum z go
/-- enumerate(v) of one thing that can be gone through -/
theorem new_pairs {v : Value} {o : Obj} {C : Heap → Prop} (b : Begins v o C) :
    Meets (Builtin.«enumerate.__new__» ⟨[.type "enumerate", v], []⟩) (fun _ go t => C t.heap ∧
      go (.ok (.ret (.ref (t.heap.push o).objs.size))) { t with heap := (t.heap.push o).push { cls := .type "enumerate", data := .fields #[.none, .bool false, .ref t.heap.objs.size, rawInt 0, .none, .none] } }) := by
  refine .of_wp fun P W A go t ⟨ct, fin⟩ => ?_
  obtain ⟨hp, gl, dd, tk, os⟩ := t
  have sub := sub_enumerate
  have it : ∀ {A' : Around} {X : Value → Shared → Prop} {Q : Value → Shared → Prop}, Q (.ref hp.objs.size) ⟨hp.push o, gl, dd, tk, os⟩ → wpAny (model P W) A' (pyIter v) Q X ⟨hp, gl, dd, tk, os⟩ :=
    fun z => b.iter P W _ _ _ _ ct z
  wp_walk using it
  refine wpAny_stack_any fun _ => wpAny_pure ?_
  split
  · rename_i c _ _ _ _ _
    cases (c == Value.type "enumerate") <;> (wp_walk using it; exact ⟨_, rfl, fin⟩)
  · wp_walk using it
    exact ⟨_, rfl, fin⟩
theorem call_pairs {P : Program} {W : World} {A : Around} {X : Value → Shared → Prop} {t : Shared} {v : Value} {o : Obj} {C : Heap → Prop} {Q : Value → Shared → Prop} (b : Begins v o C) (ct : C t.heap)
    (go : ∀ h2, IsEnum h2 (t.heap.objs.size + 1) t.heap.objs.size 0 .none → h2.get? t.heap.objs.size = some o → (∀ c u, t.heap.get? c = some u → h2.get? c = some u) → Q (.ref (t.heap.objs.size + 1)) { t with heap := h2 }) :
    wpAny (model P W) A (call (.type "enumerate") [v]) Q X t := by
  refine callType_new F.called_enumerate (by decide) (F.typeCall_enumerate_1 _) (F.newCall_enumerate_1 _) (fun x => F.args_object_init_2 x _) F.entry_enumerate_new (new_pairs b) ⟨ct, ?_⟩
  generalize ev : (({ cls := .type "enumerate", data := .fields #[.none, .bool false, .ref t.heap.objs.size, rawInt 0, .none, .none] } : Obj)) = en
  have one : (t.heap.push o).get? t.heap.objs.size = some o := Heap.get?_push_size _ b.free
  have two : ((t.heap.push o).push en).get? (t.heap.push o).objs.size = some en := Heap.get?_push_size _ (by rw [← ev]; rfl)
  rw [show (t.heap.push o).objs.size = t.heap.objs.size + 1 from Heap.size_push ..] at two ⊢
  have is : IsEnum ((t.heap.push o).push en) (t.heap.objs.size + 1) t.heap.objs.size 0 .none := by
    show Heap.get? _ _ = _
    rw [two, ← ev]
  exact ⟨⟨_, is, rfl⟩, go _ is (Heap.get?_push_of_some _ one) fun c u z => Heap.get?_push_of_some _ (Heap.get?_push_of_some _ z)⟩
def iPairs (K : PySem.W.Frag) (ta : TA) : TI := fun σ G go => ta σ G fun us G1 => ∃ a ys, us = [.ref a] ∧ SqT K G1 a ys ∧ go (Tpairs K a) G1
theorem pi_pairs {X : Cx} {e : Expr} {ta : TA} {p pos q : Pos} {es : List Expr} {m : Nat} (hg : Gl X "enumerate") (hm : X.mg "enumerate" = none) (ha : PA X [e] ta) (one : starEach [e] X.env = [(false, eval e X.env)] := by rfl) :
    PI X (.Tuple es m q) (.Call (.Name "enumerate" p) [e] [] pos) (iPairs X.K ta) := ⟨fun pins s σ G go I h => by
  refine Call_ (ld_blt I hg hm boot_enumerate (PyProof.Rows.callWith_type1 (thn (ha.run pos pins s σ G _ I h) fun ws s1 ⟨us, G1, I1, rel, a, ys, eu, sq, fin⟩ => ?_) one rfl))
  subst eu
  cases rel with
  | cons r rr =>
    cases rr
    cases r
    obtain ⟨vals, _, tup, _⟩ := I1.tuple sq
    refine call_pairs (begins_tuple _ _) tup fun h2 is at_ kp => wpAny_pyIter_enum is ⟨s1.heap.objs.size + 1, [s1.heap.objs.size + 1, s1.heap.objs.size], _, _, G1, rfl, I1.kept (t' := s1.toks) kp, turn_pairs a _ _, ⟨⟨.none, is⟩, ⟨_, at_, rfl, rfl⟩, Nat.succ_ne_self _⟩, fun b hb => ?_, fin⟩
    have lo : s1.heap.objs.size ≤ b := by
      rcases List.mem_cons.mp hb with rfl | hb
      · exact Nat.le_succ _
      · rw [List.mem_singleton.mp hb]; exact Nat.le_refl _
    exact I1.fpOk lo (I1.hok.fresh lo)⟩
def iET (fa : F D) : F (List D) := fun env st => bnd (fa env st) fun x st => match x with | .tup ds => some (.ok (enumD 0 ds) st) | _ => none
section
variable {ca : Ca} {X : Cx} {W : WX} {e tg : Expr} {fa : F D} {pos p : Pos} {K : PySem.W.Frag}
theorem itok_eT {as : Wl} {G : Hp} {a : Addr} {vs : List V} {ds : List D} (sq : SqT K (stab as G) a vs) (hd : IsDs K ca as (stab as G) vs ds) : ItOk K ca as G (Tpairs K a) (enumD 0 ds) := fun as2 G2 k pre ext => by
  have sq2 := ext_t (stab_sub _ _) (ext_t ext sq)
  have ln := hd.len
  rw [enum_get]
  refine ⟨fun none_ => ⟨vs, sq2, ?_⟩, fun d ed => ?_⟩
  · have : ds[k]? = none := by
      cases q : ds[k]? with
      | none => rfl
      | some z => rw [q] at none_; cases none_
    have := List.getElem?_eq_none_iff.mp this
    omega
  · obtain ⟨z, ez, rfl⟩ := Option.map_eq_some_iff.mp ed
    obtain ⟨v, ev, iv⟩ := hd.get ez
    have lt := (List.getElem?_eq_some_iff.mp ev).1
    refine ⟨⟨vs, sq2, lt⟩, fun x G3 ⟨p, y, hy, np, e1, e2⟩ => ?_⟩
    have := (hy vs sq2).symm.trans ev
    cases this
    subst e1 e2
    rw [Nat.zero_add]
    exact pair_is np (.int _) (iv.ext pre ext)
theorem ji_eT {elts : List Expr} {kk : Nat} {tpos : Pos} (hgl : Gl X "enumerate") (hm : X.mg "enumerate" = none) (h : JE ca X W e fa) (hst : starEach [e] X.env = [(false, eval e X.env)] := by rfl) (hst2 : starEach [e] X.env = (false, eval e X.env) :: starEach [] X.env := by rfl) : JI ca X W (.Tuple elts kk tpos) (.Call (.Name "enumerate" p) [e] [] pos) (iET fa) := by
  obtain ⟨t, pt, q⟩ := h
  refine ⟨_, pi_pairs hgl hm (pa_cons pt pa_nil hst2) hst, fun as H σ env st R he hs hp => ?_⟩
  refine q as H σ env st _ he hs (Post.bnd hp fun x st1 v as1 H1 s1 k1 i1 p1 => ?_)
  cases i1 <;> first | exact False.elim p1 | skip
  rename_i h1 h2
  exact ⟨_, _, rfl, ext_t (stab_sub _ _) h1, p1 (Tpairs X.K _, H1) as1 H1 (Step.refl _ _) k1 ⟨rfl, itok_eT h1 h2⟩ rfl⟩
end
end DS

namespace DS
open PySem L2 PySem.Spec PyProof.Rows
/-! ### dicts whose keys are whole numbers -/
def getK : List (Int × D) → Int → Option D
  | [], _ => none
  | (j, d) :: r, i => if j = i then some d else getK r i
def repK (i : Int) (d : D) : List (Int × D) → List (Int × D)
  | [] => []
  | (j, e) :: r => (if j = i then (j, d) else (j, e)) :: repK i d r
def putD' (ks : List (Int × D)) (i : Int) (d : D) : List (Int × D) := if (getK ks i).isSome = true then repK i d ks else ks ++ [(i, d)]
def fNewD : F D := fun _ st => some (.ok (.cell st.length) (st ++ [.dct []]))
def dctOf (x : D) (st : Sta) : Option (List (Int × D)) := match x with
  | .cell k => match st[k]? with | some (.dct ks) => some ks | _ => none
  | _ => none
def oDIx (x i : D) (st : Sta) : Option (R D) := match dctOf x st, i with
  | some ks, .int i => match getK ks i with | some d => ret d st | none => none
  | _, _ => none
def oDIn (i x : D) (st : Sta) : Option (R D) := match dctOf x st, i with
  | some ks, .int i => ret (.bl (getK ks i).isSome) st
  | _, _ => none
def sPutD (fa fo fi : F D) : FS := fun env st => bndS (fa env st) env fun d st => bndS (fo env st) env fun o st => bndS (fi env st) env fun i st => match o, i with
  | .cell k, .int i => match st[k]? with
    | some (.dct ks) => if ks.length < 100000 then some (.nx env, st.set k (.dct (putD' ks i d))) else none
    | _ => none
  | _, _ => none
section
variable {K : PySem.W.Frag} {ca : Ca} {as as' : Wl} {G H H' : Hp} {st : Sta}
theorem isKs_get : ∀ {kvs : List (Key × V)} {ks : List (Int × D)} {i : Int}, IsKs K ca as G kvs ks → match getK ks i with
    | some d => ∃ v, valV kvs (Sum.inl i) = some v ∧ IsD K ca as G v d
    | none => valV kvs (Sum.inl i) = none
  | [], [], _, _ => rfl
  | [], _ :: _, _, h => h.elim
  | _ :: _, [], _, h => h.elim
  | (k, v) :: r, (j, d) :: s, i, ⟨h1, h2, h3⟩ => by
    subst h1
    unfold getK
    by_cases e : j = i
    · rw [if_pos e]
      subst e
      exact ⟨v, valV_pos rfl, h2⟩
    · rw [if_neg e, valV_neg (show ¬ (Sum.inl j : Key) = Sum.inl i from fun z => e (Sum.inl.inj z))]
      exact isKs_get h3
theorem isKs_len : ∀ {kvs : List (Key × V)} {ks : List (Int × D)}, IsKs K ca as G kvs ks → kvs.length = ks.length
  | [], [], _ => rfl
  | [], _ :: _, h => h.elim
  | _ :: _, [], h => h.elim
  | _ :: _, _ :: _, h => by simp [isKs_len h.2.2]
theorem isKs_keys : ∀ {kvs : List (Key × V)} {ks : List (Int × D)}, IsKs K ca as G kvs ks → kvs.map (·.1) = (ks.map (·.1)).map Sum.inl
  | [], [], _ => rfl
  | [], _ :: _, h => h.elim
  | _ :: _, [], h => h.elim
  | (_, _) :: _, (_, _) :: _, h => by simp [isKs_keys h.2.2, h.1]
theorem isKs_at : ∀ {kvs : List (Key × V)} {ks : List (Int × D)} {i : Nat}, IsKs K ca as G kvs ks → match ks[i]? with
    | some p => ∃ v, kvs[i]? = some (Sum.inl p.1, v) ∧ IsD K ca as G v p.2
    | none => kvs[i]? = none
  | [], [], _, _ => rfl
  | [], _ :: _, _, h => h.elim
  | _ :: _, [], _, h => h.elim
  | (k, v) :: r, (j, d) :: s, 0, ⟨h1, h2, h3⟩ => ⟨v, by rw [h1]; rfl, h2⟩
  | (k, v) :: r, (j, d) :: s, i + 1, ⟨h1, h2, h3⟩ => isKs_at (i := i) h3
theorem isKs_rep {v : V} {d : D} (hv : IsD K ca as G v d) {i : Int} : ∀ {kvs : List (Key × V)} {ks : List (Int × D)}, IsKs K ca as G kvs ks → IsKs K ca as G (kvs.map fun kv => if kv.1 = Sum.inl i then (kv.1, v) else kv) (repK i d ks)
  | [], [], _ => trivial
  | [], _ :: _, h => h.elim
  | _ :: _, [], h => h.elim
  | (k, w) :: r, (j, e) :: s, ⟨h1, h2, h3⟩ => by
    subst h1
    unfold repK
    rw [List.map_cons]
    by_cases e' : j = i
    · rw [if_pos e', if_pos (show (Sum.inl j : Key) = Sum.inl i by rw [e'])]
      exact ⟨rfl, hv, isKs_rep hv h3⟩
    · rw [if_neg e', if_neg (show ¬ (Sum.inl j : Key) = Sum.inl i from fun z => e' (Sum.inl.inj z))]
      exact ⟨rfl, h2, isKs_rep hv h3⟩
theorem isKs_app : ∀ {kvs kvs' : List (Key × V)} {ks ks' : List (Int × D)}, IsKs K ca as G kvs ks → IsKs K ca as G kvs' ks' → IsKs K ca as G (kvs ++ kvs') (ks ++ ks')
  | [], _, [], _, _, h => h
  | [], _, _ :: _, _, h, _ => h.elim
  | _ :: _, _, [], _, h, _ => h.elim
  | _ :: _, _, _ :: _, _, h, h' => ⟨h.1, h.2.1, isKs_app h.2.2 h'⟩
theorem isKs_put {v : V} {d : D} {i : Int} {kvs : List (Key × V)} {ks : List (Int × D)} (h : IsKs K ca as G kvs ks) (hv : IsD K ca as G v d) : IsKs K ca as G (putK kvs (Sum.inl i) v) (putD' ks i d) := by
  have g := isKs_get (i := i) h
  unfold putK putD'
  rw [valV_any]
  cases e : getK ks i with
  | none =>
    rw [e] at g
    dsimp only at g
    rw [g, if_neg (by simp), if_neg (by simp)]
    exact isKs_app h ⟨rfl, hv, trivial⟩
  | some d' =>
    rw [e] at g
    obtain ⟨w, ew, _⟩ := g
    rw [ew, if_pos (show (some w).isSome = true from rfl), if_pos (show (some d').isSome = true from rfl)]
    exact isKs_rep hv h
theorem cell_dct (k : StOk K ca as H st) {j : Nat} {a : Addr} {ks : List (Int × D)} (e1 : as.as[j]? = some a) (e2 : st[j]? = some (.dct ks)) : ∃ kvs, H a = some (.dK kvs) ∧ IsKs K ca as (stab as H) kvs ks := by
  have c := k.at_ j a _ e1 e2
  cases hq : H a with
  | none => rw [hq] at c; exact c.elim
  | some u =>
    rw [hq] at c
    cases u <;> first | exact False.elim c | exact ⟨_, rfl, c⟩
theorem dct_is {v : V} {x : D} {ks : List (Int × D)} (k : StOk K ca as H st) (h : IsD K ca as (stab as H) v x) (e : dctOf x st = some ks) : ∃ a kvs, v = .ref a ∧ H a = some (.dK kvs) ∧ IsKs K ca as (stab as H) kvs ks := by
  unfold dctOf at e
  split at e
  · rename_i j
    split at e
    · rename_i ks' es
      cases e
      cases h with
      | cell h1 =>
        obtain ⟨kvs, e1, e2⟩ := cell_dct k h1 es
        exact ⟨_, kvs, rfl, e1, e2⟩
    · cases e
  · cases e
end
section
variable {ca : Ca} {X : Cx} {W : WX} {e o i value : Expr} {fa fo fi : F D} {pos pos' : Pos}
theorem je_newD : JE ca X W (.Dict [] [] pos) fNewD := ⟨_, pe_dnewK, fun as H σ env st Q he hs hp q hq =>
  hp _ _ _ (Step.made hq) (hs.made (c := .dct []) hq (show IsKs X.K ca as (stab as H) [] [] from trivial)) (.cell (by rw [← hs.len]; exact made_get))⟩
theorem je_dget (hu : X.A.units + 1 < cLine) (ho : JE ca X W o fo) (hi : JE ca X W i fi) (hs : NoSl i := by exact fun _ _ => rfl) : JE ca X W (.Subscript o i pos) (f2 oDIx fo fi) := by
  obtain ⟨t1, p1, q1⟩ := ho
  obtain ⟨t2, p2, q2⟩ := hi
  refine ⟨_, pe_dget hu p1 p2 hs, fun as H σ env st Q he hs hp => ?_⟩
  refine q1 as H σ env st _ he hs (Post.bnd hp fun x st1 v as1 H1 s1 k1 i1 r1 => ?_)
  refine q2 as1 H1 σ env st1 _ (he.step s1) k1 (Post.bnd r1 fun y st2 u as2 H2 s2 k2 i2 r2 => ?_)
  have i1' := i1.step s2
  unfold oDIx at r2
  split at r2
  · rename_i ks j ek
    obtain ⟨a, kvs, rfl, hH, hk⟩ := dct_is k2 i1' ek
    cases i2
    have g := isKs_get (i := j) hk
    cases eg : getK ks j with
    | none => rw [eg] at r2; exact r2.elim
    | some d =>
      rw [eg] at r2 g
      obtain ⟨w, ew, iw⟩ := g
      exact ⟨a, w, rfl, .inl ⟨kvs, Sum.inl j, .inl hH, rfl, ew.symm⟩, r2.here k2 iw⟩
  · exact r2.elim
theorem tvs_B {K : PySem.W.Frag} {ta : TE} {f : F D} (ha : EvS K ca W ta f) : TvS K ca W (tB ta) (fTest f) := fun as H σ env st Q he hs hp => by
  refine ha as H σ env st _ he hs (Post.bnd hp fun x st1 v as1 H1 s1 k1 i1 p1 => ?_)
  cases i1 with
  | bl b => exact ⟨b, rfl, p1.here k1 rfl⟩
  | _ => exact False.elim p1
theorem jt_din (hu : X.A.units + 1 < cLine) (hi : JE ca X W i fi) (ho : JE ca X W o fo) (hm : behindInMarks .In o = false := by first | exact nobehind _ (by decide) (by decide) | rfl) : JT ca X W (.Compare i [.In] [o] pos) (fTest (f2 oDIn fi fo)) := by
  obtain ⟨t1, p1, q1⟩ := hi
  obtain ⟨t2, p2, q2⟩ := ho
  refine ⟨_, pt_cmp (pc_din hu p1 p2) hm, tvs_B fun as H σ env st Q he hs hp => ?_⟩
  refine q1 as H σ env st _ he hs (Post.bnd hp fun x st1 v as1 H1 s1 k1 i1 r1 => ?_)
  refine q2 as1 H1 σ env st1 _ (he.step s1) k1 (Post.bnd r1 fun y st2 u as2 H2 s2 k2 i2 r2 => ?_)
  have i1' := i1.step s2
  unfold oDIn at r2
  split at r2
  · rename_i ks j ek
    obtain ⟨a, kvs, rfl, hH, hk⟩ := dct_is k2 i2 ek
    cases i1'
    have g := isKs_get (i := j) hk
    cases eg : getK ks j with
    | none =>
      rw [eg] at r2 g
      exact ⟨a, none, rfl, .inl ⟨kvs, Sum.inl j, .inl hH, rfl, (show valV kvs (Sum.inl j) = none from g).symm⟩, r2.here k2 (.bl _)⟩
    | some d =>
      rw [eg] at r2 g
      obtain ⟨w, ew, iw⟩ := g
      exact ⟨a, some w, rfl, .inl ⟨kvs, Sum.inl j, .inl hH, rfl, ew.symm⟩, r2.here k2 (.bl _)⟩
  · exact r2.elim
theorem js_dput (hu : X.A.units + 1 < cLine) (hv : JE ca X W value fa) (ho : JE ca X W o fo) (hi : JE ca X W i fi) (hs : swapsWith value (some (.Subscript o i pos')) pos.line X.env = pure false := by rfl) : JS ca X W (.Assign [.Subscript o i pos'] value pos) (sPutD fa fo fi) := by
  obtain ⟨t, p, q⟩ := hv
  obtain ⟨to, p2, q2⟩ := ho
  obtain ⟨ti, p3, q3⟩ := hi
  refine ⟨_, ps_dput hu p2 p3 p hs, fun as H σ env st E he hs hp => ?_⟩
  refine q as H σ env st _ he hs (PostS.bnd hp he fun d st1 v as1 H1 s1 k1 i1 p1 => ?_)
  refine q2 as1 H1 σ env st1 _ (he.step s1) k1 (PostS.bnd p1 (he.step s1) fun od st2 ov as2 H2 s2 k2 i2 p2 => ?_)
  refine q3 as2 H2 σ env st2 _ ((he.step s1).step s2) k2 (PostS.bnd p2 ((he.step s1).step s2) fun id st3 iv as3 H3 s3 k3 i3 p3 => ?_)
  have i2' := i2.step s3
  have i1' := (i1.step s2).step s3
  cases i2' <;> cases i3 <;> first | exact False.elim p3 | skip
  rename_i a j hj i
  dsimp only at p3
  split at p3
  · rename_i ks eks
    split at p3
    · rename_i hl
      obtain ⟨kvs, hH, hk⟩ := cell_dct k3 hj eks
      have st3' := Step.chg (as := as3) (H := H3) (o := .dK (putK kvs (Sum.inl i) v)) hj
      exact ⟨a, _, rfl, .inl ⟨kvs, Sum.inl i, hH, rfl, by rw [isKs_len hk]; exact sz_lt hl, rfl⟩, p3 σ as3 _ st3' (k3.chg (c := .dct (putD' ks i d)) hj (isKs_put hk i1')) ((((he.step s1).step s2).step s3).step st3')⟩
    · exact p3.elim
  · exact p3.elim
end
/-! ### sorted(d) -/
def ltI (a b : Int) : Bool := decide (a ≤ b)
def oSortK (xs : List D) (st : Sta) : Option (R D) := match xs with
  | [x] => (match dctOf x st with
    | some ks => if ks.length < 64 then ret (.lst (((ks.map (·.1)).mergeSort ltI).map .int)) st else none
    | none => none)
  | _ => none
theorem sorted_one {ys ks : List Int} (h : ys.Perm ks) (hs : ys.Pairwise (· ≤ ·)) : ys = ks.mergeSort ltI := by
  refine List.Perm.eq_of_pairwise (le := fun a b => ltI a b = true) ?_ ?_ ?_ ?_
  · intro a b _ _ h1 h2
    have h1' := of_decide_eq_true h1
    have h2' := of_decide_eq_true h2
    omega
  · exact hs.imp fun h => decide_eq_true h
  · refine List.pairwise_mergeSort ?_ ?_ _
    · intro a b c h1 h2
      have h1' := of_decide_eq_true h1
      have h2' := of_decide_eq_true h2
      exact decide_eq_true (by omega)
    · intro a b
      rcases Int.le_total a b with z | z
      · simp [ltI, z]
      · simp [ltI, z]
  · exact h.trans (List.mergeSort_perm _ _).symm
theorem ints_is {K : PySem.W.Frag} {ca : Ca} {as : Wl} {G : Hp} : ∀ zs : List Int, IsDs K ca as G (zs.map V.int) (zs.map D.int)
  | [] => .nil
  | z :: zs => .cons (.int z) (ints_is zs)
section
variable {K : PySem.W.Frag} {ca : Ca} {X : Cx} {W : WX} {e : Expr} {fa : F D} {pos p : Pos}
def rSortK : List V → Hp → VK → Prop := fun xs H Q => ∃ (a : Addr) (kvs : List (Key × V)) (ks : List Int), xs = [.ref a] ∧ Rd H a (.dK kvs) ∧ kvs.map (·.1) = ks.map Sum.inl ∧ ks.length < 64 ∧
    ∀ (ys : List Int) (p : Addr), ys.Perm ks → ys.Pairwise (· ≤ ·) → H p = none → Q (.ref p) (upd H p (.lst (ys.map V.int)))
theorem rn_sortK : RvN K ca W rSortK oSortK := by
  intro as H σ st v x Q k hx hp
  cases hx with
  | nil => exact False.elim hp
  | cons h1 h2 =>
    cases h2 with
    | cons => exact False.elim hp
    | nil =>
      unfold oSortK at hp
      dsimp only at hp
      split at hp
      · rename_i ks ea
        split at hp
        · rename_i hc
          obtain ⟨a, kvs, rfl, hH, hk⟩ := dct_is k h1 ea
          refine ⟨a, kvs, ks.map (·.1), rfl, .inl hH, isKs_keys hk, by rw [List.length_map]; exact hc, fun ys q hy hs hq => ?_⟩
          rw [sorted_one hy hs]
          exact hp _ as _ (Step.laid hq) (k.laid hq) (.lst (stab_laid k hq) (ints_is _))
        · exact hp.elim
      · exact hp.elim
theorem je_sortK (hm : X.mg "sorted" = none) (hg : Gl X "sorted") (hc : X.calm = true) (h : JE ca X W e fa) (he : starEach [e] X.env = (false, eval e X.env) :: starEach [] X.env := by rfl) (hpl : (backTo pos (starEach [] X.env)).any (·.1) = false := by rfl) :
    JE ca X W (.Call (.Name "sorted" p) [e] [] pos) (fN oSortK (fCons fa fNil)) := je_callB (call_sortedDI hc) rn_sortK hg hm (by decide +kernel) (ja_cons h ja_nil he) (he := he) (hpl := hpl)
end
/-! ### == of a list that is changed -/
def rs (st : Sta) (d : D) : D := match d with
  | .cell k => match st[k]? with | some (.lst ds) => .lst ds | _ => .cell k
  | d => d
def oEqS (x y : D) (st : Sta) : Option (R D) := match eqD (rs st x) (rs st y) with | some b => ret (.bl b) st | none => none
def oNeS (x y : D) (st : Sta) : Option (R D) := match eqD (rs st x) (rs st y) with | some b => ret (.bl (!b)) st | none => none
section
variable {K : PySem.W.Frag} {ca : Ca} {W : WX}
theorem rs_dp {as : Wl} {H : Hp} {st : Sta} {v : V} {d : D} {p : PyData} (k : StOk K ca as H st) (h : IsD K ca as (stab as H) v d) (e : toP (rs st d) = some p) : Dp K H v p := by
  unfold rs at e
  split at e
  · rename_i j
    split at e
    · rename_i ds es
      cases h with
      | cell h1 =>
        rename_i a
        have c := k.at_ j a _ h1 es
        cases hq : H a with
        | none => rw [hq] at c; exact c.elim
        | some u =>
          rw [hq] at c
          cases u <;> first | exact False.elim c | skip
          rename_i xs
          unfold toP at e
          obtain ⟨ps, e1, e2⟩ := Option.map_eq_some_iff.mp e
          subst e2
          exact .lst (SqL.of hq) (IsDs.dp (stab_sub _ _) c e1)
    · unfold toP at e; cases e
  · exact h.dp (stab_sub _ _) e
theorem rv_eqS : Rv2 K ca W (rEqD K) oEqS := by
  intro as H σ st v u x y Q k hx hy hp
  unfold oEqS eqD at hp
  split at hp
  · rename_i b e
    split at e
    · rename_i p q e1 e2
      split at e
      · rename_i h
        cases e
        exact ⟨p, q, rs_dp k hx e1, rs_dp k hy e2, h.1, h.2, hp.here k (.bl _)⟩
      · cases e
    · cases e
  · exact hp.elim
theorem rv_neS : Rv2 K ca W (rNeD K) oNeS := by
  intro as H σ st v u x y Q k hx hy hp
  unfold oNeS eqD at hp
  split at hp
  · rename_i b e
    split at e
    · rename_i p q e1 e2
      split at e
      · rename_i h
        cases e
        exact ⟨p, q, rs_dp k hx e1, rs_dp k hy e2, h.1, h.2, hp.here k (.bl _)⟩
      · cases e
    · cases e
  · exact hp.elim
end
/-! ### a list as a test -/
def fTruL (fa : F D) : F Bool := fun env st => bnd (fa env st) fun x st => match x with | .lst ds => some (.ok (!ds.isEmpty) st) | _ => none
section
variable {ca : Ca} {X : Cx} {W : WX} {e : Expr} {fa : F D}
theorem jt_truL (h : JE ca X W e fa) (he : ∀ whole, isTrue e X.env whole = (do let v ← whole; standAt e.pos; holding [v] (truthy v)) := by intro _; rfl) : JT ca X W e (fTruL fa) := by
  obtain ⟨t, p, q⟩ := h
  refine ⟨_, pt_truth p he, fun as H σ env st Q he hs hp => ?_⟩
  refine q as H σ env st _ he hs (Post.bnd hp fun x st1 v as1 H1 s1 k1 i1 p1 => ?_)
  cases i1 <;> first | exact False.elim p1 | skip
  rename_i a xs ds h1 h2
  refine ⟨!ds.isEmpty, .inl ⟨xs, SqL.of (stab_some h1).2.2, ?_⟩, p1.here k1 rfl⟩
  cases h2 <;> rfl
end
/-! ### a def whose changed things go on -/
def endO : Option (O × Sta) → Option (R D)
  | some (.rt d, st) => some (.ok d st)
  | some (.nx _, st) => some (.ok .non st)
  | _ => none
def fnO (m : Nat) (fb : FS) (ds : List D) (st : Sta) : Option (R D) := endO (fb (ds.map some ++ List.replicate (m - ds.length) none) st)
/-- what such a def promises -/
def PostO (K : PySem.W.Frag) (ca : Ca) (as : Wl) (H : Hp) : Option (R D) → VK → Prop
  | some (.ok d st), Q => ∀ v as' H', Step as H as' H' → StOk K ca as' H' st → IsD K ca as' (stab as' H') v d → Q v H'
  | _, _ => False
def spO (K : PySem.W.Frag) (ca : Ca) (n : Nat) (Fm : List D → Sta → Option (R D)) : Sp := fun vs H Q _ => ∃ as st ds, IsDs K ca as (stab as H) vs ds ∧ StOk K ca as H st ∧ ds.length = n ∧ PostO K ca as H (Fm ds st) Q
theorem endO_is {K : PySem.W.Frag} {ca : Ca} {as : Wl} {H : Hp} {m : Option (O × Sta)} {Q : VK} {W : WX} (h : PostO K ca as H (endO m) Q) : PostS K ca W as H m { nx := fun _ H' => Q .non H', rt := Q } := by
  cases m with
  | none => exact h
  | some r =>
    obtain ⟨o, st'⟩ := r
    cases o with
    | rt d => exact fun v as' H' s k' i => h v as' H' s k' i
    | nx env => exact fun σ as' H' s k' i => h .non as' H' s k' .non
    | er c fs env => exact h.elim
    | bk env => exact h.elim
    | ct env => exact h.elim
structure DefOkO (P : Program) (w : World) (K : PySem.W.Frag) (mg : Str → Option Value) (base : Heap) (ca : Ca) (k : Nat) (x : Str) (ps : List Str) (Fm : List D → Sta → Option (R D)) : Prop where
  ex : ∃ f fd, FnOk P w K mg base (L2.CX P w) k f fd ps (spO K ca ps.length Fm) ∧ mg x = some (.ref f) ∧ PySem.W.keepIn K (.ref f) = true ∧ Binds K fd ps []
section
variable {P : Program} {w : World} {K : PySem.W.Frag} {mg : Str → Option Value} {base : Heap} {ca : Ca}
theorem fn_bodyO {x qual : Str} {st : Stmt} {f : Addr} {fd : FuncData} {N ps : List Str} {k : Nat} {fb : FS} (Fn : L2.Fun K x qual st f fd) (S : FnScope N ps (defScope st))
    (hb : ∀ (cdv : Value) (A : Around) (outer : List Env) (s : Shared) (H : Hp) (E : XK), Room k (A.deeper (envOfC qual (defScope st) s.heap.objs.size f cdv)) → Takes (cxOf (L2.CX P w) P w K mg base N qual (defScope st) f cdv A outer s H E) (fun c d _ H => E c d H) →
      PassesOwn (model P w) (A.deeper (envOfC qual (defScope st) s.heap.objs.size f cdv)) (envOfC qual (defScope st) s.heap.objs.size f cdv) (cxOf (L2.CX P w) P w K mg base N qual (defScope st) f cdv A outer s H E).xe →
      JB ca (cxOf (L2.CX P w) P w K mg base N qual (defScope st) f cdv A outer s H E) (fun c d _ H => E c d H) (defBody st) fb) :
    FnOk P w K mg base (L2.CX P w) (k + 1) f fd ps (spO K ca ps.length (fnO N.length fb)) := by
  refine Fn.okX S (fun vs H Q E ⟨as, st, ds, h1, _, h2, _⟩ => h1.len.trans h2) (fun cdv A outer s H vs Q E hr ⟨as, sta, ds, h1, h2, h3, h4⟩ => ?_)
  obtain ⟨t, p, q⟩ := hb cdv A outer s H E hr (takes_of rfl rfl rfl rfl) (passes_of rfl)
  exact ⟨t, p, q as H _ _ sta _ (env_start h1) h2 (endO_is h4)⟩
end
section
variable {ca : Ca} {X : Cx} {W : WX} {e : Expr} {es : List Expr} {fs : F (List D)} {pos p : Pos} {x : Str} {k j : Nat} {ps : List Str} {Fm : List D → Sta → Option (R D)}
def oCallO (n : Nat) (Fm : List D → Sta → Option (R D)) (ds : List D) (st : Sta) : Option (R D) := if ds.length = n then match Fm ds st with | some (.ok d st) => some (.ok d st) | _ => none else none
theorem je_callO {n : Nat} (Fn : DefOkO X.prog X.w X.K X.mg X.base ca k x ps Fm) (hr : Room j X.A) (hk : k ≤ j) (tk : Takes X W) (ha : JA ca X W (e :: es) fs) (hn : ps.length = n := by rfl) (hg : Gl X x := by rfl) (hd : (x == ("__debug__" : Str)) = false := by decide) (h1 : starEach (e :: es) X.env = (false, eval e X.env) :: starEach es X.env := by rfl)
    (h2 : ((backTo pos (starEach es X.env)).any fun x => x.1) = false := by rfl) : JE ca X W (.Call (.Name x p) (e :: es) [] pos) (fN (oCallO n Fm) fs) := by
  subst hn
  obtain ⟨f, fd, F, hm, hkp, hb⟩ := Fn.ex
  obtain ⟨ta, pa, sa⟩ := ha
  refine ⟨_, pe_callS F (hr.mono hk) hg hm hkp hb (fun σ => passAt tk σ) pa hd h1 h2, fun as H σ env st Q he hs hp => ?_⟩
  refine sa as H σ env st _ he hs (Post.bnd hp fun xs st1 vs as1 H1 s1 k1 i1 p1 => ?_)
  unfold oCallO at p1
  by_cases hl : xs.length = ps.length
  · rw [if_pos hl] at p1
    refine ⟨as1, st1, xs, i1, k1, hl, ?_⟩
    cases em : Fm xs st1 with
    | none => rw [em] at p1; exact p1
    | some r =>
      rw [em] at p1
      cases r with
      | ok d st2 => exact fun v as' H' s k' i => p1 v as' H' s k' i
      | err c fs st2 => exact p1.elim
  · rw [if_neg hl] at p1
    exact p1.elim
end
end DS

namespace DS
open PySem L2 PySem.Spec PyProof.Rows
/-! ### comprehensions over a dict's values and entries; nothing is changed within -/
structure Sub (K : PySem.W.Frag) (G G2 : Hp) : Prop where
  t : ∀ p xs, SqT K G p xs → SqT K G2 p xs
  l : ∀ p xs, SqL K G p xs → SqL K G2 p xs
  ls : ∀ p xs, G p = some (.lst xs) → G2 p = some (.lst xs)
  i : ∀ p C dx vs, G p = some (.ins C dx vs) → G2 p = some (.ins C dx vs)
  x : ∀ p vs, G p = some (.xd vs) → G2 p = some (.xd vs)
  k : ∀ p vs, G p = some (.dK vs) → G2 p = some (.dK vs)
  e : ∀ p φ, G p = some (.ext φ) → G2 p = some (.ext φ)
section
variable {K : PySem.W.Frag} {ca : Ca} {as as2 : Wl} {G G2 H : Hp}
theorem Sub.of_ext (e : Ext G G2) : Sub K G G2 := ⟨fun _ _ => ext_t e, fun _ _ => ext_l e, fun _ _ => e _ _, fun _ _ _ _ => e _ _, fun _ _ => e _ _, fun _ _ => e _ _, fun _ _ => e _ _⟩
/-- all but one thing -/
theorem Sub.of_but {u : HO} (hu : ∀ o xs, u ≠ .tup xs ∧ u ≠ .lst xs ∧ u ≠ .frz o (.tup xs) ∧ u ≠ .frz o (.lst xs)) (hi : ∀ C dx vs, u ≠ .ins C dx vs) (hk : (∀ vs, u ≠ .xd vs) ∧ (∀ vs, u ≠ .dK vs) ∧ ∀ φ, u ≠ .ext φ) (e : ∀ p w, G p = some w → w ≠ u → G2 p = some w) : Sub K G G2 := by
  refine ⟨fun p xs h => ?_, fun p xs h => ?_, fun p xs h => e _ _ h (fun z => (hu default xs).2.1 z.symm), fun p C dx vs h => e _ _ h (fun z => hi C dx vs z.symm), fun p vs h => e _ _ h (fun z => hk.1 vs z.symm), fun p vs h => e _ _ h (fun z => hk.2.1 vs z.symm), fun p φ h => e _ _ h (fun z => hk.2.2 φ z.symm)⟩
  · rcases h with h | h
    · rcases h with h | ⟨o, h⟩
      · exact .inl (.inl (e _ _ h fun z => (hu default xs).1 z.symm))
      · exact .inl (.inr ⟨o, e _ _ h fun z => (hu o xs).2.2.1 z.symm⟩)
    · exact .inr h
  · rcases h with h | h
    · rcases h with h | ⟨o, h⟩
      · exact .inl (.inl (e _ _ h fun z => (hu default xs).2.1 z.symm))
      · exact .inl (.inr ⟨o, e _ _ h fun z => (hu o xs).2.2.2 z.symm⟩)
    · exact .inr h
mutual
theorem IsD.any (e : Sub K G G2) {v : V} {d : D} (h : IsD K ca as G v d) (p : pl 0 d = true) : IsD K ca as2 G2 v d := by
  cases h with
  | non => exact .non
  | bl b => exact .bl b
  | int i => exact .int i
  | str x => exact .str x
  | tup h1 h2 => unfold pl at p; exact .tup (e.t _ _ h1) (IsDs.any e h2 p)
  | lst h1 h2 => unfold pl at p; exact .lst (e.ls _ _ h1) (IsDs.any e h2 p)
  | fls h1 h2 => unfold pl at p; exact .fls (e.l _ _ h1) (IsDs.any e h2 p)
  | ins h0 h1 h2 => unfold pl at p; exact .ins h0 (e.i _ _ _ _ h1) (IsFs.any e h2 p)
  | cell h1 => unfold pl at p; exact absurd (of_decide_eq_true p) (Nat.not_lt_zero _)
  | opq0 h1 => exact .opq0 h1
  | opq1 h1 h2 h3 => unfold pl at p; exact .opq1 h1 (e.x _ _ h2) (IsFs.any e h3 p)
  | dic h1 h2 h3 h4 h5 => unfold pl at p; rw [Bool.and_eq_true] at p; exact .dic (e.k _ _ h1) h2 h3 (IsDs.any e h4 p.1) (IsDs.any e h5 p.2)
  | lok h1 h2 h3 h4 h5 => unfold pl at p; cases p
  | dik h1 h0 h2 h3 h4 h5 => unfold pl at p; rw [Bool.and_eq_true] at p; exact .dik (e.e _ _ h1) h0 h2 h3 (IsDs.any e h4 p.1) (IsDs.any e h5 p.2)
theorem IsDs.any (e : Sub K G G2) {vs : List V} {ds : List D} (h : IsDs K ca as G vs ds) (p : pls 0 ds = true) : IsDs K ca as2 G2 vs ds := by
  cases h with
  | nil => exact .nil
  | cons h1 h2 =>
    unfold pls at p
    rw [Bool.and_eq_true] at p
    exact .cons (IsD.any e h1 p.1) (IsDs.any e h2 p.2)
theorem IsFs.any (e : Sub K G G2) {vs : List (Str × V)} {ds : List (Str × D)} (h : IsFs K ca as G vs ds) (p : plf 0 ds = true) : IsFs K ca as2 G2 vs ds := by
  cases h with
  | nil => exact .nil
  | cons h1 h2 =>
    unfold plf at p
    rw [Bool.and_eq_true] at p
    exact .cons (IsD.any e h1 p.1) (IsFs.any e h2 p.2)
end
theorem IsKs.any (e : Sub K G G2) : ∀ {r : List (Key × V)} {s : List (Int × D)}, IsKs K ca as G r s → plk 0 s = true → IsKs K ca as2 G2 r s
  | [], [], _, _ => trivial
  | [], _ :: _, h, _ => h.elim
  | _ :: _, [], h, _ => h.elim
  | (_, _) :: _, (_, _) :: _, h, p => by
    unfold plk at p
    rw [Bool.and_eq_true] at p
    exact ⟨h.1, h.2.1.any e p.1, IsKs.any e h.2.2 p.2⟩
end
def envShut (env : Evn) : Evn := env.map fun o => o.bind fun d => if pl 0 d = true then some d else none
def fLcV (i : Nat) (wk : List (Int × D) → List D) (g : FG) (t : F Bool) (fe : F D) (vs : List Nat) : F D := fun env st => match env[i]? with
  | some (some x) => match dctOf x st with
    | some ks => if plk 0 ks = true then match lcF g t fe (wipeE (envShut env) vs) (wk ks) [] [] with
        | some (.ok ys []) => if pls 0 ys = true then some (.ok (.lst ys) st) else none
        | _ => none
      else none
    | none => none
  | _ => none
def wkV (ks : List (Int × D)) : List D := ks.map (·.2)
def wkI (ks : List (Int × D)) : List D := ks.map fun p => .tup [.int p.1, p.2]
section
variable {ca : Ca} {X : Cx} {W : WX} {K : PySem.W.Frag}
/-- the heart of a comprehension, over a source that is there -/
theorem lc_at {J : It} {ds : List D} {g : TG} {tt : TT} {te : TE} {vs : List Nat} {gg : FG} {ft : F Bool} {fe : F D} (hg : GvS K ca g gg) (ho : OwnT g vs) (ht : TvS K ca W0 tt ft) (he : EvS K ca W0 te fe)
    {as1 : Wl} {H1' : Hp} {σ : L2.St} {env : Evn} {st1 : Sta} {Q : VK} {fin : List D → Sta → Option (R D)} (ok : ItOk K ca as1 H1' J ds) (henv1 : EnvOk K ca as1 (stab as1 H1') σ env) (k1 : StOk K ca as1 H1' st1)
    (p1 : Post K ca W (IsD K ca) as1 H1' σ (bnd (lcF gg ft fe (wipeE env vs) ds [] st1) fin) Q)
    (hfin : ∀ as' H' D acc ads st', Step as1 H1' as' H' → H1' D = none → H' D = some (.lst acc) → IsDs K ca (as'.hide D) (stab (as'.hide D) H') acc ads → StOk K ca (as'.hide D) H' st' → StOk K ca as' H' st' → Post K ca W (IsD K ca) as1 H1' σ (fin ads st') Q → Q (.ref D) H') :
    tLc (fun _ H R => R J H) g tt te vs σ H1' Q := by
  intro D hD
  refine ⟨fun i m H' => m = ds.length - i ∧ i ≤ ds.length ∧ ∃ as' acc ads st', Step as1 H1' as' H' ∧ H' D = some (.lst acc) ∧ IsDs K ca (as'.hide D) (stab (as'.hide D) H') acc ads ∧ StOk K ca (as'.hide D) H' st' ∧ StOk K ca as' H' st' ∧ Post K ca W (IsD K ca) as1 H1' σ (bnd (lcF gg ft fe (wipeE env vs) (ds.drop i) ads st') fin) Q,
    ⟨ds.length, by simp, Nat.zero_le _, as1, [], [], st1, Step.laid hD, upd_same, .nil, k1.hideD hD, k1.laid hD, p1⟩, ?_⟩
  rintro i m H' ⟨rfl, hile, as', acc, ads, st', s, hDa, ia, kh, ku, p⟩
  by_cases hlt : i < ds.length
  · have ed : ds[i]? = some ds[i] := by simp [hlt]
    obtain ⟨_, h2⟩ := ok (as'.hide D) H' i s.pre (hide_ext hD s)
    obtain ⟨go, yl⟩ := h2 _ ed
    refine .inr ⟨go, fun H2 => i + 1 ≤ ds.length ∧ ∃ as' acc ads st', Step as1 H1' as' H2 ∧ H2 D = some (.lst acc) ∧ IsDs K ca (as'.hide D) (stab (as'.hide D) H2) acc ads ∧ StOk K ca (as'.hide D) H2 st' ∧ StOk K ca as' H2 st' ∧ Post K ca W (IsD K ca) as1 H1' σ (bnd (lcF gg ft fe (wipeE env vs) (ds.drop (i + 1)) ads st') fin) Q, fun H2 q => ⟨ds.length - (i + 1), by omega, rfl, q⟩, fun x H'' y => ?_⟩
    obtain ⟨sy, ky, iy⟩ := yl x H'' y st' kh
    rw [List.drop_eq_getElem_cons hlt] at p
    unfold lcF at p
    have nD : D ∉ as'.as := (kh.hid D List.mem_cons_self).1
    have sy' : Step as' H' as' H'' := ⟨List.prefix_refl _, rfl, fun _ h n => (n h).elim, sy.keep⟩
    have envW : EnvOk K ca (as'.hide D) (stab (as'.hide D) H'') (L2.wipe σ vs) (wipeE env vs) := ((henv1.ext (as' := as'.hide D) s.pre (hide_ext hD s)).step sy).wipe vs
    refine ho x σ H'' _ (hg (as'.hide D) H'' _ _ _ x ds[i] _ envW ky iy ?_)
    cases eg : gg ds[i] (wipeE env vs) st' with
    | none => simp only [eg] at p; exact p.elim
    | some q =>
      obtain ⟨env1, st2⟩ := q
      simp only [eg] at p
      intro σ2 H2 s2 k2 e2
      refine ht (as'.hide D) H2 σ2 env1 st2 _ e2 k2 ?_
      cases et : ft env1 st2 with
      | none => rw [et] at p; exact p.elim
      | some q =>
        rw [et] at p
        cases q with
        | err => exact p.elim
        | ok b st3 =>
          intro b' as3 H3 s3 k3 eb
          cases (show b' = b from eb)
          have hs3 : as3.hs = D :: as'.hs := s3.hid
          obtain ⟨a3, h3⟩ := as3
          dsimp only at hs3
          subst hs3
          have s3' : Step as1 H1' ⟨a3, as'.hs⟩ H3 := by
            refine ((s.trans sy').trans ⟨List.prefix_refl _, rfl, fun _ h n => (n h).elim, s2.keep⟩).trans ⟨s3.pre, rfl, s3.new, s3.keep⟩
          have hDk : ∀ {H5 : Hp} {a5 : List Addr}, Step (as'.hide D) H'' ⟨a5, D :: as'.hs⟩ H5 → H5 D = some (.lst acc) := fun s5 => s5.keep D _ nD (sy.keep D _ nD hDa)
          have ia3 := ((ia.step sy).step s2).step s3
          cases b with
          | false =>
            refine iteF ⟨hlt, ⟨a3, as'.hs⟩, acc, ads, st3, s3', hDk (s2.trans s3), ia3, k3, k3.unhide, p⟩
          | true =>
            refine iteT (he ⟨a3, D :: as'.hs⟩ H3 σ2 env1 st3 _ (e2.step s3) k3 ?_)
            dsimp only [bnd0] at p
            cases ee : fe env1 st3 with
            | none => rw [ee] at p; exact p.elim
            | some q =>
              rw [ee] at p
              cases q with
              | err => exact p.elim
              | ok yd st4 =>
                intro yv as4 H4 s4 k4 iy4
                have hs4 : as4.hs = D :: as'.hs := s4.hid
                obtain ⟨a4, h4⟩ := as4
                dsimp only at hs4
                subst hs4
                have hD4 : H4 D = some (.lst acc) := s4.keep D _ (by
                  intro z
                  exact (k3.hid D List.mem_cons_self).1 z) (hDk (s2.trans s3))
                dsimp only at p
                by_cases hz : ads.length < 100000
                · rw [if_pos hz] at p
                  have ia4 := ia3.step s4
                  refine ⟨acc, hD4, by rw [ia4.len]; exact sz_lt hz, hlt, ⟨a4, as'.hs⟩, acc ++ [yv], ads ++ [yd], st4, ?_, upd_same, ?_, k4.grow, k4.grow.unhide, p⟩
                  · have s4' : Step as1 H1' ⟨a4, as'.hs⟩ H4 := s3'.trans ⟨s4.pre, rfl, s4.new, s4.keep⟩
                    exact ⟨s4'.pre, s4'.hid, s4'.new, fun a o h1 h2 => by
                      have hne : a ≠ D := fun z => by rw [z, hD] at h2; cases h2
                      rw [upd_ne hne]
                      exact s4'.keep a o h1 h2⟩
                  · exact (ia4.append (.cons iy4 .nil)).ext (List.prefix_refl _) grow_ext
                · rw [if_neg hz] at p
                  exact p.elim
  · have e : i = ds.length := by omega
    subst e
    obtain ⟨h1, _⟩ := ok as' H' ds.length s.pre s.ext
    rw [List.drop_length] at p
    exact .inl ⟨h1 (by simp), hfin as' H' D acc ads st' s hD hDa ia kh ku p⟩
/-- all that is changed is out of sight, but the dict, which stands -/
def shut (as : Wl) (a : Addr) : Wl := ⟨[], as.as.filter (fun b => decide (b ≠ a)) ++ as.hs⟩
theorem shut_mem {as : Wl} {a b : Addr} (h : b ∉ (shut as a).hs) : (b ∉ as.as ∨ b = a) ∧ b ∉ as.hs := by
  unfold shut at h
  simp only [List.mem_append, List.mem_filter, not_or, not_and] at h
  refine ⟨?_, h.2⟩
  by_cases e : b = a
  · exact .inr e
  · exact .inl fun z => h.1 z (decide_eq_true e)
theorem shut_nm {as : Wl} {a b : Addr} (h : b ∉ as.as ∨ b = a) (h2 : b ∉ as.hs) : b ∉ (shut as a).hs := by
  unfold shut
  simp only [List.mem_append, List.mem_filter, not_or, not_and]
  refine ⟨fun z => ?_, h2⟩
  rcases h with h | h
  · exact absurd z h
  · simp [h]
theorem lcV_is {mk : Addr → Obj → List (Key × V) → It} {wk : List (Int × D) → List D} {i : Nat} {g : TG} {tt : TT} {te : TE} {vs : List Nat} {gg : FG} {ft : F Bool} {fe : F D}
    (hmk : ∀ (as1 : Wl) (H1 : Hp) (a : Addr) (o : Obj) (kvs : List (Key × V)) (ks : List (Int × D)), stab as1 H1 a = some (.frz o (.dK kvs)) → IsKs K ca as1 (stab as1 H1) kvs ks → ItOk K ca as1 H1 (mk a o kvs) (wk ks))
    (hg : GvS K ca g gg) (ho : OwnT g vs) (ht : TvS K ca W0 tt ft) (hes : EvS K ca W0 te fe) :
    EvS K ca W (tLockE (tLc (fun σ H R => tVar i σ H fun x H1 => ∃ d o kvs, x = .ref d ∧ H1 d = some (.frz o (.dK kvs)) ∧ R (mk d o kvs) H1) g tt te vs)) (fLcV i wk gg ft fe vs) := fun as H σ env st Q he hs hp => by
  unfold fLcV at hp
  split at hp
  · rename_i x ex
    split at hp
    · rename_i ks eks
      split at hp
      · rename_i hpk
        split at hp
        · rename_i ys elc
          split at hp
          · rename_i hpy
            obtain ⟨v, ev, iv⟩ := he.at_ i x ex
            obtain ⟨a, kvs, rfl, hH, hk⟩ := dct_is hs iv eks
            have ha : a ∈ as.as := by
              unfold dctOf at eks
              split at eks
              · cases iv with
                | cell h1 => exact List.mem_of_getElem? h1
              · cases eks
            have hah : a ∉ as.hs := fun z => (hs.hid a z).1 ha
            refine ⟨a, .dK kvs, hH, trivial, fun od => ?_⟩
            have hvis : stab (shut as a) (upd H a (.frz od (.dK kvs))) a = some (.frz od (.dK kvs)) := by
              rw [stab_out (as := shut as a) (List.not_mem_nil) (shut_nm (.inr rfl) hah), upd_same]
            have ex1 : Ext (stab as H) (stab (shut as a) (upd H a (.frz od (.dK kvs)))) := fun b u h => by
              obtain ⟨h1, h2, h3⟩ := stab_some h
              rw [stab_out (as := shut as a) (List.not_mem_nil) (shut_nm (.inl h1) h2), upd_ne (fun (z : b = a) => h1 (by rw [z]; exact ha))]
              exact h3
            have kst : StOk K ca (shut as a) (upd H a (.frz od (.dK kvs))) [] := by
              refine ⟨List.nodup_nil, rfl, fun b hb => ⟨List.not_mem_nil, ?_⟩, fun k b c e1 e2 => by simp at e2⟩
              by_cases e : b = a
              · subst e; exact ⟨_, upd_same⟩
              · rw [upd_ne e]
                rcases List.mem_append.mp hb with hb | hb
                · exact hs.alloc (List.mem_filter.mp hb).1
                · exact (hs.hid b hb).2
            have henv : EnvOk K ca (shut as a) (stab (shut as a) (upd H a (.frz od (.dK kvs)))) σ (envShut env) := by
              refine ⟨by unfold envShut; rw [List.length_map]; exact he.len, fun j d e => ?_⟩
              unfold envShut at e
              rw [List.getElem?_map] at e
              cases q : env[j]? with
              | none => rw [q] at e; cases e
              | some o =>
                rw [q] at e
                cases o with
                | none => cases e
                | some d' =>
                  simp only [Option.map_some, Option.bind_some, Option.some.injEq] at e
                  split at e
                  · rename_i hpl
                    cases e
                    obtain ⟨v, e1, i1⟩ := he.at_ j _ q
                    exact ⟨v, e1, i1.any (Sub.of_ext ex1) hpl⟩
                  · cases e
            have kh := hk.any (as2 := shut as a) (Sub.of_ext ex1) hpk
            refine ⟨.ref a, ev, a, od, kvs, rfl, upd_same, ?_⟩
            show tLc (fun _ H R => R (mk a od kvs) H) g tt te vs σ (upd H a (.frz od (.dK kvs))) (fun v H' => H' a = some (.frz od (.dK kvs)) ∧ Q v (upd H' a (.dK kvs)))
            refine lc_at (W := W) (fin := fun ys st => some (.ok (.lst ys) st)) hg ho ht hes (hmk (shut as a) _ a od kvs ks hvis kh) henv kst ?_ fun as' H' D acc ads st' s hD hDa ia kh ku p => ?_
            · rw [elc]
              intro v as' H' s k' iv'
              obtain ⟨l1, l2⟩ := as'
              have e2 : l2 = (shut as a).hs := s.hid
              have e1 : l1 = [] := List.eq_nil_of_length_eq_zero k'.len
              subst e1 e2
              have hfr : H' a = some (.frz od (.dK kvs)) := s.keep a _ (List.not_mem_nil) upd_same
              refine ⟨hfr, ?_⟩
              have keepB : ∀ b o, b ≠ a → H b = some o → upd H' a (.dK kvs) b = some o := fun b o hb e => by
                rw [upd_ne hb]
                exact s.keep b o (List.not_mem_nil) (by rw [upd_ne hb]; exact e)
              have sH : Step as H as (upd H' a (.dK kvs)) := ⟨List.prefix_refl _, rfl, fun _ h n => (n h).elim, fun b o hb e => keepB b o (fun z => hb (z ▸ ha)) e⟩
              have kH : StOk K ca as (upd H' a (.dK kvs)) st := by
                refine ⟨hs.nd, hs.len, hs.hidS sH, fun j b c e1 e2 => ?_⟩
                have hb := List.mem_of_getElem? e1
                have eqb : upd H' a (.dK kvs) b = H b := by
                  by_cases z : b = a
                  · subst z; rw [upd_same, hH]
                  · obtain ⟨o, e⟩ := hs.alloc hb
                    rw [e]
                    exact keepB b o z e
                rw [eqb]
                exact (hs.at_ j b c e1 e2).ext (List.prefix_refl _) sH.ext
              refine hp v as _ sH kH (iv'.any (Sub.of_but (u := .frz od (.dK kvs)) (fun o xs => ⟨nofun, nofun, nofun, nofun⟩) (fun _ _ _ => nofun) ⟨nofun, nofun, nofun⟩ fun b w hb hw => ?_) (by unfold pl; exact hpy))
              obtain ⟨h1, h2, h3⟩ := stab_some hb
              have hba : b ≠ a := fun z => by
                subst z
                rw [hfr] at h3
                exact hw (Option.some.inj h3).symm
              obtain ⟨h4, h5⟩ := shut_mem h2
              rw [stab_out (h4.resolve_right hba) h5, upd_ne hba]
              exact h3
            · have nD := (kh.hid D List.mem_cons_self).1
              have hn : D ∉ as'.hs := by
                rw [s.hid]
                exact kst.freeH hD
              have e1 := (stab_out (as := as') (H := H') nD hn).trans hDa
              exact p _ as' H' s ku (.lst e1 (ia.ext (as := as'.hide D) (as' := as') (List.prefix_refl _) unhide_ext))
          · exact hp.elim
        · exact hp.elim
      · exact hp.elim
    · exact hp.elim
  · exact hp.elim
theorem itok_vals (as1 : Wl) (H1 : Hp) (a : Addr) (o : Obj) (kvs : List (Key × V)) (ks : List (Int × D)) (hd : stab as1 H1 a = some (.frz o (.dK kvs))) (hk : IsKs K ca as1 (stab as1 H1) kvs ks) : ItOk K ca as1 H1 (Itd a o kvs) (wkV ks) := fun as' H' i p e => by
  have hd' : H' a = some (.frz o (.dK kvs)) := (stab_some (e _ _ hd)).2.2
  unfold wkV
  rw [List.getElem?_map]
  have q := isKs_at (i := i) hk
  cases ek : ks[i]? with
  | none =>
    rw [ek] at q
    exact ⟨fun _ => ⟨hd', List.getElem?_eq_none_iff.mp q⟩, fun d z => nomatch z⟩
  | some kd =>
    rw [ek] at q
    obtain ⟨v, ev, iv⟩ := q
    refine ⟨fun z => (nomatch z), fun d ed => ?_⟩
    simp only [Option.map_some, Option.some.injEq] at ed
    subst ed
    refine ⟨⟨hd', (List.getElem?_eq_some_iff.mp ev).1⟩, fun x H'' ⟨eH, k, y⟩ => ?_⟩
    subst eH
    rw [ev] at y
    cases y
    exact it_same (iv.ext p e)
theorem itok_items (as1 : Wl) (H1 : Hp) (a : Addr) (o : Obj) (kvs : List (Key × V)) (ks : List (Int × D)) (hd : stab as1 H1 a = some (.frz o (.dK kvs))) (hk : IsKs K ca as1 (stab as1 H1) kvs ks) : ItOk K ca as1 H1 (Iti a o kvs) (wkI ks) := fun as' H' i p e => by
  have hd' : H' a = some (.frz o (.dK kvs)) := (stab_some (e _ _ hd)).2.2
  unfold wkI
  rw [List.getElem?_map]
  have q := isKs_at (i := i) hk
  cases ek : ks[i]? with
  | none =>
    rw [ek] at q
    exact ⟨fun _ => ⟨hd', List.getElem?_eq_none_iff.mp q⟩, fun d z => nomatch z⟩
  | some kd =>
    rw [ek] at q
    obtain ⟨v, ev, iv⟩ := q
    refine ⟨fun z => (nomatch z), fun d ed => ?_⟩
    simp only [Option.map_some, Option.some.injEq] at ed
    subst ed
    refine ⟨⟨hd', (List.getElem?_eq_some_iff.mp ev).1⟩, fun x H'' ⟨T, k, v', y, ex, hT, eH⟩ => ?_⟩
    rw [ev] at y
    cases y
    subst eH ex
    exact pair_is hT (.int _) (iv.ext p e)
variable {elt tg tst : Expr} {scope : Scope} {own : List (Str × Nat)} {pos ap cp np : Pos} {gg : FG} {fe : F D} {ft : F Bool} {x : Str}
theorem je_lcVI {g : TG} (i : Nat) (hc : X.calm = true) (hN : X.N.Nodup) (hx : X.N[i]? = some x) (ok : BlkOk X.N X.env.scope scope own) (hg : ∀ (s : Shared) (H : Hp) (C : Addr) (cl : List (Str × Addr)) (fp : List Addr), PG (X.blk s H scope (compEnvC scope cl C X.env) fp) tg g) (hgs : GvS X.K ca g gg) (ho : OwnT g (own.map (·.2)))
    (ht : ∀ (s : Shared) (H : Hp) (C : Addr) (cl : List (Str × Addr)) (fp : List Addr), JT ca (X.blk s H scope (compEnvC scope cl C X.env) fp) W0 tst ft) (he : ∀ (s : Shared) (H : Hp) (C : Addr) (cl : List (Str × Addr)) (fp : List Addr), JE ca (X.blk s H scope (compEnvC scope cl C X.env) fp) W0 elt fe)
    (hv : Vis X.env.scope x := by first | exact Or.inl rfl | exact Or.inr (Or.inl rfl) | exact Or.inr (Or.inr rfl)) (hd : (x == ("__debug__" : Str)) = false := by decide) (hcd : (x == ("__classdict__" : Str)) = false := by decide)
    (hb : attributeBase (.Name x np) "values" X.env (eval (.Name x np) X.env) = eval (.Name x np) X.env := by rfl) (hl : (ap.endLine == cp.line) = true := by rfl) (hs : ∀ y, foldedSetIterable (.Call (.Attribute (.Name x np) "values" ap) [] [] cp) X.env y = pure y := by intro _; rfl) :
    JE ca X W (.ListComp elt [⟨tg, .Call (.Attribute (.Name x np) "values" ap) [] [] cp, [tst], 0⟩] scope pos) (fLcV i wkV gg ft fe (own.map (·.2))) :=
  ⟨_, pe_lock (pe_lc hc hN (pi_values (pe_var hx hv hd hcd) hb hl) ok hg (fun s H C cl fp => pts_one (jt_canon (ht s H C cl fp))) (fun s H C cl fp => je_canon (he s H C cl fp)) hs),
    lcV_is (mk := Itd) itok_vals hgs ho tvs_canon evs_canon⟩
theorem je_lcMI {g : TG} {elts : List Expr} {kk : Nat} {tpos : Pos} (i : Nat) (hc : X.calm = true) (hN : X.N.Nodup) (hx : X.N[i]? = some x) (ok : BlkOk X.N X.env.scope scope own) (hg : ∀ (s : Shared) (H : Hp) (C : Addr) (cl : List (Str × Addr)) (fp : List Addr), PG (X.blk s H scope (compEnvC scope cl C X.env) fp) (.Tuple elts kk tpos) g) (hgs : GvS X.K ca g gg) (ho : OwnT g (own.map (·.2)))
    (ht : ∀ (s : Shared) (H : Hp) (C : Addr) (cl : List (Str × Addr)) (fp : List Addr), JT ca (X.blk s H scope (compEnvC scope cl C X.env) fp) W0 tst ft) (he : ∀ (s : Shared) (H : Hp) (C : Addr) (cl : List (Str × Addr)) (fp : List Addr), JE ca (X.blk s H scope (compEnvC scope cl C X.env) fp) W0 elt fe)
    (hv : Vis X.env.scope x := by first | exact Or.inl rfl | exact Or.inr (Or.inl rfl) | exact Or.inr (Or.inr rfl)) (hd : (x == ("__debug__" : Str)) = false := by decide) (hcd : (x == ("__classdict__" : Str)) = false := by decide)
    (hb : attributeBase (.Name x np) "items" X.env (eval (.Name x np) X.env) = eval (.Name x np) X.env := by rfl) (hl : (ap.endLine == cp.line) = true := by rfl) (hs : ∀ y, foldedSetIterable (.Call (.Attribute (.Name x np) "items" ap) [] [] cp) X.env y = pure y := by intro _; rfl) :
    JE ca X W (.ListComp elt [⟨.Tuple elts kk tpos, .Call (.Attribute (.Name x np) "items" ap) [] [] cp, [tst], 0⟩] scope pos) (fLcV i wkI gg ft fe (own.map (·.2))) :=
  ⟨_, pe_lock (pe_lc hc hN (pi_items (pe_var hx hv hd hcd) hb hl) ok hg (fun s H C cl fp => pts_one (jt_canon (ht s H C cl fp))) (fun s H C cl fp => je_canon (he s H C cl fp)) hs),
    lcV_is (mk := Iti) itok_items hgs ho tvs_canon evs_canon⟩
end
end DS

namespace DS
open PySem L2 PySem.Spec PyProof.Rows
/-! ### a name that may be a list or a tuple, walked -/
def iV (i : Nat) : F (List D) := fun env st => match env[i]? with
  | some (some (.tup ds)) => some (.ok ds st)
  | some (some (.lst ds)) => some (.ok ds st)
  | some (some (.fls ds)) => some (.ok ds st)
  | _ => none
section
variable {ca : Ca} {X : Cx} {W : WX} {K : PySem.W.Frag} {tg : Expr} {pos : Pos} {x : Str}
theorem ji_var (i : Nat) (hN : X.N[i]? = some x := by rfl) (hv : Vis X.env.scope x := by first | exact Or.inl rfl | exact Or.inr (Or.inl rfl) | exact Or.inr (Or.inr rfl)) (hd : (x == ("__debug__" : Str)) = false := by decide)
    (hcd : (x == ("__classdict__" : Str)) = false := by decide) : JI ca X W tg (.Name x pos) (iV i) := by
  obtain ⟨w1, p1, q1⟩ := ji_l (tg := tg) (je_var (ca := ca) (W := W) (pos := pos) i hN hv hd hcd)
  obtain ⟨w2, p2, q2⟩ := ji_t (tg := tg) (je_var (ca := ca) (W := W) (pos := pos) i hN hv hd hcd)
  refine ⟨fun σ H R => w1 σ H R ∨ w2 σ H R, ⟨fun pins s σ H R I h => h.elim (p1.run pins s σ H R I) (p2.run pins s σ H R I)⟩, fun as H σ env st R he hs hp => ?_⟩
  unfold iV at hp
  split at hp
  · rename_i ds e
    refine .inr (q2 as H σ env st R he hs ?_)
    unfold iT fVar
    rw [e]
    exact hp
  · rename_i ds e
    refine .inl (q1 as H σ env st R he hs ?_)
    unfold iL fVar
    rw [e]
    exact hp
  · rename_i ds e
    refine .inl (q1 as H σ env st R he hs ?_)
    unfold iL fVar
    rw [e]
    exact hp
  · exact hp.elim
/-! ### a target (a, (b, c)) -/
theorem gvs_nil : GvsS K ca gNil gNl := fun as H σ env st v d Q he hs hv hq => by
  cases hv with
  | nil => exact ⟨rfl, hq σ H (Step.refl _ _) hs he⟩
  | cons => exact False.elim hq
theorem gvs_cons {g : TG} {f : FG} {gs : TGs} {fs : FGs} (q : GvS K ca g f) (q2 : GvsS K ca gs fs) : GvsS K ca (gCons g gs) (gCn f fs) := fun as H σ env st v d Q he hs hv hq => by
  cases hv with
  | nil => exact False.elim hq
  | cons a1 a2 =>
    refine ⟨_, _, rfl, q as H σ env st _ _ _ he hs a1 ?_⟩
    unfold gCn at hq
    dsimp only at hq
    split at hq <;> rename_i e1
    · exact hq.elim
    · split at e1
      · cases e1
      · rename_i e2
        intro σ' H' s1 k1 he1
        refine q2 as H' σ' _ _ _ _ Q he1 k1 (a2.step s1) ?_
        rw [e1]
        exact fun σ2 H2 s2 k2 he2 => hq σ2 H2 (s1.trans s2) k2 he2
theorem gvs_tup {n : Nat} {gs : TGs} {fs : FGs} (q : GvsS K ca gs fs) : GvS K ca (gTup K n gs) (gTp n fs) := fun as H σ env st v d Q he hs hv hq => by
  cases hv <;> first | exact False.elim hq | skip
  rename_i a xs ds h1 h2
  unfold gTp at hq
  dsimp only at hq
  by_cases hl : ds.length = n
  · rw [if_pos hl] at hq
    exact ⟨_, _, rfl, ext_t (stab_sub _ _) h1, by rw [h2.len]; exact hl, q as H σ env st _ _ Q he hs h2 hq⟩
  · rw [if_neg hl] at hq
    exact hq.elim
theorem gvs_nest {i j l : Nat} : GvS K ca (gTup K 2 (gCons (gName i) (gCons (gTup K 2 (gCons (gName j) (gCons (gName l) gNil))) gNil))) (gTp 2 (gCn (gN i) (gCn (gTp 2 (gCn (gN j) (gCn (gN l) gNl))) gNl))) :=
  gvs_tup (gvs_cons gvs_name (gvs_cons (gvs_tup (gvs_cons gvs_name (gvs_cons gvs_name gvs_nil))) gvs_nil))
theorem own_nest {i j l n m : Nat} {vs : List Nat} (h : i ∈ vs) (h2 : j ∈ vs) (h3 : l ∈ vs) : OwnT (gTup K n (gCons (gName i) (gCons (gTup K m (gCons (gName j) (gCons (gName l) gNil))) gNil))) vs := fun v σ H Q ⟨a, xs, e1, e2, e3, v1, r1, e4, v2, r2, e5, a', xs', e6, e7, e8, v3, r3, e9, v4, r4, e10, e11, e12, q⟩ =>
  ⟨a, xs, e1, e2, e3, v1, r1, e4, v2, r2, e5, a', xs', e6, e7, e8, v3, r3, e9, v4, r4, e10, e11, e12, by rw [wipe_set h3, wipe_set h2, wipe_set h, wipe_wipe], q⟩
/-! ### x = [.. for .. in d.values()] on a row -/
variable {elt tst : Expr} {scope : Scope} {own : List (Str × Nat)} {ap cp np py spos : Pos} {gg : FG} {fe : F D} {ft : F Bool} {y : Str} {l : Nat}
theorem js_setLcVI {g : TG} (i : Nat) (hc : X.calm = true) (hN : X.N.Nodup) (hy : X.N[l]? = some y) (hyl : X.env.scope.names.lookup y = some .local) (hx : X.N[i]? = some x) (ok : BlkOk X.N X.env.scope scope own) (hg : ∀ (s : Shared) (H : Hp) (C : Addr) (cl : List (Str × Addr)) (fp : List Addr), PG (X.blk s H scope (compEnvC scope cl C X.env) fp) tg g) (hgs : GvS X.K ca g gg) (ho : OwnT g (own.map (·.2)))
    (ht : ∀ (s : Shared) (H : Hp) (C : Addr) (cl : List (Str × Addr)) (fp : List Addr), JT ca (X.blk s H scope (compEnvC scope cl C X.env) fp) W0 tst ft) (he : ∀ (s : Shared) (H : Hp) (C : Addr) (cl : List (Str × Addr)) (fp : List Addr), JE ca (X.blk s H scope (compEnvC scope cl C X.env) fp) W0 elt fe)
    (hv : Vis X.env.scope x := by first | exact Or.inl rfl | exact Or.inr (Or.inl rfl) | exact Or.inr (Or.inr rfl)) (hd : (x == ("__debug__" : Str)) = false := by decide) (hcd : (x == ("__classdict__" : Str)) = false := by decide)
    (hb : attributeBase (.Name x np) "values" X.env (eval (.Name x np) X.env) = eval (.Name x np) X.env := by rfl) (hl : (ap.endLine == cp.line) = true := by rfl) (hs : ∀ y, foldedSetIterable (.Call (.Attribute (.Name x np) "values" ap) [] [] cp) X.env y = pure y := by intro _; rfl)
    (hsw : swapsWith (.ListComp elt [⟨tg, .Call (.Attribute (.Name x np) "values" ap) [] [] cp, [tst], 0⟩] scope pos) (some (.Name y py)) spos.line X.env = pure true := by exact sw_true rfl rfl rfl (by decide +kernel)) :
    JS ca X W (.Assign [.Name y py] (.ListComp elt [⟨tg, .Call (.Attribute (.Name x np) "values" ap) [] [] cp, [tst], 0⟩] scope pos) spos) (sAsg l (fLcV i wkV gg ft fe (own.map (·.2)))) := by
  have q := lcV_is (W := W) (i := i) (mk := Itd) (wk := wkV) (gg := gg) (ft := ft) (fe := fe) itok_vals hgs ho (tvs_canon (K := X.K) (ca := ca) (W := W0) (ft := ft)) (evs_canon (K := X.K) (ca := ca) (W := W0) (f := fe))
  refine ⟨_, ps_lock (ps_setLc (te := teF X.K ca W0 fe) (tt := ttF X.K ca W0 ft) hc hN hy hyl hsw (pi_values (pe_var hx hv hd hcd) hb hl) ok hg (fun s H C cl fp => pts_one (jt_canon (ht s H C cl fp))) (fun s H C cl fp => je_canon (he s H C cl fp)) hs), fun as H σ env st E henv hst hp => ?_⟩
  exact q as H σ env st (fun v H' => E.nx (σ.set l (some v)) H') henv hst (PostS.bnd hp henv fun d st1 v as1 H1 s1 k1 i1 p1 => p1.here k1 ((henv.step s1).set l i1))
/-! ### list(range(n)) -/
def fListR (fa : F D) : F D := fun env st => bnd (fa env st) fun x st => match x with
  | .int n => if 0 ≤ n ∧ n ≤ 100000 then some (.ok (.lst (rng 0 n.toNat)) st) else none
  | _ => none
theorem rgs_is {as : Wl} {G : Hp} {n : Int} : IsDs K ca as G (rgV 0 n) (rng 0 n.toNat) := by
  unfold rgV rng
  rw [Int.sub_zero]
  generalize List.range n.toNat = l
  induction l with
  | nil => exact .nil
  | cons a l ih => exact .cons (.int _) ih
theorem je_listR {e : Expr} {fa : F D} {p1 p2 c2 : Pos} (hc : X.calm = true) (hg : Gl X "list") (hm : X.mg "list" = none) (hg2 : Gl X "range") (hm2 : X.mg "range" = none) (h : JE ca X W e fa) (na : starEach [e] X.env = (false, eval e X.env) :: starEach [] X.env := by rfl)
    (na2 : starEach [.Call (.Name "range" p2) [e] [] c2] X.env = (false, eval (.Call (.Name "range" p2) [e] [] c2) X.env) :: starEach [] X.env := by rfl) : JE ca X W (.Call (.Name "list" p1) [.Call (.Name "range" p2) [e] [] c2] [] pos) (fListR fa) := by
  obtain ⟨t, pt, q⟩ := h
  refine ⟨_, pe_listRg hc hg hm (prg_1 hg2 hm2 pt na) na2, fun as H σ env st Q he hs hp => ?_⟩
  refine q as H σ env st _ he hs (Post.bnd hp fun x st1 v as1 H1 s1 k1 i1 p1 => ?_)
  cases i1 <;> first | exact False.elim p1 | skip
  rename_i n
  dsimp only at p1
  by_cases hn : 0 ≤ n ∧ n ≤ 100000
  · rw [if_pos hn] at p1
    exact ⟨n, rfl, RgOk.of_le (Int.le_refl 0) (by omega) (by decide) hn.1, fun r hr => p1 _ as1 _ (Step.laid hr) (k1.laid hr) (.lst (stab_laid k1 hr) rgs_is)⟩
  · rw [if_neg hn] at p1
    exact p1.elim
end
end DS

namespace DS
open PySem L2 PySem.Spec PyProof.Rows
/-! ### {e for t0 in i0 if .. for t1 in i1 if ..}, e a whole number -/
abbrev twoC (e t0 i0 t1 i1 : Expr) (f0 f1 : List Expr) (sc : Scope) (q : Pos) : Expr := .SetComp e [⟨t0, i0, f0, 0⟩, ⟨t1, i1, f1, 0⟩] sc q
abbrev testsOf (fs : List Expr) (env : Env) : Sem Bool := forIn fs true fun c r => if r = true then do let ok ← isTrue c env (eval c env); pure (ForInStep.yield ok) else pure (ForInStep.yield r)
section
variable {P : Program} {W : World} {A : Around} {R : Result → Shared → Prop} {z : Shared} {e t0 i0 t1 i1 : Expr} {f0 f1 : List Expr} {sc : Scope} {q : Pos} {it acc : Value} {env : Env}
theorem twoC_turn0 : compTurn (twoC e t0 i0 t1 i1 f0 f1 sc q) 0 it acc env = (do
      standAt i0.pos
      match ← pyNext it with
      | none => pure (.done .next)
      | some v =>
        letOwnedTupleGo t0 it v
        assign t0 env v
        let mut go := true
        for c in f0 do
          if go then go ← isTrue c env (eval c env)
        if go then
          let src ← eval i1 env
          standAt i1.pos
          let src ← foldedSetIterable i1 env src
          let _ ← runOwn (.compStart (twoC e t0 i0 t1 i1 f0 f1 sc q) 1 (← holding [src] (pyIter src)) acc env) env
        again (.compLoop (twoC e t0 i0 t1 i1 f0 f1 sc q) 0 it acc env)) := by rfl
theorem twoC_turn1 : compTurn (twoC e t0 i0 t1 i1 f0 f1 sc q) 1 it acc env = (do
      standAt i1.pos
      match ← pyNext it with
      | none => pure (.done .next)
      | some v =>
        letOwnedTupleGo t1 it v
        assign t1 env v
        let mut go := true
        for c in f1 do
          if go then go ← isTrue c env (eval c env)
        if go then
          (do let y ← eval e env; standAt e.pos; let _ ← call (.builtin "set.add") [acc, y])
        again (.compLoop (twoC e t0 i0 t1 i1 f0 f1 sc q) 1 it acc env)) := by rfl
theorem twoC_loop0 (fold : ∀ x, foldedSetIterable i1 env x = pure x) (J : Nat → Shared → Prop)
    (turn : ∀ n z, J n z → wpAny (model P W) A (pyNext it) (fun r z1 => match r with
      | none => R (.ok .next) z1
      | some v => wpAny (model P W) A (letOwnedTupleGo t0 it v) (fun _ z2 => wpAny (model P W) A (assign t0 env v) (fun _ z3 => wpAny (model P W) A (testsOf f0 env) (fun b z4 =>
          if b = true then wpAny (model P W) A (eval i1 env) (fun x z5 => wpAny (model P W) A (pyIter x) (fun it1 z6 =>
            codeAny (model P W) A (.compStart (twoC e t0 i0 t1 i1 f0 f1 sc q) 1 it1 acc env) (fun r z' => match r with
              | .ok _ => ∃ m, m < n ∧ J m z'
              | .error _ => False) z6) (notedBy (model P W) A env fun x z' => R (.error x) z') z5) (notedBy (model P W) A env fun x z' => R (.error x) z') z4
          else ∃ m, m < n ∧ J m z4) (notedBy (model P W) A env fun x z' => R (.error x) z') z3) (notedBy (model P W) A env fun x z' => R (.error x) z') z2) (notedBy (model P W) A env fun x z' => R (.error x) z') z1) (notedBy (model P W) A env fun x z' => R (.error x) z') z)
    (n : Nat) (h : J n z) : codeAny (model P W) A (.compLoop (twoC e t0 i0 t1 i1 f0 f1 sc q) 0 it acc env) R z := by
  refine codeAny_loop rfl J (fun n z hJ => wpAny_noted (?_ : wpAny _ A (compTurn (twoC e t0 i0 t1 i1 f0 f1 sc q) 0 it acc env) _ _ z)) n h
  rw [twoC_turn0]
  refine wpAny_bind (wpAny_standAt (wpAny_bind (wpAny_mono (turn n z hJ) (fun r z1 h1 => ?_) fun _ _ k => k)))
  cases r with
  | none => exact wpAny_pure h1
  | some v =>
    refine wpAny_bind (wpAny_mono h1 (fun _ z2 h2 => wpAny_bind (wpAny_mono h2 (fun _ z3 h3 => wpAny_bind (wpAny_mono h3 (fun b z4 h4 => ?_) fun _ _ k => k)) fun _ _ k => k)) fun _ _ k => k)
    cases b with
    | false => exact wpAny_pure ⟨rfl, h4⟩
    | true =>
      refine wpAny_bind (wpAny_mono h4 (fun x z5 h5 => wpAny_bind (wpAny_standAt (wpAny_bind (wpAny_of_eq (fold x) (wpAny_bind (wpAny_holding (wpAny_mono h5 (fun it1 z6 h6 => ?_) fun _ _ k => k))))))) fun _ _ k => k)
      refine wpAny_bind (wpAny_runOwn ?_)
      rw [Around.mark_none]
      refine codeAny_mono h6 fun r z' hr => ?_
      cases r with
      | error x => exact hr.elim
      | ok f =>
        first
          | exact wpAny_pure ⟨rfl, hr⟩
          | exact wpAny_bind (wpAny_pure (wpAny_pure ⟨rfl, hr⟩))
theorem twoC_loop1 (J : Nat → Shared → Prop)
    (turn : ∀ n z, J n z → wpAny (model P W) A (pyNext it) (fun r z1 => match r with
      | none => R (.ok .next) z1
      | some v => wpAny (model P W) A (letOwnedTupleGo t1 it v) (fun _ z2 => wpAny (model P W) A (assign t1 env v) (fun _ z3 => wpAny (model P W) A (testsOf f1 env) (fun b z4 =>
          if b = true then wpAny (model P W) A (eval e env) (fun x z5 => wpAny (model P W) A (call (.builtin "set.add") [acc, x]) (fun _ z6 => ∃ m, m < n ∧ J m z6) (notedBy (model P W) A env fun x z' => R (.error x) z') z5) (notedBy (model P W) A env fun x z' => R (.error x) z') z4
          else ∃ m, m < n ∧ J m z4) (notedBy (model P W) A env fun x z' => R (.error x) z') z3) (notedBy (model P W) A env fun x z' => R (.error x) z') z2) (notedBy (model P W) A env fun x z' => R (.error x) z') z1) (notedBy (model P W) A env fun x z' => R (.error x) z') z)
    (n : Nat) (h : J n z) : codeAny (model P W) A (.compLoop (twoC e t0 i0 t1 i1 f0 f1 sc q) 1 it acc env) R z := by
  refine codeAny_loop rfl J (fun n z hJ => wpAny_noted (?_ : wpAny _ A (compTurn (twoC e t0 i0 t1 i1 f0 f1 sc q) 1 it acc env) _ _ z)) n h
  rw [twoC_turn1]
  refine wpAny_bind (wpAny_standAt (wpAny_bind (wpAny_mono (turn n z hJ) (fun r z1 h1 => ?_) fun _ _ k => k)))
  cases r with
  | none => exact wpAny_pure h1
  | some v =>
    refine wpAny_bind (wpAny_mono h1 (fun _ z2 h2 => wpAny_bind (wpAny_mono h2 (fun _ z3 h3 => wpAny_bind (wpAny_mono h3 (fun b z4 h4 => ?_) fun _ _ k => k)) fun _ _ k => k)) fun _ _ k => k)
    cases b with
    | false => exact wpAny_pure ⟨rfl, h4⟩
    | true =>
      exact wpAny_bind (wpAny_bind (wpAny_mono h4 (fun x z5 h5 => wpAny_bind (wpAny_standAt (wpAny_bind (wpAny_mono h5 (fun _ z6 h6 => wpAny_pure (wpAny_pure ⟨rfl, h6⟩)) fun _ _ k => k)))) fun _ _ k => k))
theorem twoC_start1 (h0 : codeAny (model P W) A (.compLoop (twoC e t0 i0 t1 i1 f0 f1 sc q) 1 it acc env) R z)
    (h : wpAny (model P W) A (pyIter it) (fun it' z' => codeAny (model P W) A (.compLoop (twoC e t0 i0 t1 i1 f0 f1 sc q) 1 it' acc env) R z') (notedBy (model P W) A env fun x z' => R (.error x) z') z) :
    codeAny (model P W) A (.compStart (twoC e t0 i0 t1 i1 f0 f1 sc q) 1 it acc env) R z := by
  refine codeAny_of_tree (wpAny_notedAt (?_ : wpAny _ _ (compStart (twoC e t0 i0 t1 i1 f0 f1 sc q) 1 it acc env) _ _ z))
  unfold compStart
  show wpAny _ _ (ask >>= _) _ _ z
  refine wpAny_bind (wpAny_askSetting (wpAny_ite ?_))
  split
  · first
      | exact wpAny_pure ⟨rfl, h0⟩
      | exact wpAny_bind (wpAny_pure (wpAny_pure ⟨rfl, h0⟩))
  · refine wpAny_bind (wpAny_rule ?_)
    show wpAny _ _ (standAt i1.pos >>= _) _ _ z
    exact wpAny_bind (wpAny_standAt (wpAny_bind (wpAny_mono h (fun it' z' k => wpAny_pure ⟨rfl, k⟩) fun _ _ k => k)))
end
/-- the set is at D; vs: the block's names, vs1: those of the second target -/
def tSc2 (w : World) (wi : TI) (g : TG) (tt : TT) (wi1 : TI) (g1 : TG) (tt1 : TT) (te : TE) (vs vs1 : List Nat) : TE := fun σ G Q => wi σ G fun J G1 => ∀ D, G1 D = none →
  ∃ Wp : Nat → Nat → Hp → Prop, (∃ m, Wp 0 m (upd G1 D (SetO w D (fun _ => false) 0))) ∧ ∀ i m G, Wp i m G → (J.stop i G ∧ Q (.ref D) G) ∨
    (J.go i G ∧ ∃ Nx : Hp → Prop, (∀ G', Nx G' → ∃ m', m' < m ∧ Wp (i + 1) m' G') ∧ ∀ x G', J.yld i G x G' → g x (wipe σ vs) G' fun σ2 G2 => wipe σ2 vs = wipe σ vs ∧ tt σ2 G2 fun b G3 =>
      if b = true then wi1 σ2 G3 fun J1 G4 => ∃ Wq : Nat → Nat → Hp → Prop, (∃ m, Wq 0 m G4) ∧ ∀ j k G, Wq j k G → (J1.stop j G ∧ Nx G) ∨
        (J1.go j G ∧ ∃ Ny : Hp → Prop, (∀ G', Ny G' → ∃ k', k' < k ∧ Wq (j + 1) k' G') ∧ ∀ x G', J1.yld j G x G' → g1 x (wipe σ2 vs1) G' fun σ3 G5 => wipe σ3 vs1 = wipe σ2 vs1 ∧ tt1 σ3 G5 fun b G6 =>
          if b = true then te σ3 G6 fun y G7 => ∃ (k0 : Int) (S : Int → Bool) (n : Nat), y = .int k0 ∧ G7 D = some (SetO w D S n) ∧ n + 1 < scanBound ∧ Ny (upd G7 D (SetO w D (fun j => S j || decide (j = k0)) (if S k0 = true then n else n + 1))) else Ny G6)
      else Nx G3)
section
variable {X : Cx} {e t0 i0 t1 i1 : Expr} {f0 f1 : List Expr} {sc : Scope} {own : List (Str × Nat)} {vs1 : List Nat} {q q2 : Pos} {wi wi1 : TI} {g g1 : TG} {tt tt1 : TT} {te : TE}
theorem set_put {pins : List (Addr × Obj)} {σ : L2.St} {G : Hp} {z : Shared} {E : Value → Shared → Prop} {D : Addr} {S : Int → Bool} {n : Nat} {k : Int} {u : Value} {Q : Value → Shared → Prop} (I : Inv X pins σ G z) (hu : RelV (.int k) u) (hD : G D = some (SetO X.w D S n)) (room : n + 1 < scanBound)
    (h : ∀ z', Inv X pins σ (upd G D (SetO X.w D (fun j => S j || decide (j = k)) (if S k = true then n else n + 1))) z' → Q .none z') : wpAny (model X.prog X.w) X.A (call (.builtin "set.add") [.ref D, u]) Q E z := by
  obtain ⟨tk, rfl⟩ := hu
  refine setR_add (setO_get I hD) room fun h2 sb new => h _ (I.write (e := D) (t' := z.toks + 1) (by rw [hD]; trivial) (.inl rfl) (fun b o nb ho => (sb.2 b nb).trans ho) ?_ (setO_new new))
  have ⟨o, _, _, _, ho, _⟩ := new
  exact ⟨o, ho⟩
theorem pe_sc2 (calm : X.calm = true) (nd : X.N.Nodup) (hi : PI X t0 i0 wi) (ok : BlkOk X.N X.env.scope sc own) (sub : ∀ i ∈ vs1, i ∈ own.map (·.2))
    (hg : ∀ (s : Shared) (H : Hp) (C : Addr) (cl : List (Str × Addr)) (fp : List Addr), PG (X.blk s H sc (compEnvC sc cl C X.env) fp) t0 g) (ht : ∀ (s : Shared) (H : Hp) (C : Addr) (cl : List (Str × Addr)) (fp : List Addr), PTs (X.blk s H sc (compEnvC sc cl C X.env) fp) f0 tt)
    (hi1 : ∀ (s : Shared) (H : Hp) (C : Addr) (cl : List (Str × Addr)) (fp : List Addr), PI (X.blk s H sc (compEnvC sc cl C X.env) fp) t1 i1 wi1)
    (hg1 : ∀ (s : Shared) (H : Hp) (C : Addr) (cl : List (Str × Addr)) (fp : List Addr), PG (X.blk s H sc (compEnvC sc cl C X.env) fp) t1 g1) (ht1 : ∀ (s : Shared) (H : Hp) (C : Addr) (cl : List (Str × Addr)) (fp : List Addr), PTs (X.blk s H sc (compEnvC sc cl C X.env) fp) f1 tt1)
    (he : ∀ (s : Shared) (H : Hp) (C : Addr) (cl : List (Str × Addr)) (fp : List Addr), PE (X.blk s H sc (compEnvC sc cl C X.env) fp) e te) (fold0 : ∀ x, foldedSetIterable i0 X.env x = pure x := by intro _; rfl) (fold1 : ∀ env x, foldedSetIterable i1 env x = pure x := by intro _ _; rfl) :
    PE X (twoC e t0 i0 t1 i1 f0 f1 sc q) (tSc2 X.w wi g tt wi1 g1 tt1 te (own.map (·.2)) vs1) := ⟨fun pins s σ G Q I h => by
  have cellsOf : ∀ y ∈ sc.names, y.2 = .free → ∃ c, X.env.cells.lookup y.1 = some c := fun y hy z => I.ok.has _ (ok.free y hy z)
  rw [PpSet.eval_SetComp]
  refine wpAny_comprehension_free (use := none) rfl fold0 (closure_ok cellsOf) ok.kind (fun y hy z => by rw [ok.uniq y hy, z]) (thn (hi.run pins s σ G _ I h) fun _ s1 a => thn a fun _ s2 b => ?_)
  obtain ⟨it, fp, tn, J, G2, rfl, I2, T, at0, free2, rest⟩ := b
  refine PpSet.newSet_ok (newEnv_comp ?_)
  have nD : G2 s2.heap.objs.size = none := I2.hok.fresh (Nat.le_refl _)
  obtain ⟨Wp, ⟨m0, w0⟩, turns⟩ := rest _ nD
  generalize es3 : ({ s2 with heap := s2.heap.push { cls := .type "set", dict := none, data := .set #[] 0 (.fresh 0 0 (!X.w.params.followText "set-order")) } } : Shared) = s3
  have h3 : s3.heap = s2.heap.push { cls := .type "set", dict := none, data := .set #[] 0 (.fresh 0 0 (!X.w.params.followText "set-order")) } := by rw [← es3]
  have I3 : Inv X pins σ (upd G2 s2.heap.objs.size (SetO X.w s2.heap.objs.size (fun _ => false) 0)) s3 := by
    rw [← es3]
    exact I2.laid (t' := s2.toks) (fun b o z => Heap.get?_push_of_some _ z) (Nat.le_refl _) (setO_new (setR_fresh X.w))
  have old : ∀ b ∈ fp, b < s2.heap.objs.size := fun b hb => Heap.lt_size (T.obj _ _ at0 b hb).choose_spec.1
  have free3 : ∀ b ∈ fp, FpOk X pins (upd G2 s2.heap.objs.size (SetO X.w s2.heap.objs.size (fun _ => false) 0)) b ∧ b < s3.heap.objs.size := fun b hb =>
    ⟨⟨(upd_ne (Nat.ne_of_lt (old b hb))).trans (free2 b hb).1, (free2 b hb).2⟩, by rw [h3, Heap.size_push]; exact Nat.lt_succ_of_lt (old b hb)⟩
  generalize eD : s2.heap.objs.size = D at *
  have at3 : tn 0 s3.heap := T.keep _ _ _ at0 fun b _ o z => by rw [h3]; exact Heap.get?_push_of_some _ z
  have I4 := block_start I3 ok nd free3
  show codeAny _ _ (.compStart (twoC e t0 i0 t1 i1 f0 f1 sc q) 0 (.ref it) (.ref D) (compEnvC sc (cellsFrom (s3.heap.objs.size + 1) sc.names (cloFrom X.env.cells sc.names [])) s3.heap.objs.size X.env)) (compPost (model X.prog X.w) X.A X.xe none (EP X pins σ Q) (.ref D) s3.heap.objs.size) { s3 with heap := pushCells (s3.heap.push { cls := .type "dict", data := .dict #[] }) sc.names }
  generalize eG3 : upd G2 D (SetO X.w D (fun _ => false) 0) = G3 at *
  have g_ := hg s3 G3 s3.heap.objs.size (cellsFrom (s3.heap.objs.size + 1) sc.names (cloFrom X.env.cells sc.names [])) fp
  have t_ := ht s3 G3 s3.heap.objs.size (cellsFrom (s3.heap.objs.size + 1) sc.names (cloFrom X.env.cells sc.names [])) fp
  have i_ := hi1 s3 G3 s3.heap.objs.size (cellsFrom (s3.heap.objs.size + 1) sc.names (cloFrom X.env.cells sc.names [])) fp
  have g1_ := hg1 s3 G3 s3.heap.objs.size (cellsFrom (s3.heap.objs.size + 1) sc.names (cloFrom X.env.cells sc.names [])) fp
  have t1_ := ht1 s3 G3 s3.heap.objs.size (cellsFrom (s3.heap.objs.size + 1) sc.names (cloFrom X.env.cells sc.names [])) fp
  have e_ := he s3 G3 s3.heap.objs.size (cellsFrom (s3.heap.objs.size + 1) sc.names (cloFrom X.env.cells sc.names [])) fp
  generalize ece : compEnvC sc (cellsFrom (s3.heap.objs.size + 1) sc.names (cloFrom X.env.cells sc.names [])) s3.heap.objs.size X.env = ce at *
  have loc : ce.locals = s3.heap.objs.size := by rw [← ece]; rfl
  generalize es4 : ({ s3 with heap := pushCells (s3.heap.push { cls := .type "dict", data := .dict #[] }) sc.names } : Shared) = s4 at *
  have at4 : tn 0 s4.heap := T.keep _ _ _ at3 fun b _ o z => by rw [← es4]; exact pushCells_keeps _ _ _ _ (Heap.get?_push_of_some _ z)
  have still : ∀ {σ' : L2.St} {G' : Hp} {s' : Shared}, Inv (X.blk s3 G3 sc ce fp) [] σ' G' s' → (∀ b ∈ fp, G' b = none) → ∀ b ∈ fp, FpOk (X.blk s3 G3 sc ce fp) [] G' b := fun {σ' G' s'} I' none_ b hb =>
    ⟨none_ b hb, (I'.ok.exf b hb).1, I'.ok.exfs b hb, .inl hb, fun x c z => (I'.ok.exf b hb).2 x c z, fun p hp => absurd (show p ∈ ([] : List (Addr × Obj)) ++ [] from hp) (by simp)⟩
  have outer : codeAny (model X.prog X.w) X.A (.compLoop (twoC e t0 i0 t1 i1 f0 f1 sc q) 0 (.ref it) (.ref D) ce) (compPost (model X.prog X.w) X.A X.xe none (EP X pins σ Q) (.ref D) s3.heap.objs.size) s4 := by
    refine twoC_loop0 (fold1 ce) (fun n s' => ∃ i G', Inv (X.blk s3 G3 sc ce fp) [] (wipe σ (own.map (·.2))) G' s' ∧ tn i s'.heap ∧ (∀ b ∈ fp, G' b = none) ∧ Wp i n G') ?_ m0 ⟨0, G3, I4, at4, fun b hb => (free3 b hb).1.1, w0⟩
    rintro n s5 ⟨i, G5, I5, at5, n5, w5⟩
    rcases turns i n G5 w5 with ⟨stop, fin⟩ | ⟨go, Nx, dec, one⟩
    · refine thnF (T.done (X.blk s3 G3 sc ce fp) rfl rfl rfl calm i [] s5 _ G5 (fun _ _ => False) I5 (still I5 n5) at5 stop) fun r s6 ⟨er, I6⟩ => ?_
      subst er
      have I7 : Inv X pins σ G5 s6 := I3.call' (ch := fp) I6.os I6.base I6.hok I6.bare fun b hb => let z := (free3 b hb).1.2; ⟨z.2.2.1, z.1, z.2.2.2.1, z.2.2.2.2⟩
      have nC : G5 s3.heap.objs.size = none := loc ▸ (I6.free : G5 ce.locals = none)
      obtain ⟨m, hn, _⟩ := I6.loc
      have hn' : s6.heap.Ns s3.heap.objs.size m := loc ▸ (hn : s6.heap.Ns ce.locals m)
      refine ⟨m, hn', fun h'' sb => ?_⟩
      obtain ⟨f0', f1', f2', f3', f4', f5'⟩ := I3.fpOk (Nat.le_refl _) nC
      exact ⟨.ref D, G5, I7.turned (t' := s6.toks) (fun b o hb z => (sb.2 b hb).trans z) f0' f1' f3' f4' f5', rfl, fin⟩
    · refine thnF (T.item (X.blk s3 G3 sc ce fp) rfl rfl rfl calm i [] s5 _ G5 (fun _ _ => False) I5 (still I5 n5) at5 go) fun r s6 ⟨u, er, a6⟩ => ?_
      subst er
      refine thnF a6 fun _ s7 ⟨x, G7, I7, r7, y7, at7, n7⟩ => ?_
      refine thnF (g_.run _ s7 _ G7 x u _ (I7.pinned (still I7 n7) (T.obj _ _ at7)) r7 (one x G7 y7)) fun _ s8 ⟨σ8, G8, I8, wip8, q8⟩ => ?_
      refine thnF (t_.run _ s8 σ8 G8 _ I8 q8) fun b s9 ⟨G9, I9, q9⟩ => ?_
      have back : ∀ {σ9 : L2.St} {s' : Shared} {G' : Hp}, Inv (X.blk s3 G3 sc ce fp) ([] ++ pinsAt fp s7.heap) σ9 G' s' → (wipe σ (own.map (·.2))).length = σ9.length → (∀ (j : Nat) v, (wipe σ (own.map (·.2)))[j]? = some (some v) → σ9[j]? = some (some v)) → Nx G' →
          ∃ m, m < n ∧ ∃ i G', Inv (X.blk s3 G3 sc ce fp) [] (wipe σ (own.map (·.2))) G' s' ∧ tn i s'.heap ∧ (∀ b ∈ fp, G' b = none) ∧ Wp i m G' := fun {σ9 s' G'} I' ll kk nx => by
        obtain ⟨m', lt, w'⟩ := dec G' nx
        have pin : ∀ b ∈ fp, ∀ o, s7.heap.get? b = some o → s'.heap.get? b = some o ∧ G' b = none := fun b hb o z =>
          let y := I'.pin (b, o) (List.mem_append_right _ (List.mem_append_right _ (mem_pinsAt hb z)))
          ⟨y.1, y.2.1⟩
        exact ⟨m', lt, i + 1, G', (I'.unpinned (pins := [])).weak ll kk, T.keep _ _ _ at7 fun b hb o z => (pin b hb o z).1, fun b hb => (pin b hb _ (T.obj _ _ at7 b hb).choose_spec.1).2, w'⟩
      have l8 : (wipe σ (own.map (·.2))).length = σ8.length := by rw [← wip8, wipe_length]
      have k8 : ∀ (j : Nat) v, (wipe σ (own.map (·.2)))[j]? = some (some v) → σ8[j]? = some (some v) ∧ j ∉ own.map (·.2) := fun j v z => wipe_some (wip8 ▸ z)
      cases b with
      | false => exact back I9 l8 (fun j v z => (k8 j v z).1) (by simpa using q9)
      | true =>
        simp only [if_true] at q9 ⊢
        refine thnF (i_.run _ s9 σ8 G9 _ I9 q9) fun _ s10 a => thnF a fun _ s11 b => ?_
        obtain ⟨it1, fp1, tn1, J1, G11, rfl, I11, T1, at11, free11, Wq, ⟨m1, w1⟩, turns1⟩ := b
        have still1 : ∀ {G' : Hp}, (∀ b ∈ fp1, G' b = none) → ∀ b ∈ fp1, FpOk (X.blk s3 G3 sc ce fp) ([] ++ pinsAt fp s7.heap) G' b := fun none_ b hb => ⟨none_ b hb, (free11 b hb).2⟩
        have inner : codeAny (model X.prog X.w) X.A (.compLoop (twoC e t0 i0 t1 i1 f0 f1 sc q) 1 (.ref it1) (.ref D) ce)
            (fun r s' => match r with
              | .ok _ => ∃ m, m < n ∧ ∃ i G', Inv (X.blk s3 G3 sc ce fp) [] (wipe σ (own.map (·.2))) G' s' ∧ tn i s'.heap ∧ (∀ b ∈ fp, G' b = none) ∧ Wp i m G'
              | .error _ => False) s11 := by
          refine twoC_loop1 (fun k s' => ∃ j G', Inv (X.blk s3 G3 sc ce fp) ([] ++ pinsAt fp s7.heap) (wipe σ8 vs1) G' s' ∧ tn1 j s'.heap ∧ (∀ b ∈ fp1, G' b = none) ∧ Wq j k G') ?_ m1 ⟨0, G11, I11.weak (wipe_length _ _) (fun j v z => (wipe_some z).1), at11, fun b hb => (free11 b hb).1, w1⟩
          rintro k s12 ⟨j, G12, I12, at12, n12, w12⟩
          rcases turns1 j k G12 w12 with ⟨stop1, nx1⟩ | ⟨go1, Ny, dec1, one1⟩
          · refine thnF (T1.done (X.blk s3 G3 sc ce fp) rfl rfl rfl calm j _ s12 (wipe σ8 vs1) G12 (fun _ _ => False) I12 (still1 n12) at12 stop1) fun r s13 ⟨er, I13⟩ => ?_
            subst er
            exact back I13 (l8.trans (wipe_length σ8 vs1).symm) (fun j v z => by
              obtain ⟨z1, z2⟩ := k8 j v z
              rw [wipe_out fun y => z2 (sub j y)]
              exact z1) nx1
          · refine thnF (T1.item (X.blk s3 G3 sc ce fp) rfl rfl rfl calm j _ s12 (wipe σ8 vs1) G12 (fun _ _ => False) I12 (still1 n12) at12 go1) fun r s13 ⟨u1, er, a13⟩ => ?_
            subst er
            refine thnF a13 fun _ s14 ⟨x1, G14, I14, r14, y14, at14, n14⟩ => ?_
            refine thnF (g1_.run _ s14 (wipe σ8 vs1) G14 x1 u1 _ (I14.pinned (still1 n14) (T1.obj _ _ at14)) r14 (one1 x1 G14 y14)) fun _ s15 ⟨σ15, G15, I15, wip15, q15⟩ => ?_
            refine thnF (t1_.run _ s15 σ15 G15 _ I15 q15) fun b1 s16 ⟨G16, I16, q16⟩ => ?_
            have back1 : ∀ {s' : Shared} {G' : Hp}, Inv (X.blk s3 G3 sc ce fp) (([] ++ pinsAt fp s7.heap) ++ pinsAt fp1 s14.heap) σ15 G' s' → Ny G' → ∃ m, m < k ∧ ∃ j G', Inv (X.blk s3 G3 sc ce fp) ([] ++ pinsAt fp s7.heap) (wipe σ8 vs1) G' s' ∧ tn1 j s'.heap ∧ (∀ b ∈ fp1, G' b = none) ∧ Wq j m G' := fun {s' G'} I' nx => by
              obtain ⟨m', lt, w'⟩ := dec1 G' nx
              have pin : ∀ b ∈ fp1, ∀ o, s14.heap.get? b = some o → s'.heap.get? b = some o ∧ G' b = none := fun b hb o z =>
                let y := I'.pin (b, o) (List.mem_append_right _ (List.mem_append_right _ (mem_pinsAt hb z)))
                ⟨y.1, y.2.1⟩
              exact ⟨m', lt, j + 1, G', I'.unpinned.weak (by rw [← wip15, wipe_length]) (fun j v z => (wipe_some (wip15 ▸ z)).1), T1.keep _ _ _ at14 fun b hb o z => (pin b hb o z).1, fun b hb => (pin b hb _ (T1.obj _ _ at14 b hb).choose_spec.1).2, w'⟩
            cases b1 with
            | false => exact back1 I16 (by simpa using q16)
            | true =>
              simp only [if_true] at q16 ⊢
              refine thnF (e_.run _ s16 σ15 G16 _ I16 q16) fun v s17 ⟨yv, G17, I17, r17, k0, S, n0, ey, inD, room, nx⟩ => ?_
              subst ey
              exact set_put (X := X.blk s3 G3 sc ce fp) I17 r17 inD room fun s18 I18 => back1 I18 nx
        exact twoC_start1 inner (T1.self X.A 0 _ _ _ at11 inner)
  exact PpSet.codeAny_compStart_set outer (T.self X.A 0 _ _ _ at4 outer)⟩
end
end DS

namespace DS
open PySem L2 PySem.Spec PyProof.Rows
/-! ### a set of whole numbers, sorted, of any size within the model's bound for sets -/
theorem asc_strict {l : List Int} (h : l.Pairwise (· ≤ ·)) (d : l.Nodup) : l.Pairwise (· < ·) := (h.and d).imp fun {x y} q => by
  have q1 := q.1
  have q2 := q.2
  omega
theorem ints_back {vs : List Value} : (∀ v ∈ vs, ∃ k tk, v = Value.int k tk) → IntsAre vs (vs.map Builtin.Re.reRawOf) := by
  induction vs with
  | nil => exact fun _ => .nil
  | cons v vs ih =>
    intro h
    obtain ⟨k, tk, e⟩ := h v (.head _)
    rw [e]
    exact .cons k tk (ih fun u hu => h u (.tail _ hu))
/-- what is known of the sorted list -/
structure SetOut (s s' : Shared) (p : Addr) (S : Int → Bool) (n : Nat) (out : Array Value) (ns : List Int) : Prop where
  keep : ∀ b o, s.heap.get? b = some o → s'.heap.get? b = some o
  gens : s'.gens = s.gens
  os : s'.os = s.os
  new : s.heap.objs.size ≤ p
  at_ : ∃ c, s'.heap.get? p = some (seqObj "list" out c)
  are : IntsAre out.toList ns
  asc : ns.Pairwise (· < ·)
  mem : ∀ k, k ∈ ns ↔ S k = true
  len : ns.length = n
section
variable {P : Program} {w : World} {A : Around} {E : Value → Shared → Prop} {s : Shared} {a : Addr}
theorem set_sorts {S : Int → Bool} {n : Nat} {Q : Value → Shared → Prop} (R : SetR w s.heap a S n) (hh : A.handled = none) (hn : n ≤ sizeLine) (h : ∀ s' p out ns, SetOut s s' p S n out ns → Q (.ref p) s') : wpAny (model P w) A (call (.builtin "sorted") [.ref a]) Q E s := by
  obtain ⟨o, es, ep, t, at1, ex, dt, each, nd, mem, few, fit, cnt, ris, led⟩ := R
  refine Calls.call_function_entry kind_sorted plain_sorted entry_sorted (args_sorted1 _) (?_ : wpAny _ _ (Builtin.«sorted» _) _ _ _)
  unfold Builtin.«sorted»
  refine wpAny_bind (wpAny_pure (?_ : wpAny _ _ _ _ _ _))
  refine wpAny_bind (collect_set (es := es) (t := t) (A := A.in1) hh ⟨o, at1, ex.1, dt⟩ fit few ris led fun s1 vs keep1 size1 gens1 os1 perm1 => ?_)
  have len0 : vs.length = n := by rw [perm1.length_eq, List.length_map, Array.length_toList, cnt]
  have len1 : vs.length ≤ sizeLine := len0 ▸ hn
  have are1 := ints_back (vs := vs) fun v hv => by
    obtain ⟨e, he, q⟩ := List.mem_map.mp (perm1.mem_iff.mp hv)
    obtain ⟨k, tk, h1, _⟩ := each e he
    exact ⟨k, tk, q ▸ h1⟩
  have keys1 : (vs.map Builtin.Re.reRawOf).Perm (es.toList.map keyOf) := by
    have q := perm1.map Builtin.Re.reRawOf
    rwa [List.map_map] at q
  refine wpAny_bind (wpAny_newList ?_ len1)
  have new1 : (s1.heap.push (seqObj "list" vs.toArray 0)).get? s1.heap.objs.size = some (seqObj "list" vs.toArray 0) := Heap.get?_push_size _ rfl
  refine wpAny_bind (wpAny_holding (wpAny_call_entry slot_list_sort ⟨_, new1, rfl⟩ entry_list_sort (list_sort_treeAny new1 are1 len1 fun out ns are2 perm2 asc2 => ⟨.none, rfl, wpAny_pure ⟨_, rfl, ?_⟩⟩) (args_list_sort _)))
  have pm := perm2.trans keys1
  refine h _ s1.heap.objs.size out ns ⟨fun b u e => ?_, gens1, os1, size1, sortedHeap_at new1, are2, asc_strict asc2 (pm.nodup_iff.mpr nd), fun k => by rw [pm.mem_iff, ← mem k], by rw [pm.length_eq, List.length_map, Array.length_toList, cnt]⟩
  have e1 := keep1 b u e
  have lt1 := Heap.lt_size e1
  have ne1 : b ≠ s1.heap.objs.size := Nat.ne_of_lt lt1
  exact (sortedHeap_old ne1 (by rw [size_push']; exact Nat.lt_succ_of_lt lt1)).trans (Heap.get?_push_of_some _ e1)
end
/-- sorted(x), x a set of whole numbers -/
def rSetSort (w : World) : List V → Hp → VK → Prop := fun vs H Q => ∃ a S n, vs = [V.ref a] ∧ H a = some (SetO w a S n) ∧ n ≤ 4096 ∧ ∀ (ns : List Int) (p : Addr), ns.Pairwise (· < ·) → (∀ k : Int, k ∈ ns ↔ S k = true) → H p = none → Q (.ref p) (upd H p (.lst (ns.map V.int)))
theorem cr_setSort {X : Cx} (hc : X.calm = true) : CallR X (.builtin "sorted") (rSetSort X.w) := by
  intro pins s σ H vs us Q I r hq
  obtain ⟨a, S, n, rfl, ha, hn, q⟩ := hq
  have sl := sizeLine_eq
  rw [Vals.ref1 r]
  refine set_sorts (setO_get I ha) (I.ok.hd hc) (by omega) fun s' p out ns O => ?_
  obtain ⟨c, hp⟩ := O.at_
  have fr : H p = none := I.hok.fresh O.new
  have ln : (ns.map V.int).length ≤ sizeLine := by
    rw [List.length_map, O.len]
    omega
  have J : Inv X pins σ (upd H p (.lst (ns.map V.int))) s' := I.call' (ch := []) O.os (Un.laid O.keep O.new fr) (I.hok.laid O.keep O.new ⟨ln, out.toList, c, vals_of_ints O.are, hp⟩) (by rw [O.gens]; exact I.bare) (fun _ z => nomatch z)
  exact ⟨.ref p, _, J, rfl, q ns p O.asc O.mem fr⟩
end DS

namespace DS
open PySem L2 PySem.Spec PyProof.Rows
/-! ### sorted({e for a in x for b in y if t}), x and y lists by their names, nothing is changed within -/
def scIn (v : Nat) (t : F Bool) (fe : F D) (env1 : Evn) : List D → List Int → Option (List Int)
  | [], acc => some acc
  | b :: bs, acc => match t ((wipeE env1 [v]).set v (some b)) [] with
    | some (.ok true []) => (match fe ((wipeE env1 [v]).set v (some b)) [] with
      | some (.ok (.int k) []) => if k ∈ acc then scIn v t fe env1 bs acc else if acc.length < 4000 then scIn v t fe env1 bs (k :: acc) else none
      | _ => none)
    | some (.ok false []) => scIn v t fe env1 bs acc
    | _ => none
def scOut (u v : Nat) (t : F Bool) (fe : F D) (ys : List D) (env0 : Evn) : List D → List Int → Option (List Int)
  | [], acc => some acc
  | a :: as, acc => match scIn v t fe (env0.set u (some a)) ys acc with
    | some acc' => scOut u v t fe ys env0 as acc'
    | none => none
def fSortSc2 (i j u v : Nat) (t : F Bool) (fe : F D) : F D := fun env st => match env[i]?, env[j]? with
  | some (some (.lst xs)), some (some (.lst ys)) => if pls 0 xs = true ∧ pls 0 ys = true then match scOut u v t fe ys (wipeE (envShut env) [u, v]) xs [] with
      | some acc => some (.ok (.lst ((acc.mergeSort ltI).map .int)) st)
      | none => none
    else none
  | _, _ => none
/-- all that is changed is out of sight -/
def Wl.off (as : Wl) : Wl := ⟨[], as.as ++ as.hs⟩
section
variable {K : PySem.W.Frag} {ca : Ca} {as : Wl} {H H' : Hp} {st : Sta} {σ : L2.St} {env : Evn}
theorem off_ext : Ext (stab as H) (stab as.off H) := fun b u h => by
  obtain ⟨h1, h2, h3⟩ := stab_some h
  rw [stab_out (as := as.off) List.not_mem_nil (fun z => (List.mem_append.mp z).elim h1 h2)]
  exact h3
theorem off_st (k : StOk K ca as H st) : StOk K ca as.off H [] :=
  ⟨List.nodup_nil, rfl, fun b hb => ⟨List.not_mem_nil, (List.mem_append.mp hb).elim k.alloc fun z => (k.hid b z).2⟩, fun i b c e1 e2 => by simp at e2⟩
theorem off_env (he : EnvOk K ca as (stab as H) σ env) : EnvOk K ca as.off (stab as.off H) σ (envShut env) := by
  refine ⟨by unfold envShut; rw [List.length_map]; exact he.len, fun j d e => ?_⟩
  unfold envShut at e
  rw [List.getElem?_map] at e
  cases q : env[j]? with
  | none => rw [q] at e; cases e
  | some o =>
    rw [q] at e
    cases o with
    | none => cases e
    | some d' =>
      simp only [Option.map_some, Option.bind_some, Option.some.injEq] at e
      split at e
      · rename_i hpl
        cases e
        obtain ⟨v, e1, i1⟩ := he.at_ j _ q
        exact ⟨v, e1, i1.any (Sub.of_ext off_ext) hpl⟩
      · cases e
theorem off_back {as' : Wl} (s : Step as.off H as' H') : Step as H as H' := ⟨List.prefix_refl _, rfl, fun _ h n => (n h).elim, fun b o _ e => s.keep b o List.not_mem_nil e⟩
theorem off_stB {as' : Wl} (k : StOk K ca as H st) (s : Step as.off H as' H') : StOk K ca as H' st := by
  have sH := off_back s
  refine ⟨k.nd, k.len, k.hidS sH, fun j b c e1 e2 => ?_⟩
  obtain ⟨o, e⟩ := k.alloc (List.mem_of_getElem? e1)
  rw [s.keep b o List.not_mem_nil e, ← e]
  exact (k.at_ j b c e1 e2).ext (List.prefix_refl _) sH.ext
theorem wl_nil {as' : Wl} {G : Hp} {hs : List Addr} (k : StOk K ca as' G []) (h : as'.hs = hs) : as' = ⟨[], hs⟩ := by
  obtain ⟨l1, l2⟩ := as'
  have e1 : l1 = [] := List.eq_nil_of_length_eq_zero k.len
  subst e1
  have e2 : l2 = hs := h
  subst e2
  rfl
theorem shut_at {i : Nat} {xs : List D} (h : env[i]? = some (some (.lst xs))) (p : pls 0 xs = true) : (envShut env)[i]? = some (some (.lst xs)) := by
  unfold envShut
  rw [List.getElem?_map, h]
  show some (if pl 0 (.lst xs) = true then some (D.lst xs) else none) = _
  rw [if_pos (by unfold pl; exact p)]
end
/-- all is kept but D -/
def KeepD (D : Addr) (G G' : Hp) : Prop := ∀ b o, b ≠ D → G b = some o → G' b = some o
theorem keepD_ext {as : Wl} {D : Addr} {G G' : Hp} (k : KeepD D G G') : Ext (stab (as.off.hide D) G) (stab (as.off.hide D) G') := fun b o h => by
  obtain ⟨h1, h2, h3⟩ := stab_some h
  rw [stab_out h1 h2]
  exact k b o (fun z => h2 (by rw [z]; exact List.mem_cons_self)) h3
theorem dec_add {acc : List Int} {k : Int} : (fun j => decide (j ∈ acc) || decide (j = k)) = fun j => decide (j ∈ (if k ∈ acc then acc else k :: acc)) := by
  funext j
  by_cases hk : k ∈ acc
  · rw [if_pos hk]
    by_cases hj : j = k
    · subst hj; simp [hk]
    · simp [hj]
  · rw [if_neg hk]
    by_cases hj : j = k
    · subst hj; simp
    · by_cases ha : j ∈ acc <;> simp [hj, ha]
section
variable {K : PySem.W.Frag} {ca : Ca} {W : WX} {w : World} {i j u v : Nat} {wi wi1 : TI} {tt1 : TT} {te : TE} {t : F Bool} {fe : F D}
theorem sortSc2_is (hi : IvS K ca W wi (iL (fVar i))) (hi1 : IvS K ca W0 wi1 (iL (fVar j))) (ht : TvS K ca W0 tt1 t) (he : EvS K ca W0 te fe) (ju : j ≠ u) (jv : j ≠ v) (uv : u ≠ v) :
    EvS K ca W (fun σ G Q => tSc2 w wi (gName u) tYes wi1 (gName v) tt1 te [u, v] [v] σ G fun x G1 => rSetSort w [x] G1 Q) (fSortSc2 i j u v t fe) := fun as H σ env st Q henv hst hp => by
  unfold fSortSc2 at hp
  split at hp
  · rename_i xs ys ex ey
    split at hp
    · rename_i hpl
      obtain ⟨px, py⟩ := hpl
      split at hp
      · rename_i fin eo
        have E0 := off_env henv
        have K0 := off_st hst
        refine hi as.off H σ (envShut env) [] _ E0 K0 ?_
        have e1 : iL (fVar i) (envShut env) [] = some (.ok xs []) := by
          unfold iL fVar
          rw [shut_at ex px]
          rfl
        rw [e1]
        rintro ⟨J, H1'⟩ as1 H1 s1 k1 ⟨eG, itok⟩ eH
        dsimp only at eH eG itok ⊢
        subst eH
        have ea := wl_nil k1 (s1.hid)
        subst ea
        have E1 := E0.step s1
        intro D hD
        refine ⟨fun i m G => m = xs.length - i ∧ i ≤ xs.length ∧ ∃ acc : List Int, Step as.off H1' as.off G ∧ G D = some (SetO w D (fun k => decide (k ∈ acc)) acc.length) ∧ StOk K ca (as.off.hide D) G [] ∧ acc.Nodup ∧ acc.length < 4001 ∧ scOut u v t fe ys (wipeE (envShut env) [u, v]) (xs.drop i) acc = some fin,
          ⟨xs.length, by simp, Nat.zero_le _, [], Step.laid hD, ?_, k1.hideD hD, List.nodup_nil, by decide, eo⟩, ?_⟩
        · rw [upd_same]
          congr 2
        rintro i m G ⟨rfl, hile, acc, s, gD, kG, nd, sz, so⟩
        by_cases hlt : i < xs.length
        · have ed : xs[i]? = some xs[i] := by simp [hlt]
          obtain ⟨_, h2⟩ := itok (as.off.hide D) G i (List.prefix_refl _) (hide_ext hD s)
          obtain ⟨go, yl⟩ := h2 _ ed
          refine .inr ⟨go, fun G2 => i + 1 ≤ xs.length ∧ ∃ acc : List Int, Step as.off H1' as.off G2 ∧ G2 D = some (SetO w D (fun k => decide (k ∈ acc)) acc.length) ∧ StOk K ca (as.off.hide D) G2 [] ∧ acc.Nodup ∧ acc.length < 4001 ∧ scOut u v t fe ys (wipeE (envShut env) [u, v]) (xs.drop (i + 1)) acc = some fin, fun G2 q => ⟨xs.length - (i + 1), by omega, rfl, q⟩, fun x G' y => ?_⟩
          obtain ⟨sy, ky, iy⟩ := yl x G' y [] kG
          rw [List.drop_eq_getElem_cons hlt] at so
          unfold scOut at so
          split at so
          · rename_i acc2 ei
            have s' : Step as.off H1' as.off G' := s.trans ⟨List.prefix_refl _, rfl, fun _ h n => (n h).elim, sy.keep⟩
            have gD' : G' D = some (SetO w D (fun k => decide (k ∈ acc)) acc.length) := sy.keep D _ List.not_mem_nil gD
            have E2 : EnvOk K ca (as.off.hide D) (stab (as.off.hide D) G') ((wipe σ [u, v]).set u (some x)) ((wipeE (envShut env) [u, v]).set u (some xs[i])) := (((E1.ext (as := as.off) (as' := as.off.hide D) (List.prefix_refl _) (hide_ext hD s)).step sy).wipe [u, v]).set u iy
            refine ⟨?_, ?_⟩
            · rw [wipe_set List.mem_cons_self, wipe_wipe]
            unfold tYes
            dsimp only
            rw [if_pos rfl]
            have ey2 : ((wipeE (envShut env) [u, v]).set u (some xs[i]))[j]? = some (some (.lst ys)) := by
              rw [List.getElem?_set_ne (Ne.symm ju), wipe_getE, if_neg (by simp [ju, jv])]
              exact shut_at ey py
            refine hi1 (as.off.hide D) G' _ _ [] _ E2 ky ?_
            have e2 : iL (fVar j) ((wipeE (envShut env) [u, v]).set u (some xs[i])) [] = some (.ok ys []) := by
              unfold iL fVar
              rw [ey2]
              rfl
            rw [e2]
            rintro ⟨J1, G4⟩ as4 G4' s4 k4 ⟨eG4, itok1⟩ eH4
            dsimp only at eH4 eG4 itok1 ⊢
            subst eH4
            have ea4 := wl_nil k4 s4.hid
            subst ea4
            have E4 := E2.step s4
            have gD4 : G4 D = some (SetO w D (fun k => decide (k ∈ acc)) acc.length) := s4.keep D _ List.not_mem_nil gD'
            have s5 : Step as.off H1' as.off G4 := s'.trans ⟨List.prefix_refl _, rfl, fun _ h n => (n h).elim, s4.keep⟩
            refine ⟨fun j k G => k = ys.length - j ∧ j ≤ ys.length ∧ ∃ acc : List Int, KeepD D G4 G ∧ G D = some (SetO w D (fun k => decide (k ∈ acc)) acc.length) ∧ StOk K ca (as.off.hide D) G [] ∧ acc.Nodup ∧ acc.length < 4001 ∧ scIn v t fe ((wipeE (envShut env) [u, v]).set u (some xs[i])) (ys.drop j) acc = some acc2,
              ⟨ys.length, by simp, Nat.zero_le _, acc, fun _ _ _ h => h, gD4, k4, nd, sz, ei⟩, ?_⟩
            rintro j k G ⟨rfl, hjle, acc, kd, gD, kG, nd, sz, si⟩
            by_cases hlj : j < ys.length
            · have edj : ys[j]? = some ys[j] := by simp [hlj]
              obtain ⟨_, h2⟩ := itok1 (as.off.hide D) G j (List.prefix_refl _) (keepD_ext kd)
              obtain ⟨go, yl⟩ := h2 _ edj
              refine .inr ⟨go, fun G2 => j + 1 ≤ ys.length ∧ ∃ acc : List Int, KeepD D G4 G2 ∧ G2 D = some (SetO w D (fun k => decide (k ∈ acc)) acc.length) ∧ StOk K ca (as.off.hide D) G2 [] ∧ acc.Nodup ∧ acc.length < 4001 ∧ scIn v t fe ((wipeE (envShut env) [u, v]).set u (some xs[i])) (ys.drop (j + 1)) acc = some acc2,
                fun G2 q => ⟨ys.length - (j + 1), by omega, rfl, q⟩, fun x2 Gy y2 => ?_⟩
              obtain ⟨sz2, kz2, iz2⟩ := yl x2 Gy y2 [] kG
              have E3 := (((E4.ext (as := as.off.hide D) (as' := as.off.hide D) (List.prefix_refl _) (keepD_ext kd)).step sz2).wipe [v]).set v iz2
              have kd3 : KeepD D G4 Gy := fun b o nb z => sz2.keep b o List.not_mem_nil (kd b o nb z)
              have gD3 := sz2.keep D _ List.not_mem_nil gD
              refine ⟨by rw [wipe_set List.mem_cons_self, wipe_wipe], ?_⟩
              rw [List.drop_eq_getElem_cons hlj] at si
              unfold scIn at si
              refine ht (as.off.hide D) Gy _ _ [] _ E3 kz2 ?_
              cases et : t ((wipeE ((wipeE (envShut env) [u, v]).set u (some xs[i])) [v]).set v (some ys[j])) [] with
              | none => rw [et] at si; cases si
              | some r =>
                rw [et] at si
                cases r with
                | err => cases si
                | ok b st' =>
                  cases st' with
                  | cons => cases b <;> cases si
                  | nil =>
                    intro b' as5 G5 s5' k5 eb
                    cases (show b' = b from eb)
                    have ea5 := wl_nil k5 s5'.hid
                    subst ea5
                    have kd5 : KeepD D G4 G5 := fun b o nb z => s5'.keep b o List.not_mem_nil (kd3 b o nb z)
                    have gD5 := s5'.keep D _ List.not_mem_nil gD3
                    cases b with
                    | false => exact iteF ⟨hlj, acc, kd5, gD5, k5, nd, sz, si⟩
                    | true =>
                      dsimp only at si
                      refine iteT (he (as.off.hide D) G5 _ _ [] _ (E3.step s5') k5 ?_)
                      cases ee : fe ((wipeE ((wipeE (envShut env) [u, v]).set u (some xs[i])) [v]).set v (some ys[j])) [] with
                      | none => rw [ee] at si; cases si
                      | some r2 =>
                        rw [ee] at si
                        cases r2 with
                        | err => cases si
                        | ok d st2 =>
                          cases d with
                          | int k =>
                            cases st2 with
                            | cons => cases si
                            | nil =>
                              dsimp only at si
                              intro yv as6 G6 s6 k6 iy6
                              have ea6 := wl_nil k6 s6.hid
                              subst ea6
                              cases iy6
                              have kd6 : KeepD D G4 G6 := fun b o nb z => s6.keep b o List.not_mem_nil (kd5 b o nb z)
                              have gD6 := s6.keep D _ List.not_mem_nil gD5
                              refine ⟨k, _, _, rfl, gD6, Nat.lt_of_le_of_lt (Nat.succ_le_succ (Nat.le_of_lt sz)) (by decide +kernel), hlj, if k ∈ acc then acc else k :: acc, fun b o nb z => by rw [upd_ne nb]; exact kd6 b o nb z, ?_, k6.grow, ?_, ?_, ?_⟩
                              · rw [upd_same, dec_add]
                                congr 2
                                by_cases hk : k ∈ acc
                                · rw [if_pos (decide_eq_true hk), if_pos hk]
                                · rw [if_neg (by simp [hk]), if_neg hk]
                                  rfl
                              · by_cases hk : k ∈ acc
                                · rw [if_pos hk]; exact nd
                                · rw [if_neg hk]; exact List.nodup_cons.mpr ⟨hk, nd⟩
                              · by_cases hk : k ∈ acc
                                · rw [if_pos hk]; exact sz
                                · rw [if_neg hk] at si ⊢
                                  split at si
                                  · rename_i h63
                                    exact Nat.succ_lt_succ h63
                                  · cases si
                              · by_cases hk : k ∈ acc
                                · rw [if_pos hk] at si ⊢; exact si
                                · rw [if_neg hk] at si ⊢
                                  split at si
                                  · exact si
                                  · cases si
                          | _ => cases si
            · have e : j = ys.length := by omega
              subst e
              obtain ⟨h1, _⟩ := itok1 (as.off.hide D) G ys.length (List.prefix_refl _) (keepD_ext kd)
              rw [List.drop_length] at si
              unfold scIn at si
              cases si
              exact .inl ⟨h1 (by simp), hlt, acc2, ⟨List.prefix_refl _, rfl, fun _ h n => (n h).elim, fun b o nb z => kd b o (fun q => by rw [q, hD] at z; cases z) (s5.keep b o nb z)⟩, gD, kG, nd, sz, so⟩
          · cases so
        · have e : i = xs.length := by omega
          subst e
          obtain ⟨h1, _⟩ := itok (as.off.hide D) G xs.length (List.prefix_refl _) (hide_ext hD s)
          rw [List.drop_length] at so
          unfold scOut at so
          cases so
          refine .inl ⟨h1 (by simp), D, _, _, rfl, gD, by omega, fun ns p hs hm hq => ?_⟩
          have nn : ns.Nodup := hs.imp fun z => Int.ne_of_lt z
          have pm : ns.Perm fin := (List.perm_ext_iff_of_nodup nn nd).mpr fun k => by rw [hm k, decide_eq_true_iff]
          have es := sorted_one pm (hs.imp fun z => Int.le_of_lt z)
          have sG : Step as.off H as.off G := s1.trans s
          have sA : Step as.off H as.off (upd G p (.lst (ns.map V.int))) := sG.trans (Step.laid hq)
          have n1 : p ∉ as.as := fun z => by
            obtain ⟨o, e⟩ := hst.alloc z
            rw [sG.keep p o List.not_mem_nil e] at hq
            cases hq
          have n2 : p ∉ as.hs := fun z => by
            obtain ⟨_, o, e⟩ := hst.hid p z
            rw [sG.keep p o List.not_mem_nil e] at hq
            cases hq
          refine hp (.ref p) as _ (off_back sA) (off_stB hst sA) ?_
          rw [← es]
          exact .lst ((stab_out n1 n2).trans upd_same) (ints_is ns)
      · exact hp.elim
    · exact hp.elim
  · exact hp.elim
def tiF (K : PySem.W.Frag) (ca : Ca) (W : WX) (f : F (List D)) : TI := fun σ H R => ∃ as env st, EnvOk K ca as (stab as H) σ env ∧ StOk K ca as H st ∧ Post K ca W (fun as' G (v : It × Hp) ds => G = stab as' v.2 ∧ ItOk K ca as' v.2 v.1 ds) as H σ (f env st) (fun v H' => v.2 = H' → R v.1 H')
theorem ji_canon {X : Cx} {tg e : Expr} {f : F (List D)} (h : JI ca X W tg e f) : PI X tg e (tiF X.K ca W f) := by
  obtain ⟨wi, p, q⟩ := h
  exact ⟨fun pins s σ H R I ⟨as, env, st, he, hs, hp⟩ => p.run pins s σ H R I (q as H σ env st R he hs hp)⟩
theorem ivs_canon {f : F (List D)} : IvS K ca W (tiF K ca W f) f := fun as H σ env st R he hs hp => ⟨as, env, st, he, hs, hp⟩
variable {X : Cx} {elt tst : Expr} {x y na nb : Str} {p1 p2 p3 p4 sp q sq : Pos} {sc : Scope}
theorem je_sortSc2 (i j u v : Nat) (hm : X.mg "sorted" = none) (hgl : Gl X "sorted") (hc : X.calm = true) (hN : X.N.Nodup) (hx : X.N[i]? = some x) (hy : X.N[j]? = some y) (ju : j ≠ u) (jv : j ≠ v) (uv : u ≠ v) (ok : BlkOk X.N X.env.scope sc [(na, u), (nb, v)])
    (hg : ∀ (s : Shared) (H : Hp) (C : Addr) (cl : List (Str × Addr)) (fp : List Addr), PG (X.blk s H sc (compEnvC sc cl C X.env) fp) (.Name na p1) (gName u)) (hg1 : ∀ (s : Shared) (H : Hp) (C : Addr) (cl : List (Str × Addr)) (fp : List Addr), PG (X.blk s H sc (compEnvC sc cl C X.env) fp) (.Name nb p3) (gName v))
    (hy2 : ∀ (s : Shared) (H : Hp) (C : Addr) (cl : List (Str × Addr)) (fp : List Addr), JI ca (X.blk s H sc (compEnvC sc cl C X.env) fp) W0 (.Name nb p3) (.Name y p4) (iL (fVar j)))
    (ht : ∀ (s : Shared) (H : Hp) (C : Addr) (cl : List (Str × Addr)) (fp : List Addr), JT ca (X.blk s H sc (compEnvC sc cl C X.env) fp) W0 tst t) (he : ∀ (s : Shared) (H : Hp) (C : Addr) (cl : List (Str × Addr)) (fp : List Addr), JE ca (X.blk s H sc (compEnvC sc cl C X.env) fp) W0 elt fe)
    (hv : Vis X.env.scope x := by first | exact Or.inl rfl | exact Or.inr (Or.inl rfl) | exact Or.inr (Or.inr rfl)) (hd : (x == ("__debug__" : Str)) = false := by decide) (hcd : (x == ("__classdict__" : Str)) = false := by decide)
    (f0 : ∀ z, foldedSetIterable (.Name x p2) X.env z = pure z := by intro _; rfl) (f1 : ∀ env z, foldedSetIterable (.Name y p4) env z = pure z := by intro _ _; rfl)
    (hst : starEach [twoC elt (.Name na p1) (.Name x p2) (.Name nb p3) (.Name y p4) [] [tst] sc q] X.env = (false, eval (twoC elt (.Name na p1) (.Name x p2) (.Name nb p3) (.Name y p4) [] [tst] sc q) X.env) :: starEach [] X.env := by rfl) (hpl : (backTo sq (starEach [] X.env)).any (·.1) = false := by rfl) :
    JE ca X W (.Call (.Name "sorted" sp) [twoC elt (.Name na p1) (.Name x p2) (.Name nb p3) (.Name y p4) [] [tst] sc q] [] sq) (fSortSc2 i j u v t fe) := by
  obtain ⟨wi, pi, qi⟩ := ji_l (ca := ca) (W := W) (tg := .Name na p1) (je_var (pos := p2) i hx hv hd hcd)
  have j1 := fun s H C cl fp => ji_canon (hy2 s H C cl fp)
  exact ⟨_, pe_callB (cr_setSort hc) hgl hm (by decide +kernel) (pa_cons (pe_sc2 (own := [(na, u), (nb, v)]) (vs1 := [v]) hc hN pi ok (by simp) hg (fun _ _ _ _ _ => pts_nil) j1 hg1 (fun s H C cl fp => pts_one (jt_canon (ht s H C cl fp))) (fun s H C cl fp => je_canon (he s H C cl fp)) f0 f1) pa_nil hst) (he := hst) (hpl := hpl),
    sortSc2_is qi ivs_canon tvs_canon evs_canon ju jv uv⟩
end
end DS

namespace DS
open PySem L2 PySem.Spec PyProof.Rows
/-! ### while, at most n turns -/
def sWhile (t : F Bool) (body : FS) : Nat → FS
  | 0, _, _ => none
  | n + 1, env, st => match t env st with
    | some (.ok false st1) => some (.nx env, st1)
    | some (.ok true st1) => (match body env st1 with
      | some (.nx env2, st2) => sWhile t body n env2 st2
      | some (.ct env2, st2) => sWhile t body n env2 st2
      | some (.bk env2, st2) => some (.nx env2, st2)
      | r => r)
    | _ => none
section
variable {ca : Ca} {X : Cx} {W : WX} {c : Expr} {bodyS : List Stmt} {pos : Pos} {t : F Bool} {f : FS}
theorem js_while (n : Nat) (hp : PassesOwn (model X.prog X.w) X.A X.env X.xe) (hc : JT ca X W c t) (hb : JB ca X W bodyS f) : JS ca X W (.While c bodyS [] pos) (sWhile t f n) := by
  obtain ⟨tc, pc, qc⟩ := hc
  obtain ⟨tb, pb, qb⟩ := hb
  refine ⟨_, ps_while hp pc pb, fun as H σ env st E he hs hp => ?_⟩
  refine ⟨fun m σ' H' => ∃ as' env' st', Step as H as' H' ∧ EnvOk X.K ca as' (stab as' H') σ' env' ∧ StOk X.K ca as' H' st' ∧ PostS X.K ca W as' H' (sWhile t f m env' st') E, ⟨n, as, env, st, Step.refl _ _, he, hs, hp⟩, ?_⟩
  rintro m σ' H' ⟨as', env', st', s, he', k, p⟩
  cases m with
  | zero => exact p.elim
  | succ m =>
    unfold sWhile at p
    refine qc as' H' σ' env' st' _ he' k ?_
    cases et : t env' st' with
    | none => rw [et] at p; exact p.elim
    | some r =>
      rw [et] at p
      cases r with
      | err => exact p.elim
      | ok b st1 =>
        intro b' as1 H1 s1 k1 eb
        cases (show b' = b from eb)
        cases b with
        | false => exact iteF (PostS.here (PostS.step p s1) k1 (he'.step s1))
        | true =>
          dsimp only at p
          refine iteT ⟨fun σ2 H2 => ∃ as2 env2 st2, Step as H as2 H2 ∧ EnvOk X.K ca as2 (stab as2 H2) σ2 env2 ∧ StOk X.K ca as2 H2 st2 ∧ PostS X.K ca W as2 H2 (sWhile t f m env2 st2) E, fun σ2 H2 q => ⟨m, Nat.lt_succ_self m, q⟩, ?_⟩
          refine qb as1 H1 σ' env' st1 _ (he'.step s1) k1 ?_
          cases ef : f env' st1 with
          | none => rw [ef] at p; exact p.elim
          | some q =>
            rw [ef] at p
            obtain ⟨o, st2⟩ := q
            cases o with
            | nx env2 => exact fun σ2 as2 H2 s2 k2 he2 => ⟨as2, env2, st2, (s.trans s1).trans s2, he2, k2, PostS.step p (s1.trans s2)⟩
            | ct env2 => exact fun σ2 as2 H2 s2 k2 he2 => ⟨as2, env2, st2, (s.trans s1).trans s2, he2, k2, PostS.step p (s1.trans s2)⟩
            | bk env2 => exact PostS.step p s1
            | rt d => exact PostS.step p s1
            | er c fs env2 => exact PostS.step p s1
end
/-! ### max of a list of whole numbers, with a default -/
def maxL (d : Int) : List Int → Int
  | [] => d
  | y :: ys => ys.foldl max y
def intsOf : List D → Option (List Int)
  | [] => some []
  | .int i :: r => (intsOf r).map fun is => i :: is
  | _ :: _ => none
def fMaxD (fa fd : F D) : F D := fun env st => bnd (fa env st) fun x st => bnd (fd env st) fun d st => match x, d with
  | .lst ds, .int i => (match intsOf ds with
    | some is => ret (.int (maxL i is)) st
    | none => none)
  | _, _ => none
section
variable {K : PySem.W.Frag} {ca : Ca} {as : Wl} {G : Hp}
theorem ints_reads {h : Heap} : ∀ {xs : List Int} {us : List Value}, Vals (xs.map V.int) us → ∃ as, ReadsAll h us (xs.map .int) as
  | [], us, q => by cases q; exact ⟨_, .nil⟩
  | x :: xs, us, q => by
    cases q with
    | cons r rr =>
      obtain ⟨t, rfl⟩ := r
      obtain ⟨as, ih⟩ := ints_reads (h := h) rr
      exact ⟨_, .cons (.int x t) ih⟩
theorem intsOf_is : ∀ {ds : List D} {is : List Int} {vs : List V}, intsOf ds = some is → IsDs K ca as G vs ds → vs = is.map V.int
  | [], is, vs, e, q => by
    cases e
    cases q
    rfl
  | d :: r, is, vs, e, q => by
    cases q with
    | cons q1 q2 =>
      cases d <;> first | (unfold intsOf at e; cases e; done) | skip
      unfold intsOf at e
      obtain ⟨is', e1, rfl⟩ := Option.map_eq_some_iff.mp e
      cases q1
      rw [intsOf_is e1 q2]
      rfl
end
def rMaxD (K : PySem.W.Frag) : List V → List V → Hp → VK → Prop := fun vs zs H Q => ∃ (a : Addr) (xs : List Int) (d : Int), vs = [.ref a] ∧ zs = [.int d] ∧ SqL K H a (xs.map V.int) ∧ Q (.int (maxL d xs)) H
section
variable {X : Cx}
theorem cr_maxD (hc : X.calm = true) (hu : X.A.units + 64 < cLine) : CallRK X (.builtin "max") ["default"] (rMaxD X.K) := by
  intro pins s σ H xs zs us ws Q I rx rz q
  obtain ⟨a, ns, d, rfl, rfl, sq, q⟩ := q
  obtain ⟨u, rfl, ru⟩ := vals1 rx
  obtain ⟨v, rfl, rv⟩ := vals1 rz
  obtain rfl : u = Value.ref a := ru
  obtain ⟨t, rfl⟩ := rv
  obtain ⟨its, rel, lst, hz⟩ := I.list sq
  obtain ⟨as, ra⟩ := ints_reads (h := s.heap) rel
  have al : PySem.W.AlikeAll (ns.map PyData.int) := ⟨fun x hx y hy => by
    obtain ⟨i, _, rfl⟩ := List.mem_map.mp hx
    obtain ⟨j, _, rfl⟩ := List.mem_map.mp hy
    rfl, fun x hx => by
    obtain ⟨i, _, rfl⟩ := List.mem_map.mp hx
    intro z
    cases z⟩
  have dp : ∀ l : List Int, PyData.depthAll (l.map PyData.int) = 0 := fun l => by
    induction l with
    | nil => rfl
    | cons x l ih =>
      rw [List.map_cons]
      unfold PyData.depthAll
      rw [ih]
      rfl
  refine PySem.W.max_list_default (I.ok.hd hc) lst.isList ra al (by rw [dp]; omega) (fun e h2 tk kp => ?_) fun y ys i v h2 tk bs e hi r kp => ?_
  · have : ns = [] := List.map_eq_nil_iff.mp e
    subst this
    exact ⟨.int d, H, I.kept (t' := tk) kp, ⟨t, rfl⟩, q⟩
  · cases ns with
    | nil => cases e
    | cons n ns =>
      rw [List.map_cons] at e
      cases e
      rw [PySem.W.maxD_ints] at r
      cases r
      exact ⟨.int (maxL d (n :: ns)), H, I.kept (t' := tk) kp, ⟨_, rfl⟩, q⟩
variable {ca : Ca} {W : WX} {e e2 : Expr} {fa fd : F D} {p pos kp : Pos}
theorem je_maxD (hm : X.mg "max" = none) (hg : Gl X "max") (hc : X.calm = true) (hu : X.A.units + 64 < cLine) (h : JE ca X W e fa) (h2 : JE ca X W e2 fd) (he0 : starEach [e] X.env = (false, eval e X.env) :: starEach [] X.env := by rfl)
    (he : backTo pos (starEach [e] X.env) = (false, eval e X.env) :: backTo pos (starEach [] X.env) := by rfl) (hpl : (backTo pos (starEach [e] X.env)).any (·.1) = false := by rfl)
    (hall : (backToKw pos (keywordEach [⟨some "default", e2, kp⟩] X.env)).all (·.1.isSome) = true := by rfl) (hnone : (backToKw pos (keywordEach [⟨some "default", e2, kp⟩] X.env)).any (·.1.isNone) = false := by rfl)
    (hks : (backToKw pos (keywordEach [⟨some "default", e2, kp⟩] X.env)).filterMap (·.1) = (["default"] : List Str) := by rfl) :
    JE ca X W (.Call (.Name "max" p) [e] [⟨some "default", e2, kp⟩] pos) (fMaxD fa fd) := by
  obtain ⟨ta, pa, sa⟩ := h
  obtain ⟨tb, pb, sb⟩ := h2
  refine ⟨_, pe_callBK (cr_maxD hc hu) hg hm (by decide +kernel) (pa_cons pa pa_nil he0) (pk_cons pb pk_nil) (he := he) (hpl := hpl) (hall := hall) (hnone := hnone) (hks := hks), fun as H σ env st Q henv hst hp => ?_⟩
  refine sa as H σ env st _ henv hst (Post.bnd hp fun x st1 v as1 H1 s1 k1 i1 p1 => ?_)
  refine sb as1 H1 σ env st1 _ (henv.step s1) k1 (Post.bnd p1 fun y st2 v2 as2 H2 s2 k2 i2 p2 => ?_)
  have i1' := i1.step s2
  cases i1' <;> cases i2 <;> first | exact False.elim p2 | skip
  rename_i a xs ds q1 q2 d
  dsimp only at p2
  split at p2
  · rename_i is ei
    have ev := intsOf_is ei q2
    subst ev
    exact ⟨a, is, d, rfl, rfl, SqL.of (stab_some q1).2.2, p2.here k2 (.int _)⟩
  · exact p2.elim
end
/-! ### a list that is changed, looked at as it stands, in something pure -/
def fFrz (i : Nat) (fe : F D) : F D := fun env st => match env[i]? with
  | some (some (.cell k)) => (match st[k]? with
    | some (.lst ds) => if pls 0 ds = true then (match fe ((envShut env).set i (some (.lst ds))) [] with
        | some (.ok d []) => if flatD d = true then some (.ok d st) else none
        | some (.err c fs []) => if fs.all (fun p => flatD p.2) = true then some (.err c fs st) else none
        | _ => none) else none
    | _ => none)
  | _ => none
section
variable {ca : Ca} {X : Cx} {W : WX} {e : Expr} {fe : F D}
theorem flat_any {K : PySem.W.Frag} {as as2 : Wl} {G G2 : Hp} {v : V} {d : D} (f : flatD d = true) (h : IsD K ca as G v d) : IsD K ca as2 G2 v d := by
  cases h <;> first | exact .non | exact .bl _ | exact .int _ | exact .str _ | exact absurd f (by unfold flatD; exact Bool.false_ne_true)
theorem flat_fs {K : PySem.W.Frag} {as as2 : Wl} {G G2 : Hp} : ∀ {vs : List (Str × V)} {fs : List (Str × D)}, (∀ p ∈ fs, flatD p.2 = true) → IsFs K ca as G vs fs → IsFs K ca as2 G2 vs fs
  | _, [], _, h => by cases h; exact .nil
  | _, (n, d) :: fs, hf, h => by
    cases h with
    | cons h1 h2 => exact .cons (flat_any (hf _ List.mem_cons_self) h1) (flat_fs (fun p hp => hf p (List.mem_cons_of_mem _ hp)) h2)
theorem je_frz (i : Nat) (h : JE ca X W e fe) : JE ca X W e (fFrz i fe) := by
  obtain ⟨te, pe, qe⟩ := h
  refine ⟨te, pe, fun as H σ env st Q henv hst hp => ?_⟩
  unfold fFrz at hp
  split at hp
  · rename_i k ei
    split at hp
    · rename_i ds ek
      split at hp
      · rename_i hpl
        obtain ⟨v, ev, iv⟩ := henv.at_ i _ ei
        cases iv with
        | @cell a _ ha =>
          have ham : a ∈ as.as := List.mem_of_getElem? ha
          have hah : a ∉ as.hs := fun z => (hst.hid a z).1 ham
          have c := hst.at_ k a _ ha ek
          cases hq : H a with
          | none => rw [hq] at c; exact c.elim
          | some u =>
            rw [hq] at c
            cases u <;> first | exact False.elim c | skip
            rename_i xs
            have c' : IsDs X.K ca as (stab as H) xs ds := c
            have ex1 : Ext (stab as H) (stab (shut as a) H) := fun b u h => by
              obtain ⟨h1, h2, h3⟩ := stab_some h
              rw [stab_out (as := shut as a) (List.not_mem_nil) (shut_nm (.inl h1) h2)]
              exact h3
            have vis : stab (shut as a) H a = some (.lst xs) := by
              rw [stab_out (as := shut as a) (List.not_mem_nil) (shut_nm (.inr rfl) hah)]
              exact hq
            have kst : StOk X.K ca (shut as a) H [] := by
              refine ⟨List.nodup_nil, rfl, fun b hb => ⟨List.not_mem_nil, ?_⟩, fun k b c e1 e2 => by simp at e2⟩
              rcases List.mem_append.mp hb with hb | hb
              · exact hst.alloc (List.mem_filter.mp hb).1
              · exact (hst.hid b hb).2
            have en0 : EnvOk X.K ca (shut as a) (stab (shut as a) H) σ (envShut env) := by
              refine ⟨by unfold envShut; rw [List.length_map]; exact henv.len, fun j d e => ?_⟩
              unfold envShut at e
              rw [List.getElem?_map] at e
              cases q : env[j]? with
              | none => rw [q] at e; cases e
              | some o =>
                rw [q] at e
                cases o with
                | none => cases e
                | some d' =>
                  simp only [Option.map_some, Option.bind_some, Option.some.injEq] at e
                  split at e
                  · rename_i hpl
                    cases e
                    obtain ⟨v, e1, i1⟩ := henv.at_ j _ q
                    exact ⟨v, e1, i1.any (Sub.of_ext ex1) hpl⟩
                  · cases e
            have en1 : EnvOk X.K ca (shut as a) (stab (shut as a) H) σ ((envShut env).set i (some (.lst ds))) := by
              refine ⟨by rw [List.length_set]; exact en0.len, fun j d e => ?_⟩
              by_cases hj : i = j
              · subst hj
                have hl : i < (envShut env).length := by
                  have := (List.getElem?_eq_some_iff.mp ei).1
                  unfold envShut
                  rw [List.length_map]
                  exact this
                rw [List.getElem?_set_self hl] at e
                cases e
                exact ⟨_, ev, .lst vis (c'.any (Sub.of_ext ex1) hpl)⟩
              · rw [List.getElem?_set_ne hj] at e
                exact en0.at_ j d e
            have stepF : ∀ {H' : Hp}, (∀ b o, b ∉ ([] : List Addr) → H b = some o → H' b = some o) → Step as H as H' := fun k => ⟨List.prefix_refl _, rfl, fun _ h n => (n h).elim, fun b o _ e => k b o List.not_mem_nil e⟩
            have kF : ∀ {H' : Hp}, (∀ b o, b ∉ ([] : List Addr) → H b = some o → H' b = some o) → Step as H as H' → StOk X.K ca as H' st := fun {H'} kk sH => by
              refine ⟨hst.nd, hst.len, hst.hidS sH, fun j b c e1 e2 => ?_⟩
              obtain ⟨o, e⟩ := hst.alloc (List.mem_of_getElem? e1)
              rw [kk b o List.not_mem_nil e, ← e]
              exact (hst.at_ j b c e1 e2).ext (List.prefix_refl _) sH.ext
            split at hp
            · rename_i d er
              split at hp
              · rename_i hf
                refine qe (shut as a) H σ _ [] _ en1 kst ?_
                rw [er]
                intro v' as' H' s' k' i'
                have sH := stepF s'.keep
                exact hp v' as H' sH (kF s'.keep sH) (flat_any hf i')
              · exact hp.elim
            · rename_i c fs er
              split at hp
              · rename_i hf
                refine qe (shut as a) H σ _ [] _ en1 kst ?_
                rw [er]
                intro cls dd as' H' s' k' e'
                have sH := stepF s'.keep
                refine hp cls dd as H' sH (kF s'.keep sH) ⟨e'.1, ?_⟩
                rcases e'.2 with z | ⟨p, vs, z1, z2, z3⟩
                · exact .inl z
                · refine .inr ⟨p, vs, z1, ?_, flat_fs (List.all_eq_true.mp hf) z3⟩
                  obtain ⟨y1, y2, y3⟩ := stab_some z2
                  rw [s'.hid] at y2
                  have hpa : p ≠ a := fun z => by
                    rw [z, s'.keep a _ List.not_mem_nil hq] at y3
                    cases y3
                  rw [stab_out (fun z => y2 (List.mem_append_left _ (List.mem_filter.mpr ⟨z, by simpa using hpa⟩))) (fun z => y2 (List.mem_append_right _ z))]
                  exact y3
              · exact hp.elim
            · exact hp.elim
      · exact hp.elim
    · exact hp.elim
  · exact hp.elim
end
end DS

namespace DS
open PySem L2 PySem.Spec PyProof.Rows
/-! ### x not in y, x and y's members of any depth, y a list that stands still -/
def oNotInD (x y : D) (st : Sta) : Option (R D) := match toP x, toP y with
  | some p, some (.list qs) => if SeqAt.shaped p = true ∧ SeqAt.shaped (.list qs) = true then ret (.bl (!(qs.any fun z => PyData.eqv z p))) st else none
  | _, _ => none
/-- x not in y, as the machine's values -/
def rOutD (K : PySem.W.Frag) : R2 := fun x y H Q => ∃ p qs, (Dp K H x p ∧ SeqAt.shaped p = true) ∧ (Dp K H y (.list qs) ∧ SeqAt.shaped (.list qs) = true) ∧ Q (.bl (!(qs.any fun z => PyData.eqv z p))) H
theorem op_outD {X : Cx} (hu : X.A.units + 65 < cLine) : OpR X (compareOp .NotIn) (rOutD X.K) := by
  intro pins s σ H x y v u Q I rx ry h
  obtain ⟨p, qs, ⟨dx, sx⟩, ⟨dy, sy⟩, q⟩ := h
  obtain ⟨_, r1⟩ := dx.reads I p x v rx
  obtain ⟨_, r2⟩ := dy.reads I (.list qs) y u ry
  exact SeqAt.notIn_list_reads r2 r1 (SeqAt.canLay_of_shaped sy) (SeqAt.canLay_of_shaped sx) (room_in_shaped sx hu) ⟨.bl _, H, I, rfl, q⟩
/-! ### len(set(x)), x a list of whole numbers, none twice -/
def fLenSet (fa : F D) : F D := fun env st => bnd (fa env st) fun x st => match x with
  | .lst ds => (match intsOf ds with
    | some is => if is.Nodup ∧ is.length ≤ 4000 then ret (.int is.length) st else none
    | none => none)
  | _ => none
section
variable {K : PySem.W.Frag} {ca : Ca} {W : WX}
theorem rv_notInD : Rv2 K ca W (rOutD K) oNotInD := by
  intro as H σ st v u x y Q k hx hy hp
  unfold oNotInD at hp
  split at hp
  · rename_i p qs e1 e2
    split at hp
    · rename_i h
      exact ⟨p, qs, ⟨hx.dp (stab_sub _ _) e1, h.1⟩, ⟨hy.dp (stab_sub _ _) e2, h.2⟩, hp.here k (.bl _)⟩
    · exact hp.elim
  · exact hp.elim
variable {X : Cx} {e : Expr} {fa : F D} {p p2 q pos : Pos}
theorem je_lenSet (hg : Gl X "len") (hm : X.mg "len" = none) (hg2 : Gl X "set") (hm2 : X.mg "set" = none) (hc : X.calm = true) (h : JE ca X W e fa) (na : starEach [e] X.env = (false, eval e X.env) :: starEach [] X.env := by rfl) :
    JE ca X W (.Call (.Name "len" p) [.Call (.Name "set" p2) [e] [] q] [] pos) (fLenSet fa) := by
  obtain ⟨ta, pa, sa⟩ := h
  refine ⟨_, RZ.pe_lenSetI hg hm hg2 hm2 pa hc na, fun as H σ env st Q henv hst hp => ?_⟩
  refine sa as H σ env st _ henv hst (Post.bnd hp fun x st1 v as1 H1 s1 k1 i1 p1 => ?_)
  cases i1 <;> first | exact False.elim p1 | skip
  rename_i a xs ds q1 q2
  dsimp only at p1
  split at p1
  · rename_i is ei
    have ev := intsOf_is ei q2
    subst ev
    split at p1
    · rename_i hl
      exact ⟨a, is, rfl, SqL.of (stab_some q1).2.2, hl.1, hl.2, p1.here k1 (.int _)⟩
    · exact p1.elim
  · exact p1.elim
end
end DS
namespace DS
theorem h65 {k : Nat} {A : PySem.Around} (r : L2.Room k A) : A.units + 65 < PySem.cLine := by have := r.un; omega
end DS

namespace DS
open PySem L2 PySem.Spec PyProof.Rows
open PySem.W (alike dataLt)
/-! ### <, >, <=, >= of data that are alike; shifts, divmod, // of great numbers -/
def cmpOk (p q : PyData) : Bool := alike p q && ((match p with | .none => false | _ => true) && decide (p.depth ≤ 60))
def oCmp (g : PyData → PyData → Bool) (x y : D) (st : Sta) : Option (R D) := match toP x, toP y with
  | some p, some q => if cmpOk p q = true then ret (.bl (g p q)) st else none
  | _, _ => none
def oLtD := oCmp fun p q => dataLt p q
def oGtD := oCmp fun p q => dataLt q p
def oLeD := oCmp fun p q => !dataLt q p
def oGeD := oCmp fun p q => !dataLt p q
def rCmp (K : PySem.W.Frag) (g : PyData → PyData → Bool) : R2 := fun x y H Q => ∃ p q, Dp K H x p ∧ Dp K H y q ∧ cmpOk p q = true ∧ Q (.bl (g p q)) H
def oShl (x y : D) (st : Sta) : Option (R D) := match x, y with | .int i, .int j => if 0 ≤ j ∧ j ≤ 1000 ∧ i.natAbs < 2 ^ 1000 then ret (.int (i * 2 ^ j.toNat)) st else none | _, _ => none
def oDivW (x y : D) (st : Sta) : Option (R D) := match x, y with | .int i, .int j => if 0 < j ∧ j < 2 ^ 1000 then ret (.int (i / j)) st else none | _, _ => none
def oDvm (xs : List D) (st : Sta) : Option (R D) := match xs with
  | [.int i, .int j] => if 0 < j ∧ i.natAbs < 2 ^ 3000 then ret (.tup [.int (i / j), .int (i % j)]) st else none
  | _ => none
section
variable {K : PySem.W.Frag} {ca : Ca} {W : WX} {X : Cx}
theorem rv_cmp {g : PyData → PyData → Bool} : Rv2 K ca W (rCmp K g) (oCmp g) := by
  intro as H σ st v u x y Q k hx hy hp
  unfold oCmp at hp
  split at hp
  · rename_i p q e1 e2
    split at hp
    · rename_i h
      exact ⟨p, q, hx.dp (stab_sub _ _) e1, hy.dp (stab_sub _ _) e2, h, hp.here k (.bl _)⟩
    · exact hp.elim
  · exact hp.elim
theorem cmpOk_of {p q : PyData} (h : cmpOk p q = true) : alike p q = true ∧ p ≠ .none ∧ p.depth ≤ 60 := by
  unfold cmpOk at h
  rw [Bool.and_eq_true, Bool.and_eq_true] at h
  refine ⟨h.1, fun e => ?_, of_decide_eq_true h.2.2⟩
  subst e
  exact absurd h.2.1 Bool.false_ne_true
theorem op_ltD (hu : X.A.units + 64 < cLine) : OpR X (compareOp .Lt) (rCmp X.K fun p q => dataLt p q) := by
  intro pins s σ H x y v u Q I rx ry h
  obtain ⟨p, q, h1, h2, h3, h4⟩ := h
  obtain ⟨ps, r1⟩ := Dp.reads I p x v h1 rx
  obtain ⟨qs, r2⟩ := Dp.reads I q y u h2 ry
  obtain ⟨a, b, c⟩ := cmpOk_of h3
  exact PySem.W.lt_data r1 r2 a b (by omega) ⟨.bl _, H, I, rfl, h4⟩
theorem op_gtD (hu : X.A.units + 64 < cLine) : OpR X (compareOp .Gt) (rCmp X.K fun p q => dataLt q p) := by
  intro pins s σ H x y v u Q I rx ry h
  obtain ⟨p, q, h1, h2, h3, h4⟩ := h
  obtain ⟨ps, r1⟩ := Dp.reads I p x v h1 rx
  obtain ⟨qs, r2⟩ := Dp.reads I q y u h2 ry
  obtain ⟨a, b, c⟩ := cmpOk_of h3
  exact PySem.W.gt_data r1 r2 a b (by omega) ⟨.bl _, H, I, rfl, h4⟩
theorem op_leD (hu : X.A.units + 64 < cLine) : OpR X (compareOp .LtE) (rCmp X.K fun p q => !dataLt q p) := by
  intro pins s σ H x y v u Q I rx ry h
  obtain ⟨p, q, h1, h2, h3, h4⟩ := h
  obtain ⟨ps, r1⟩ := Dp.reads I p x v h1 rx
  obtain ⟨qs, r2⟩ := Dp.reads I q y u h2 ry
  obtain ⟨a, b, c⟩ := cmpOk_of h3
  exact PySem.W.le_data r1 r2 a b (by omega) ⟨.bl _, H, I, rfl, h4⟩
theorem op_geD (hu : X.A.units + 64 < cLine) : OpR X (compareOp .GtE) (rCmp X.K fun p q => !dataLt p q) := by
  intro pins s σ H x y v u Q I rx ry h
  obtain ⟨p, q, h1, h2, h3, h4⟩ := h
  obtain ⟨ps, r1⟩ := Dp.reads I p x v h1 rx
  obtain ⟨qs, r2⟩ := Dp.reads I q y u h2 ry
  obtain ⟨a, b, c⟩ := cmpOk_of h3
  exact PySem.W.ge_data r1 r2 a b (by omega) ⟨.bl _, H, I, rfl, h4⟩
theorem rv_shl : Rv2 K ca W (rI CShl fun i j => .int (i * 2 ^ j.toNat)) oShl := by
  intro as H σ st v u x y Q k hx hy hp
  cases hx <;> cases hy <;> first | exact False.elim hp | skip
  rename_i i j
  unfold oShl at hp
  dsimp only at hp
  by_cases h : 0 ≤ j ∧ j ≤ 1000 ∧ i.natAbs < 2 ^ 1000
  · rw [if_pos h] at hp
    have c := shl_ok (i := i) (j := j.toNat) (n := 1000) h.2.2 (by omega)
    rw [Int.toNat_of_nonneg h.1] at c
    exact ⟨_, _, rfl, rfl, c, hp.here k (.int _)⟩
  · rw [if_neg h] at hp
    exact hp.elim
theorem log_lt {a n : Nat} (h : a < 2 ^ n) (hn : 0 < n) : a.log2 < n := by
  by_cases z : a = 0
  · subst z
    rw [Nat.log2_zero]
    exact hn
  · exact (Nat.log2_lt z).mpr h
theorem rv_divW : Rv2 K ca W (rI CDivW fun i j => .int (i / j)) oDivW := by
  intro as H σ st v u x y Q k hx hy hp
  cases hx <;> cases hy <;> first | exact False.elim hp | skip
  rename_i i j
  unfold oDivW at hp
  dsimp only at hp
  by_cases h : 0 < j ∧ j < 2 ^ 1000
  · rw [if_pos h] at hp
    have hl : j.natAbs < 2 ^ 1000 := by
      have e : ((j.natAbs : Nat) : Int) = j := Int.natAbs_of_nonneg (by omega)
      have e2 : ((2 ^ 1000 : Nat) : Int) = (2 : Int) ^ 1000 := by decide +kernel
      have h2 := h.2
      rw [← e, ← e2] at h2
      exact Int.ofNat_lt.mp h2
    have := log_lt hl (by omega)
    exact ⟨_, _, rfl, rfl, ⟨h.1, by omega⟩, hp.here k (.int _)⟩
  · rw [if_neg h] at hp
    exact hp.elim
def rDvm : List V → Hp → VK → Prop := fun xs H Q => ∃ i j, xs = [.int i, .int j] ∧ CDivP i j ∧ ∀ p, H p = none → Q (.ref p) (upd H p (.tup [.int (i / j), .int (i % j)]))
theorem rn_dvm : RvN K ca W rDvm oDvm := by
  intro as H σ st v x Q k hx hp
  cases hx with
  | nil => exact False.elim hp
  | cons h1 h2 =>
    cases h2 with
    | nil => cases h1 <;> exact False.elim hp
    | cons h2 h3 =>
      cases h3 with
      | cons => cases h1 <;> cases h2 <;> exact False.elim hp
      | nil =>
        cases h1 <;> cases h2 <;> first | exact False.elim hp | skip
        rename_i i j
        unfold oDvm at hp
        dsimp only at hp
        by_cases h : 0 < j ∧ i.natAbs < 2 ^ 3000
        · rw [if_pos h] at hp
          have b := PyProof.Rows.intBits_le h.2
          refine ⟨i, j, rfl, divp_ok h.1 (by omega), fun q hq => ?_⟩
          exact hp _ as _ (Step.laid hq) (k.laid hq) (.tup (.inl (.inl (stab_laid k hq))) (.cons (.int _) (.cons (.int _) .nil)))
        · rw [if_neg h] at hp
          exact hp.elim
theorem bb_divmod : bootBuiltins "divmod" = some (.builtin "divmod") := by decide +kernel
variable {a b : Expr} {fa fb : F D} {p pos : Pos}
theorem je_dvm (hm : X.mg "divmod" = none) (hg : Gl X "divmod") (h : JE ca X W a fa) (h2 : JE ca X W b fb) (he : starEach [a, b] X.env = (false, eval a X.env) :: starEach [b] X.env := by rfl) (he2 : starEach [b] X.env = (false, eval b X.env) :: starEach [] X.env := by rfl) (hpl : (backTo pos (starEach [b] X.env)).any (·.1) = false := by rfl) : JE ca X W (.Call (.Name "divmod" p) [a, b] [] pos) (fN oDvm (fCons fa (fCons fb fNil))) :=
  je_callB call_divmodW rn_dvm hg hm bb_divmod (ja_cons h (ja_cons h2 ja_nil he2) he) (by decide) (by decide) he hpl
end
end DS

namespace DS
open PySem L2 PySem.Spec PyProof.Rows
/-! ### raise of an own class whose __init__ stores its arguments -/
/-- the promise of such an __init__ -/
def spI (K : PySem.W.Frag) (ns : List Str) : Sp := fun vs H Q _ => ∃ (a C : Addr) (ws : List V), vs = .ref a :: ws ∧ ws.length = ns.length ∧ OexC K C ∧ (∀ f ∈ ns, PySem.W.findIn K (.ref C) f = some none) ∧ H a = some (exo a C none) ∧
  ∀ dx, H dx = none → dx ≠ a → Q .non (upd (upd H dx (exd dx (ns.zip ws).reverse)) a (exo a C (some dx)))
section
variable {P : Program} {w : World} {K : PySem.W.Frag} {mg : Str → Option Value} {base : Heap}
theorem init1 {x qual p g : Str} {st : Stmt} {f : Addr} {fd : FuncData} {p1 p2 p3 p4 : Pos} (Fn : L2.Fun K x qual st f fd) (S : FnScope ["self", p] ["self", p] (defScope st)) (hb : defBody st = [.Assign [.Attribute (.Name "self" p1) g p2] (.Name p p3) p4])
    (hd : (p == ("__debug__" : Str)) = false := by decide) (hcd : (p == ("__classdict__" : Str)) = false := by decide)
    (hs : ∀ (cdv : Value) (a : Addr) (L : Addr), swapsWith (.Name p p3) (some (.Attribute (.Name "self" p1) g p2)) p4.line (envOfC qual (defScope st) L a cdv) = pure false := by intros; rfl) (hv : Vis (defScope st) p := by first | exact Or.inl rfl | exact Or.inr (Or.inl rfl)) (hv0 : Vis (defScope st) "self" := by first | exact Or.inl rfl | exact Or.inr (Or.inl rfl)) :
    FnOk P w K mg base (L2.CX P w) 1 f fd ["self", p] (spI K [g]) := by
  refine Fn.okX S (fun vs H Q E ⟨a, C, ws, e, l, _⟩ => by subst e; simpa using l) (fun cdv A outer s H vs Q E hr ⟨a, C, ws, e, l, T, hno, ha, q⟩ => ?_)
  subst e
  obtain ⟨v, rfl⟩ : ∃ v, ws = [v] := by
    cases ws with
    | nil => cases l
    | cons v r =>
      cases r with
      | nil => exact ⟨v, rfl⟩
      | cons _ _ => cases l
  rw [hb]
  refine ⟨_, pss_one (ps_ost (pe_var (i := 0) rfl hv0) (pe_var (i := 1) rfl hv hd hcd) (hs _ _ _)), ?_⟩
  refine ⟨v, rfl, .ref a, rfl, a, C, rfl, T, hno g (by simp), .inl ⟨ha, fun dx n ne => q dx n ne⟩⟩
theorem init2 {x qual p p' g g' : Str} {st : Stmt} {f : Addr} {fd : FuncData} {p1 p2 p3 p4 q1 q2 q3 q4 : Pos} (Fn : L2.Fun K x qual st f fd) (S : FnScope ["self", p, p'] ["self", p, p'] (defScope st)) (hb : defBody st = [.Assign [.Attribute (.Name "self" p1) g p2] (.Name p p3) p4, .Assign [.Attribute (.Name "self" q1) g' q2] (.Name p' q3) q4])
    (hd : (p == ("__debug__" : Str)) = false := by decide) (hcd : (p == ("__classdict__" : Str)) = false := by decide) (hd' : (p' == ("__debug__" : Str)) = false := by decide) (hcd' : (p' == ("__classdict__" : Str)) = false := by decide)
    (hs : ∀ (cdv : Value) (a : Addr) (L : Addr), swapsWith (.Name p p3) (some (.Attribute (.Name "self" p1) g p2)) p4.line (envOfC qual (defScope st) L a cdv) = pure false := by intros; rfl)
    (hs' : ∀ (cdv : Value) (a : Addr) (L : Addr), swapsWith (.Name p' q3) (some (.Attribute (.Name "self" q1) g' q2)) q4.line (envOfC qual (defScope st) L a cdv) = pure false := by intros; rfl)
    (hv : Vis (defScope st) p := by first | exact Or.inl rfl | exact Or.inr (Or.inl rfl)) (hv' : Vis (defScope st) p' := by first | exact Or.inl rfl | exact Or.inr (Or.inl rfl)) (hv0 : Vis (defScope st) "self" := by first | exact Or.inl rfl | exact Or.inr (Or.inl rfl)) :
    FnOk P w K mg base (L2.CX P w) 1 f fd ["self", p, p'] (spI K [g, g']) := by
  refine Fn.okX S (fun vs H Q E ⟨a, C, ws, e, l, _⟩ => by subst e; simpa using l) (fun cdv A outer s H vs Q E hr ⟨a, C, ws, e, l, T, hno, ha, q⟩ => ?_)
  subst e
  obtain ⟨v, v', rfl⟩ : ∃ v v', ws = [v, v'] := by
    cases ws with
    | nil => cases l
    | cons v r =>
      cases r with
      | nil => cases l
      | cons v' r => cases r with
        | nil => exact ⟨v, v', rfl⟩
        | cons _ _ => cases l
  rw [hb]
  refine ⟨_, pss_cons (ps_ost (pe_var (i := 0) rfl hv0) (pe_var (i := 1) rfl hv hd hcd) (hs _ _ _)) (pss_one (ps_ost (pe_var (i := 0) rfl hv0) (pe_var (i := 2) rfl hv' hd' hcd') (hs' _ _ _))), ?_⟩
  refine ⟨v, rfl, .ref a, rfl, a, C, rfl, T, hno g (by simp), .inl ⟨ha, fun dx n ne => ?_⟩⟩
  refine ⟨v', rfl, .ref a, rfl, a, C, rfl, T, hno g' (by simp), .inr ⟨dx, [(g, v)], upd_same, by rw [upd_ne ne, upd_same], by simp, ?_⟩⟩
  have e : upd (upd (upd H dx (exd dx [(g, v)])) a (exo a C (some dx))) dx (exd dx [(g', v'), (g, v)]) = upd (upd H dx (exd dx [(g', v'), (g, v)])) a (exo a C (some dx)) := by
    funext b
    by_cases h1 : b = dx
    · subst h1; rw [upd_same, upd_ne ne, upd_same]
    · rw [upd_ne h1]
      by_cases h2 : b = a
      · subst h2; rw [upd_same, upd_same]
      · rw [upd_ne h2, upd_ne h1, upd_ne h2, upd_ne h1]
  show Q .non (upd (upd (upd H dx (exd dx [(g, v)])) a (exo a C (some dx))) dx (exd dx [(g', v'), (g, v)]))
  rw [e]
  exact q dx n ne
end
/-- an own exception class over its own __init__ -/
structure RaiOk (P : Program) (w : World) (K : PySem.W.Frag) (mg : Str → Option Value) (base : Heap) (ca : Ca) (c : Nat) (x : Str) (ns : List Str) : Prop where
  ex : ∃ fi fd ps, OexC K (ca c) ∧ PySem.W.findIn K (.ref (ca c)) "__init__" = some (some (.ref fi)) ∧ PySem.W.typeIn K (.ref fi) = some (.type "function") ∧ FnOk P w K mg base (L2.CX P w) 1 fi fd ps (spI K ns) ∧ mg x = some (.ref (ca c)) ∧ Binds K fd ps [] ∧ ∀ f ∈ ns, PySem.W.findIn K (.ref (ca c)) f = some none
def sRaiseI (c : Nat) (ns : List Str) (fa : F (List D)) : FS := fun env st => bndS (fa env st) env fun xs st => if xs.length = ns.length then some (.er c (ns.zip xs).reverse env, st) else none
section
variable {K : PySem.W.Frag} {ca : Ca} {as : Wl} {G : Hp}
theorem isFs_zip : ∀ {ns : List Str} {vs : List V} {ds : List D}, IsDs K ca as G vs ds → IsFs K ca as G (ns.zip vs) (ns.zip ds)
  | [], _, _, _ => .nil
  | _ :: _, [], _, h => by cases h; exact .nil
  | n :: ns, _ :: _, _, h => by cases h with | cons h1 h2 => exact .cons h1 (isFs_zip h2)
theorem isFs_app {vs ws : List (Str × V)} {ds es : List (Str × D)} (h : IsFs K ca as G vs ds) (h' : IsFs K ca as G ws es) : IsFs K ca as G (vs ++ ws) (ds ++ es) := by
  induction ds generalizing vs with
  | nil => cases h; exact h'
  | cons d ds ih => cases h with | cons h1 h2 => exact .cons h1 (ih h2)
theorem isFs_rev {vs : List (Str × V)} {ds : List (Str × D)} (h : IsFs K ca as G vs ds) : IsFs K ca as G vs.reverse ds.reverse := by
  induction ds generalizing vs with
  | nil => cases h; exact .nil
  | cons d ds ih => cases h with | cons h1 h2 => rw [List.reverse_cons, List.reverse_cons]; exact isFs_app (ih h2) (.cons h1 .nil)
end
section
variable {ca : Ca} {X : Cx} {W : WX} {e : Expr} {es : List Expr} {fs : F (List D)} {p pos pos' : Pos} {c j : Nat} {x : Str} {ns : List Str}
theorem js_raiseI (T : RaiOk X.prog X.w X.K X.mg X.base ca c x ns) (hr : Room j X.A) (hk : 2 ≤ j) (hc : X.calm = true) (tk : Takes X W) (ha : JA ca X W (e :: es) fs) (hn : ns.length ≤ 1000 := by decide) (hg : Gl X x := by rfl) (hdb : (x == ("__debug__" : Str)) = false := by decide) (he : starEach (e :: es) X.env = (false, eval e X.env) :: starEach es X.env := by rfl) (hpl : (backTo pos (starEach es X.env)).any (·.1) = false := by rfl) :
    JS ca X W (.Raise (some (.Call (.Name x p) (e :: es) [] pos)) none pos') (sRaiseI c ns fs) := by
  obtain ⟨ta, pa, sa⟩ := ha
  obtain ⟨fi, fd, ps, T1, T2, T3, T4, T5, T6, T7⟩ := T.ex
  refine ⟨_, ps_raise hc tk (pmk_oex T1 T2 T3 T4 (hr.mono hk) T6 .nil (passes_call (E := fun _ _ _ => False) (W := fun _ _ _ _ => False) takes0 (fun _ _ _ _ z => z)) hg T5 pa hdb he hpl), fun as H σ env st E henv hst hp => ?_⟩
  refine sa as H σ env st _ henv hst (PostS.bnd hp henv fun xs st1 vs as1 H1 s1 k1 i1 p1 => ?_)
  by_cases hl : xs.length = ns.length
  · rw [if_pos hl] at p1
    have hv : vs.length = ns.length := i1.len.trans hl
    refine ⟨by omega, fun a na => ?_⟩
    refine ⟨a, ca c, vs, by rw [List.append_nil], hv, T1, T7, upd_same, fun dx n ne => ?_⟩
    have nd : H1 dx = none := by rw [upd_ne ne] at n; exact n
    refine ⟨rfl, dx, _, upd_same, by rw [upd_ne ne, upd_same], nd, ?_⟩
    have e : upd (del (upd (upd (upd H1 a (exo a (ca c) none)) dx (exd dx (ns.zip vs).reverse)) a (exo a (ca c) (some dx))) a) dx (.xd (ns.zip vs).reverse) = upd H1 dx (.xd (ns.zip vs).reverse) := by
      funext b
      by_cases h1 : b = dx
      · subst h1; rw [upd_same, upd_same]
      · rw [upd_ne h1, upd_ne h1]
        by_cases h2 : b = a
        · subst h2; rw [del_same, na]
        · rw [del_ne h2, upd_ne h2, upd_ne h1, upd_ne h2]
    rw [e]
    exact p1 _ _ σ as1 _ (Step.laid nd) (k1.laid nd) ((henv.step s1).step (Step.laid nd)) ⟨rfl, .inr ⟨dx, _, rfl, stab_laid k1 nd, isFs_rev (isFs_zip (i1.step (Step.laid nd)))⟩⟩
  · rw [if_neg hl] at p1
    exact p1.elim
end
/-! ### what is held -/
def Ca.hold (ca : Ca) (j : Nat) (a : Addr) (d : Option Addr) : Ca := ⟨ca.cls, fun i => if i = j then some (a, d) else ca.opq i, ca.w⟩
theorem hold_at {ca : Ca} {j : Nat} {a : Addr} {d : Option Addr} : (ca.hold j a d).opq j = some (a, d) := if_pos rfl
mutual
def nox : D → Bool
  | .opq _ _ => false
  | .tup ds => noxs ds
  | .lst ds => noxs ds
  | .fls ds => noxs ds
  | .ins _ fs => noxf fs
  | .dic ks vs => noxs ks && noxs vs
  | .dik ks vs => noxs ks && noxs vs
  | .lok _ _ => false
  | _ => true
def noxs : List D → Bool
  | [] => true
  | d :: ds => nox d && noxs ds
def noxf : List (Str × D) → Bool
  | [] => true
  | (_, d) :: ds => nox d && noxf ds
end
def noxk : List (Int × D) → Bool
  | [] => true
  | (_, d) :: ds => nox d && noxk ds
def noxc : Cell → Bool
  | .lst ds => noxs ds
  | .ins _ fs => noxf fs
  | .dct ks => noxk ks
  | .dcs ks => noxf ks
  | .dck ks vs => noxs ks && noxs vs
def noxe : Option D → Bool
  | some d => nox d
  | none => true
section
variable {K : PySem.W.Frag} {ca ca' : Ca} {as : Wl} {G : Hp}
mutual
theorem IsD.toC (h1 : ca'.cls = ca.cls) (h2 : ca'.w = ca.w) (h3 : ∀ j q, ca.opq j = some q → ca'.opq j = some q) {v : V} {d : D} (h : IsD K ca as G v d) : IsD K ca' as G v d := by
  cases h with
  | non => exact .non
  | bl b => exact .bl b
  | int i => exact .int i
  | str x => exact .str x
  | tup a b => exact .tup a (IsDs.toC h1 h2 h3 b)
  | lst a b => exact .lst a (IsDs.toC h1 h2 h3 b)
  | fls a b => exact .fls a (IsDs.toC h1 h2 h3 b)
  | ins a b c => exact .ins (a.trans (congrFun h1.symm _)) b (IsFs.toC h1 h2 h3 c)
  | cell a => exact .cell a
  | opq0 a => exact .opq0 (h3 _ _ a)
  | opq1 a b c => exact .opq1 (h3 _ _ a) b (IsFs.toC h1 h2 h3 c)
  | dic a b c d e => exact .dic a b c (IsDs.toC h1 h2 h3 d) (IsDs.toC h1 h2 h3 e)
  | lok a b c d e => exact .lok a b c (IsDs.toC h1 h2 h3 d) (IsDs.toC h1 h2 h3 e)
  | dik a z b c d e => exact .dik (by rw [h2]; exact a) z b c (IsDs.toC h1 h2 h3 d) (IsDs.toC h1 h2 h3 e)
theorem IsDs.toC (h1 : ca'.cls = ca.cls) (h2 : ca'.w = ca.w) (h3 : ∀ j q, ca.opq j = some q → ca'.opq j = some q) {v : List V} {d : List D} (h : IsDs K ca as G v d) : IsDs K ca' as G v d := by
  cases h with
  | nil => exact .nil
  | cons a b => exact .cons (IsD.toC h1 h2 h3 a) (IsDs.toC h1 h2 h3 b)
theorem IsFs.toC (h1 : ca'.cls = ca.cls) (h2 : ca'.w = ca.w) (h3 : ∀ j q, ca.opq j = some q → ca'.opq j = some q) {v : List (Str × V)} {d : List (Str × D)} (h : IsFs K ca as G v d) : IsFs K ca' as G v d := by
  cases h with
  | nil => exact .nil
  | cons a b => exact .cons (IsD.toC h1 h2 h3 a) (IsFs.toC h1 h2 h3 b)
end
mutual
theorem IsD.un (h1 : ca'.cls = ca.cls) (h2 : ca'.w = ca.w) {v : V} {d : D} (h : IsD K ca' as G v d) (p : nox d = true) : IsD K ca as G v d := by
  cases h with
  | non => exact .non
  | bl b => exact .bl b
  | int i => exact .int i
  | str x => exact .str x
  | tup a b => unfold nox at p; exact .tup a (IsDs.un h1 h2 b p)
  | lst a b => unfold nox at p; exact .lst a (IsDs.un h1 h2 b p)
  | fls a b => unfold nox at p; exact .fls a (IsDs.un h1 h2 b p)
  | ins a b c => unfold nox at p; exact .ins (a.trans (congrFun h1 _)) b (IsFs.un h1 h2 c p)
  | cell a => exact .cell a
  | opq0 a => unfold nox at p; cases p
  | opq1 a b c => unfold nox at p; cases p
  | dic a b c d e => unfold nox at p; rw [Bool.and_eq_true] at p; exact .dic a b c (IsDs.un h1 h2 d p.1) (IsDs.un h1 h2 e p.2)
  | lok a b c d e => unfold nox at p; cases p
  | dik a z b c d e => unfold nox at p; rw [Bool.and_eq_true] at p; exact .dik (by rw [← h2]; exact a) z b c (IsDs.un h1 h2 d p.1) (IsDs.un h1 h2 e p.2)
theorem IsDs.un (h1 : ca'.cls = ca.cls) (h2 : ca'.w = ca.w) {v : List V} {d : List D} (h : IsDs K ca' as G v d) (p : noxs d = true) : IsDs K ca as G v d := by
  cases h with
  | nil => exact .nil
  | cons a b => unfold noxs at p; rw [Bool.and_eq_true] at p; exact .cons (IsD.un h1 h2 a p.1) (IsDs.un h1 h2 b p.2)
theorem IsFs.un (h1 : ca'.cls = ca.cls) (h2 : ca'.w = ca.w) {v : List (Str × V)} {d : List (Str × D)} (h : IsFs K ca' as G v d) (p : noxf d = true) : IsFs K ca as G v d := by
  cases h with
  | nil => exact .nil
  | cons a b => unfold noxf at p; rw [Bool.and_eq_true] at p; exact .cons (IsD.un h1 h2 a p.1) (IsFs.un h1 h2 b p.2)
end
theorem IsKs.toC (h1 : ca'.cls = ca.cls) (h2 : ca'.w = ca.w) (h3 : ∀ j q, ca.opq j = some q → ca'.opq j = some q) : ∀ {r : List (Key × V)} {s : List (Int × D)}, IsKs K ca as G r s → IsKs K ca' as G r s
  | [], [], _ => trivial
  | [], _ :: _, h => h.elim
  | _ :: _, [], h => h.elim
  | (_, _) :: _, (_, _) :: _, h => ⟨h.1, h.2.1.toC h1 h2 h3, IsKs.toC h1 h2 h3 h.2.2⟩
theorem IsKt.toC (h1 : ca'.cls = ca.cls) (h2 : ca'.w = ca.w) (h3 : ∀ j q, ca.opq j = some q → ca'.opq j = some q) : ∀ {r : List (Key × V)} {s : List (Str × D)}, IsKt K ca as G r s → IsKt K ca' as G r s
  | [], [], _ => trivial
  | [], _ :: _, h => h.elim
  | _ :: _, [], h => h.elim
  | (_, _) :: _, (_, _) :: _, h => ⟨h.1, h.2.1.toC h1 h2 h3, IsKt.toC h1 h2 h3 h.2.2⟩
theorem IsKs.un (h1 : ca'.cls = ca.cls) (h2 : ca'.w = ca.w) : ∀ {r : List (Key × V)} {s : List (Int × D)}, IsKs K ca' as G r s → noxk s = true → IsKs K ca as G r s
  | [], [], _, _ => trivial
  | [], _ :: _, h, _ => h.elim
  | _ :: _, [], h, _ => h.elim
  | (_, _) :: _, (_, _) :: _, h, p => by unfold noxk at p; rw [Bool.and_eq_true] at p; exact ⟨h.1, h.2.1.un h1 h2 p.1, IsKs.un h1 h2 h.2.2 p.2⟩
theorem IsKt.un (h1 : ca'.cls = ca.cls) (h2 : ca'.w = ca.w) : ∀ {r : List (Key × V)} {s : List (Str × D)}, IsKt K ca' as G r s → noxf s = true → IsKt K ca as G r s
  | [], [], _, _ => trivial
  | [], _ :: _, h, _ => h.elim
  | _ :: _, [], h, _ => h.elim
  | (_, _) :: _, (_, _) :: _, h, p => by unfold noxf at p; rw [Bool.and_eq_true] at p; exact ⟨h.1, h.2.1.un h1 h2 p.1, IsKt.un h1 h2 h.2.2 p.2⟩
theorem CellOk.toC (h1 : ca'.cls = ca.cls) (h2 : ca'.w = ca.w) (h3 : ∀ j q, ca.opq j = some q → ca'.opq j = some q) {a : Addr} {o : Option HO} {c : Cell} (h : CellOk K ca as G a o c) : CellOk K ca' as G a o c := by
  cases o with
  | none => exact h.elim
  | some o =>
    cases o <;> cases c <;> first | exact h.elim | exact IsDs.toC h1 h2 h3 h | exact IsKs.toC h1 h2 h3 h | exact IsKt.toC h1 h2 h3 h | exact ⟨h.1.trans (congrFun h1.symm _), IsFs.toC h1 h2 h3 h.2⟩ | exact h.imp fun xs h => ⟨by rw [h2]; exact h.1, h.2.1, h.2.2.1.toC h1 h2 h3, h.2.2.2.toC h1 h2 h3⟩
theorem CellOk.un (h1 : ca'.cls = ca.cls) (h2 : ca'.w = ca.w) {a : Addr} {o : Option HO} {c : Cell} (h : CellOk K ca' as G a o c) (p : noxc c = true) : CellOk K ca as G a o c := by
  cases o with
  | none => exact h.elim
  | some o =>
    cases o <;> cases c <;> unfold noxc at p <;> first | exact h.elim | exact IsDs.un h1 h2 h p | exact IsKs.un h1 h2 h p | exact IsKt.un h1 h2 h p | exact ⟨h.1.trans (congrFun h1 _), IsFs.un h1 h2 h.2 p⟩ | (rw [Bool.and_eq_true] at p; exact h.imp fun xs h => ⟨by rw [← h2]; exact h.1, h.2.1, h.2.2.1.un h1 h2 p.1, h.2.2.2.un h1 h2 p.2⟩)
theorem StOk.toC {H : Hp} {st : Sta} (h1 : ca'.cls = ca.cls) (h2 : ca'.w = ca.w) (h3 : ∀ j q, ca.opq j = some q → ca'.opq j = some q) (h : StOk K ca as H st) : StOk K ca' as H st := ⟨h.nd, h.len, h.hid, fun k a c e1 e2 => (h.at_ k a c e1 e2).toC h1 h2 h3⟩
theorem StOk.un {H : Hp} {st : Sta} (h1 : ca'.cls = ca.cls) (h2 : ca'.w = ca.w) (h : StOk K ca' as H st) (p : st.all noxc = true) : StOk K ca as H st := ⟨h.nd, h.len, h.hid, fun k a c e1 e2 => (h.at_ k a c e1 e2).un h1 h2 (List.all_eq_true.mp p c (List.mem_of_getElem? e2))⟩
theorem EnvOk.toC {σ : L2.St} {env : Evn} (h1 : ca'.cls = ca.cls) (h2 : ca'.w = ca.w) (h3 : ∀ j q, ca.opq j = some q → ca'.opq j = some q) (h : EnvOk K ca as G σ env) : EnvOk K ca' as G σ env := ⟨h.len, fun i d e => let ⟨v, a, b⟩ := h.at_ i d e; ⟨v, a, b.toC h1 h2 h3⟩⟩
theorem EnvOk.un {σ : L2.St} {env : Evn} (h1 : ca'.cls = ca.cls) (h2 : ca'.w = ca.w) (h : EnvOk K ca' as G σ env) (p : env.all noxe = true) : EnvOk K ca as G σ env := ⟨h.len, fun i d e => let ⟨v, a, b⟩ := h.at_ i d e; ⟨v, a, b.un h1 h2 (List.all_eq_true.mp p (some d) (List.mem_of_getElem? e))⟩⟩
end
end DS

namespace DS
open PySem L2 PySem.Spec PyProof.Rows
/-! ### try, one clause with a name -/
/-- what a suite hands on: nothing that is held -/
def shutO (i : Nat) : Option (O × Sta) → Option (O × Sta)
  | some (.rt d, st) => if nox d = true ∧ st.all noxc = true then some (.rt d, st) else none
  | some (.nx env, st) => if (env.set i none).all noxe = true ∧ st.all noxc = true then some (.nx (env.set i none), st) else none
  | some (.bk env, st) => if (env.set i none).all noxe = true ∧ st.all noxc = true then some (.bk (env.set i none), st) else none
  | some (.ct env, st) => if (env.set i none).all noxe = true ∧ st.all noxc = true then some (.ct (env.set i none), st) else none
  | _ => none
def sTryAs (cc : Nat → Option Bool) (i : Nat) (f g : FS) : FS := fun env st => match f env st with
  | some (.er c fs env', st') => (match cc c with
    | some true => shutO i (g (env'.set i (some (.opq c fs))) st')
    | some false => some (.er c fs env', st')
    | none => none)
  | r => r
section
variable {ca : Ca} {X : Cx} {W : WX}
theorem EnvOk.put {K : PySem.W.Frag} {as : Wl} {G : Hp} {σ : L2.St} {env : Evn} (h : EnvOk K ca as G σ env) {i : Nat} {v : V} {d : D} (hv : IsD K ca as G v d) : EnvOk K ca as G (σ.set i (some v)) (env.set i (some d)) := by
  refine ⟨by rw [List.length_set, List.length_set]; exact h.len, fun j d' e => ?_⟩
  by_cases hj : i = j
  · subst hj
    have hl : i < env.length := by
      have := (List.getElem?_eq_some_iff.mp e).1
      rwa [List.length_set] at this
    rw [List.getElem?_set_self hl] at e
    cases e
    exact ⟨v, List.getElem?_set_self (by rw [h.len]; exact hl), hv⟩
  · rw [List.getElem?_set_ne hj] at e
    obtain ⟨u, e1, e2⟩ := h.at_ j d' e
    exact ⟨u, by rw [List.getElem?_set_ne hj]; exact e1, e2⟩
theorem EnvOk.drop {K : PySem.W.Frag} {as : Wl} {G : Hp} {σ : L2.St} {env : Evn} (h : EnvOk K ca as G σ env) (i : Nat) : EnvOk K ca as G (σ.set i none) (env.set i none) := by
  refine ⟨by rw [List.length_set, List.length_set]; exact h.len, fun j d' e => ?_⟩
  by_cases hj : i = j
  · subst hj
    have hl : i < env.length := by
      have := (List.getElem?_eq_some_iff.mp e).1
      rwa [List.length_set] at this
    rw [List.getElem?_set_self hl] at e
    cases e
  · rw [List.getElem?_set_ne hj] at e
    obtain ⟨u, e1, e2⟩ := h.at_ j d' e
    exact ⟨u, by rw [List.getElem?_set_ne hj]; exact e1, e2⟩
theorem PostS.shut {K : PySem.W.Frag} {as : Wl} {H : Hp} {ca' : Ca} {W W' : WX} {E : Ends} {i : Nat} {m : Option (O × Sta)} (h1 : ca'.cls = ca.cls) (h2 : ca'.w = ca.w) (h : PostS K ca W as H (shutO i m) E) :
    PostS K ca' W' as H m { nx := fun σ' H' => E.nx (σ'.set i none) H', rt := E.rt, bk := fun σ' H' => E.bk (σ'.set i none) H', ct := fun σ' H' => E.ct (σ'.set i none) H' } := by
  cases m with
  | none => exact h
  | some r =>
    obtain ⟨o, st⟩ := r
    cases o with
    | rt d =>
      intro v as' H' s k e
      unfold shutO at h
      dsimp only at h
      split at h
      · rename_i q
        exact h v as' H' s (k.un h1 h2 q.2) (e.un h1 h2 q.1)
      · exact h.elim
    | nx env =>
      intro σ as' H' s k e
      unfold shutO at h
      dsimp only at h
      split at h
      · rename_i q
        exact h _ as' H' s (k.un h1 h2 q.2) ((e.drop i).un h1 h2 q.1)
      · exact h.elim
    | bk env =>
      intro σ as' H' s k e
      unfold shutO at h
      dsimp only at h
      split at h
      · rename_i q
        exact h _ as' H' s (k.un h1 h2 q.2) ((e.drop i).un h1 h2 q.1)
      · exact h.elim
    | ct env =>
      intro σ as' H' s k e
      unfold shutO at h
      dsimp only at h
      split at h
      · rename_i q
        exact h _ as' H' s (k.un h1 h2 q.2) ((e.drop i).un h1 h2 q.1)
      · exact h.elim
    | er c fs env => exact h.elim
theorem js_tryas {cc : Nat → Option Bool} {f g : FS} {x n : Str} {cv : Value} {body suite : List Stmt} {b₀ : Stmt} {np pos' pos : Pos} (i : Nat) (h0 : ca.opq = fun _ => none) (hs : X.stack = X.env :: X.outer) (hf : X.env.frame = some X.env.locals) (hN : X.N.Nodup) (hc : Names X x cv) (tk : Takes X W)
    (hx : ∀ c b, cc c = some b → PySem.W.exmOne X.K (.ref (ca c)) cv = some b)
    (hb : ∀ (W : WX) (pn : List (Addr × Obj)) (xe : Value → Shared → Prop), Takes (X.tr pn xe) W → PassesOwn (model X.prog X.w) X.A X.env xe → JB ca (X.tr pn xe) W body f)
    (hsu : ∀ (a : Addr) (oe : Obj) (c : Nat) (d : Option Addr) (pn : List (Addr × Obj)), cc c = some true → Zc (.ref (ca c)) d oe → (∃ vs, oe.data = .fields vs) → JB (ca.hold c a d) (X.suite a ((a, oe) :: pn)) W (b₀ :: suite) g)
    (hi : X.N[i]? = some n := by rfl) (hln : X.env.kindOf n = some .local := by rfl) :
    JS ca X W (.Try body [.ExceptHandler (some (.Name x np)) (some n) (b₀ :: suite) pos'] [] [] pos) (sTryAs cc i f g) := by
  refine ⟨_, ps_try_as (i := i) (Wout := W) (tb := fun W => tsF X.K ca W f) (ts := fun a cls d E σ H => ∃ c as env st, cc c = some true ∧ cls = .ref (ca c) ∧ EnvOk X.K (ca.hold c a d) as (stab as H) σ env ∧ StOk X.K (ca.hold c a d) as H st ∧ PostS X.K (ca.hold c a d) W as H (g env st) E)
    hs hf hN hi hln hc tk (fun W pn xe t p => jb_canon (hb W pn xe t p)) (fun a oe cls d pn z v => ⟨fun pins s σ H E I ⟨c, as, env, st, hcc, ecls, he, hst, hp⟩ => ?_⟩), fun as H σ env st E henv hst hp => ⟨as, env, st, henv, hst, ?_⟩⟩
  · subst ecls
    obtain ⟨t, p, q⟩ := hsu a oe c d pn hcc z v
    exact p.run pins s σ H E I (q as H σ env st E he hst hp)
  unfold sTryAs at hp
  cases r : f env st with
  | none => rw [r] at hp; exact hp
  | some o =>
    obtain ⟨o, st'⟩ := o
    rw [r] at hp
    cases o with
    | nx env' => exact hp
    | rt d => exact hp
    | bk env' => exact hp
    | ct env' => exact hp
    | er c fs env' =>
      dsimp only at hp
      intro cls dd σ' as' H' s' k' i' j'
      cases q : cc c with
      | none => rw [q] at hp; exact hp.elim
      | some b =>
        rw [q] at hp
        refine ⟨b, by rw [j'.1]; exact hx c b q, fun hb a _ => ?_, fun hb => ?_⟩
        · subst hb
          have hop : ∀ j q, ca.opq j = some q → (ca.hold c a dd).opq j = some q := fun j q z => by rw [h0] at z; cases z
          have he2 : EnvOk X.K (ca.hold c a dd) as' (stab as' H') σ' env' := EnvOk.toC (ca := ca) (ca' := ca.hold c a dd) rfl rfl hop i'
          have hs2 : StOk X.K (ca.hold c a dd) as' H' st' := StOk.toC (ca := ca) (ca' := ca.hold c a dd) rfl rfl hop k'
          refine ⟨c, as', env'.set i (some (.opq c fs)), st', q, j'.1, he2.put (v := .ref a) (d := .opq c fs) ?_, hs2, PostS.shut (ca := ca) (ca' := ca.hold c a dd) rfl rfl (PostS.step hp s')⟩
          rcases j'.2 with ⟨rfl, rfl⟩ | ⟨p, vs, rfl, e2, e3⟩
          · exact .opq0 hold_at
          · exact .opq1 hold_at e2 (IsFs.toC (ca := ca) (ca' := ca.hold c a (some p)) rfl rfl hop e3)
        · subst hb
          exact hp cls dd σ' as' H' s' k' i' j'
/-! ### in the suite -/
def oXf (n : Str) (x : D) (st : Sta) : Option (R D) := match x with | .opq _ fs => (match fs.lookup n with | some v => some (.ok v st) | none => none) | _ => none
def fXf (n : Str) (fa : F D) : F D := fun env st => bnd (fa env st) fun x st => oXf n x st
theorem je_xf {c : Nat} {a : Addr} {d : Option Addr} {oe : Obj} {pn : List (Addr × Obj)} {e : Expr} {fa : F D} {n : Str} {pos : Pos} (h0 : ca.opq = fun _ => none) (T : XfC X.K (ca c)) (hno : PySem.W.findIn X.K (.ref (ca c)) n = some none) (hz : Zc (.ref (ca c)) d oe) (hf : ∃ vs, oe.data = .fields vs)
    (h : JE (ca.hold c a d) (X.suite a ((a, oe) :: pn)) W e fa) (hb : attributeBase e n X.env (eval e X.env) = eval e X.env := by rfl) : JE (ca.hold c a d) (X.suite a ((a, oe) :: pn)) W (.Attribute e n pos) (fXf n fa) := by
  obtain ⟨te, pe, se⟩ := h
  refine ⟨_, pe_xf T hno hz hf pe hb, fun as H σ env st Q he hs hp => ?_⟩
  refine se as H σ env st _ he hs (Post.bnd hp fun x st1 v as1 H1 s1 k1 i1 p1 => ?_)
  have key : ∀ {j q}, (ca.hold c a d).opq j = some q → q = (a, d) := fun {j q} z => by
    have z' : (if j = c then some (a, d) else ca.opq j) = some q := z
    split at z'
    · exact (Option.some.inj z').symm
    · rw [h0] at z'; cases z'
  cases i1 with
  | opq0 h1 =>
    unfold oXf at p1
    exact p1.elim
  | opq1 h1 h2 h3 =>
    cases key h1
    unfold oXf at p1
    dsimp only at p1
    split at p1
    · rename_i v' ev
      obtain ⟨u, eu, iu⟩ := h3.look ev
      exact ⟨rfl, rfl, _, _, u, rfl, (stab_sub _ _) _ _ h2, eu, p1.here k1 iu⟩
    · exact p1.elim
  | _ => exact False.elim p1
/-- isinstance(e, C), e held -/
def oIsE (p : Nat → Option Bool) (x : D) (st : Sta) : Option (R D) := match x with | .opq c _ => (match p c with | some b => some (.ok (.bl b) st) | none => none) | _ => none
def fIsE (p : Nat → Option Bool) (fa : F D) : F D := fun env st => bnd (fa env st) fun x st => oIsE p x st
def rIsX (K : PySem.W.Frag) (D a : Addr) (d : Option Addr) : List V → Hp → VK → Prop := fun xs H Q => ∃ (c : V) (cv : Value) (b : Bool), xs = [.ref a, c] ∧ (∀ u, RelV c u → u = cv) ∧ PySem.W.kitOne K (.ref D) cv = some b ∧ (∀ dd, d = some dd → ∃ fs, H dd = some (.xd fs)) ∧ Q (.bl b) H
theorem call_isX {X : Cx} {a C : Addr} {d : Option Addr} {oe : Obj} {pn : List (Addr × Obj)} (T : ExcC X.K C) (hz : Zc (.ref C) d oe) (hf : ∃ vs, oe.data = .fields vs) : CallR (X.suite a ((a, oe) :: pn)) (.builtin "isinstance") (rIsX X.K C a d) := by
  intro pins s σ H xs us Q I r h
  obtain ⟨c, cv, b, rfl, hcv, e, hd, q⟩ := h
  cases r with
  | cons rx rr =>
    cases rr with
    | cons rt rr =>
      cases rr
      cases rx
      have ec := hcv _ rt
      subst ec
      obtain ⟨hget, _⟩ := I.pin (a, oe) (List.mem_append.mpr (.inl List.mem_cons_self))
      obtain ⟨vs, hv⟩ := hf
      have J : ∃ od, PySem.W.InstAt s.heap a oe C od := by
        obtain ⟨oc, od, oda, osl⟩ := oe
        obtain ⟨h1, h2⟩ := hz
        dsimp only at h1 h2 hv
        subst h1 h2 hv
        cases od with
        | none => exact ⟨none, hget, rfl, rfl, trivial⟩
        | some dd =>
          obtain ⟨fs, ef⟩ := hd dd rfl
          have hx : ObjOk X.prog X.w H s.heap dd (.xd fs) := I.hok dd _ ef
          obtain ⟨mA, ⟨o, _, _, ho, _⟩, _⟩ := hx
          exact ⟨some o, hget, rfl, rfl, ho⟩
      obtain ⟨od, J⟩ := J
      exact PySem.W.kia_one (PySem.W.kitx_exc (by obtain ⟨cd, hc, _⟩ := PySem.W.any_some T.hd; rw [hc]; rfl) T.hg T.hk T.hs T.ha T.hn T.ht T.hm) I.kIn J e (fun z => nomatch z) fun tk => ⟨.bl b, H, I.kept (t' := tk) fun _ _ z => z, rfl, q⟩
theorem je_isE {c : Nat} {a : Addr} {d : Option Addr} {oe : Obj} {pn : List (Addr × Obj)} {e : Expr} {fa : F D} {x : Str} {u : Addr} {p : Nat → Option Bool} {p1 p2 pos : Pos} (h0 : ca.opq = fun _ => none) (T : ExcC X.K (ca c)) (hz : Zc (.ref (ca c)) d oe) (hf : ∃ vs, oe.data = .fields vs)
    (hmi : X.mg "isinstance" = none) (hmx : X.mg x = some (.ref u)) (hp : ∀ b, p c = some b → PySem.W.kitOne X.K (.ref (ca c)) (.ref u) = some b)
    (h : JE (ca.hold c a d) (X.suite a ((a, oe) :: pn)) W e fa) (hgi : Gl X "isinstance" := by rfl) (hgx : Gl X x := by rfl) (hdb : (x == ("__debug__" : Str)) = false := by decide)
    (hs1 : starEach [.Name x p2] X.env = [(false, eval (.Name x p2) X.env)] := by rfl) (hs : starEach [e, .Name x p2] X.env = (false, eval e X.env) :: starEach [.Name x p2] X.env := by rfl) :
    JE (ca.hold c a d) (X.suite a ((a, oe) :: pn)) W (.Call (.Name "isinstance" p1) [e, .Name x p2] [] pos) (fIsE p fa) := by
  obtain ⟨te, pe, se⟩ := h
  refine ⟨_, pe_callB (X := X.suite a ((a, oe) :: pn)) (call_isX T hz hf) hgi hmi (by decide +kernel) (pa_cons pe (pa_cons (pe_glob (v := .ref u) hgx hmx rfl hdb) pa_nil (by rw [show (X.suite a ((a, oe) :: pn)).env = X.env from rfl, hs1]; rfl)) hs) (he := hs) (hpl := by rw [show (X.suite a ((a, oe) :: pn)).env = X.env from rfl, hs1]; rfl), fun as H σ env st Q he hst hq => ?_⟩
  refine se as H σ env st _ he hst (Post.bnd hq fun x st1 v as1 H1 s1 k1 i1 p1 => ?_)
  have key : ∀ {j q}, (ca.hold c a d).opq j = some q → j = c ∧ q = (a, d) := fun {j q} z => by
    have z' : (if j = c then some (a, d) else ca.opq j) = some q := z
    split at z'
    · rename_i e; exact ⟨e, (Option.some.inj z').symm⟩
    · rw [h0] at z'; cases z'
  cases i1 with
  | opq0 h1 =>
    obtain ⟨rfl, e2⟩ := key h1
    cases e2
    unfold oIsE at p1
    dsimp only at p1
    split at p1
    · rename_i b eb
      exact ⟨.ref u, .ref u, b, rfl, fun w hw => hw, hp b eb, (fun dd e => by cases e), p1.here k1 (.bl b)⟩
    · exact p1.elim
  | opq1 h1 h2 h3 =>
    obtain ⟨rfl, e2⟩ := key h1
    cases e2
    unfold oIsE at p1
    dsimp only at p1
    split at p1
    · rename_i b eb
      exact ⟨.ref u, .ref u, b, rfl, fun w hw => hw, hp b eb, (fun dd e => by cases e; exact ⟨_, (stab_sub _ _) _ _ h2⟩), p1.here k1 (.bl b)⟩
    · exact p1.elim
  | _ => exact False.elim p1
end
end DS
namespace DS
open PySem L2 PySem.Spec PyProof.Rows
theorem js_tryasE {ca : Ca} {X : Cx} {W : WX} {cc : Nat → Option Bool} {f g : FS} {x n : Str} {body suite : List Stmt} {b₀ : Stmt} {np pos' pos : Pos} (i : Nat) (h0 : ca.opq = fun _ => none) (hs : X.stack = X.env :: X.outer) (hf : X.env.frame = some X.env.locals) (hN : X.N.Nodup)
    (hc : ∃ u, X.mg x = some (.ref u) ∧ ∀ c b, cc c = some b → PySem.W.exmOne X.K (.ref (ca c)) (.ref u) = some b) (tk : Takes X W)
    (hb : ∀ (W : WX) (pn : List (Addr × Obj)) (xe : Value → Shared → Prop), Takes (X.tr pn xe) W → PassesOwn (model X.prog X.w) X.A X.env xe → JB ca (X.tr pn xe) W body f)
    (hsu : ∀ (a : Addr) (oe : Obj) (c : Nat) (d : Option Addr) (pn : List (Addr × Obj)), cc c = some true → Zc (.ref (ca c)) d oe → (∃ vs, oe.data = .fields vs) → JB (ca.hold c a d) (X.suite a ((a, oe) :: pn)) W (b₀ :: suite) g)
    (hg : Gl X x := by rfl) (hd : (x == ("__debug__" : Str)) = false := by decide) (hi : X.N[i]? = some n := by rfl) (hln : X.env.kindOf n = some .local := by rfl) :
    JS ca X W (.Try body [.ExceptHandler (some (.Name x np)) (some n) (b₀ :: suite) pos'] [] [] pos) (sTryAs cc i f g) := by
  obtain ⟨u, hm, hx⟩ := hc
  exact js_tryas i h0 hs hf hN ⟨hg, hd, .inl hm⟩ tk hx hb hsu hi hln
end DS

namespace DS
open PySem L2 PySem.Spec PyProof.Rows
/-! ### methods of lists that are changed; += ; range with a step -/
section
variable {K : PySem.W.Frag} {ca : Ca}
theorem cell_lst {as : Wl} {H : Hp} {st : Sta} {j : Nat} {a : Addr} {ds : List D} (k : StOk K ca as H st) (e : as.as[j]? = some a) (h : st[j]? = some (.lst ds)) : ∃ xs, H a = some (.lst xs) ∧ IsDs K ca as (stab as H) xs ds := by
  have c := k.at_ j a _ e h
  cases hq : H a with
  | none => rw [hq] at c; exact c.elim
  | some u =>
    rw [hq] at c
    cases u <;> first | exact False.elim c | exact ⟨_, rfl, c⟩
theorem isDs_dropLast {as : Wl} {G : Hp} {vs : List V} {ds : List D} (h : IsDs K ca as G vs ds) : IsDs K ca as G vs.dropLast ds.dropLast := by
  rw [List.dropLast_eq_take, List.dropLast_eq_take, h.len]
  exact h.take _
end
def oExt (k : Nat) (d : D) (st : Sta) : Option (R D) := match st[k]?, lsOf d st with
  | some (.lst ds), some es => if ds.length + es.length ≤ 100000 then some (.ok .non (st.set k (.lst (ds ++ es)))) else none
  | _, _ => none
def fExt (fo fa : F D) : F D := fun env st => bnd (fo env st) fun o st => match o with
  | .cell k => if isLst st[k]? = true then bnd (fa env st) fun d st => oExt k d st else none
  | _ => none
def oPop (k : Nat) (st : Sta) : Option (R D) := match st[k]? with
  | some (.lst ds) => (match ds[ds.length - 1]? with | some d => some (.ok d (st.set k (.lst ds.dropLast))) | none => none)
  | _ => none
def fPop (fo : F D) : F D := fun env st => bnd (fo env st) fun o st => match o with
  | .cell k => oPop k st
  | _ => none
/-- x += e, whole numbers; lists that are changed -/
def sAugI (i : Nat) (fa : F D) : FS := fun env st => match env[i]? with
  | some (some (.int m)) => bndS (fa env st) env fun y st => (match y with | .int n => some (.nx (env.set i (some (.int (m + n)))), st) | _ => none)
  | _ => none
def sAugL (i : Nat) (fa : F D) : FS := fun env st => match env[i]? with
  | some (some (.cell k)) => bndS (fa env st) env fun y st => (match oExt k y st with | some (.ok _ st) => some (.nx env, st) | _ => none)
  | _ => none
def rngC (lo c : Int) (n : Nat) : List D := (List.range n).map fun (i : Nat) => D.int (lo + (i : Int) * c)
def iR3 (fa fb fc : F D) : F (List D) := fun env st => bnd (fa env st) fun x st => bnd (fb env st) fun y st => bnd (fc env st) fun z st => match x, y, z with
  | .int i, .int j, .int c => if c ≠ 0 ∧ c.natAbs < 1073741824 ∧ Builtin.Range.small i j c = true ∧ 0 ≤ Builtin.Range.rangeSize i j c then some (.ok (rngC i c (Builtin.Range.rangeSize i j c).toNat) st) else none
  | _, _, _ => none
section
variable {ca : Ca} {X : Cx} {W : WX} {e : Expr} {fa fb fc : F D} {pos : Pos} {tg : Expr}
theorem je_extend {o : Expr} {fo : F D} {apos cpos : Pos} (ho : JE ca X W o fo) (ha : JE ca X W e fa) (hb : attributeBase o "extend" X.env (eval o X.env) = eval o X.env := by rfl)
    (h2 : ((((backTo cpos (starEach [e] X.env)).all fun x => !x.1) && (backToKw cpos (keywordEach [] X.env)).all fun x => x.1.isSome) && decide (([e].length + ([] : List Keyword).length + if ([] : List Keyword).isEmpty = true then 0 else 1) < 30)) = true := by rfl)
    (h3 : (apos.endLine == cpos.line) = true := by rfl) (h4 : starEach [e] X.env = (false, eval e X.env) :: starEach [] X.env := by rfl) (h5 : ((backTo cpos (starEach [] X.env)).any fun x => x.1) = false := by rfl) :
    JE ca X W (.Call (.Attribute o "extend" apos) [e] [] cpos) (fExt fo fa) := by
  obtain ⟨to, p, q⟩ := ho
  obtain ⟨ta, p2, q2⟩ := ha
  refine ⟨_, pe_bm PySem.F.plainAttrs_list PySem.F.slot_list_extend PySem.F.type_list_extend mt_extend p (pa_cons p2 pa_nil h4) hb h2 h3 h4 h5, fun as H σ env st Q he hs hp => ?_⟩
  refine q as H σ env st _ he hs (Post.bnd hp fun od st1 v as1 H1 s1 k1 i1 p1 => ?_)
  cases i1 with
  | @cell a j hj =>
    dsimp only at p1
    by_cases hl : isLst st1[j]? = true
    · rw [if_pos hl] at p1
      have hty : tyV X.K "list" (.ref a) H1 := by
        unfold isLst at hl
        split at hl
        · rename_i ds e
          obtain ⟨xs, hx, _⟩ := cell_lst k1 hj e
          exact .inl ⟨rfl, xs, SqL.of hx⟩
        · cases hl
      refine ⟨hty, ?_⟩
      refine q2 as1 H1 σ env st1 _ (he.step s1) k1 (Post.bnd p1 fun d st2 w as2 H2 s2 k2 i2 p2 => ?_)
      have hj2 := pre_get s2.pre hj
      unfold oExt at p2
      split at p2
      · rename_i ds es e e2
        obtain ⟨xs, hx, hd⟩ := cell_lst k2 hj2 e
        obtain ⟨b, ys, rfl, hy, hd2⟩ := ls_is k2 i2 e2
        by_cases hz : ds.length + es.length ≤ 100000
        · rw [if_pos hz] at p2
          have sc := Step.chg (as := as2) (H := H2) (o := .lst (xs ++ ys)) hj2
          exact ⟨a, b, xs, ys, rfl, rfl, hx, hy, by rw [hd.len, hd2.len]; exact sz_of hz, p2 .non as2 _ sc (k2.chg hj2 (hd.append hd2)) .non⟩
        · rw [if_neg hz] at p2
          exact p2.elim
      · exact p2.elim
    · rw [if_neg hl] at p1
      exact p1.elim
  | _ => exact False.elim p1
theorem je_pop {o : Expr} {fo : F D} {apos cpos : Pos} (ho : JE ca X W o fo) (hb : attributeBase o "pop" X.env (eval o X.env) = eval o X.env := by rfl) (h3 : (apos.endLine == cpos.line) = true := by rfl) :
    JE ca X W (.Call (.Attribute o "pop" apos) [] [] cpos) (fPop fo) := by
  obtain ⟨to, p, q⟩ := ho
  refine ⟨_, pe_bm0 PySem.F.plainAttrs_list PySem.F.slot_list_pop PySem.F.type_list_pop mt_pop p hb h3, fun as H σ env st Q he hs hp => ?_⟩
  refine q as H σ env st _ he hs (Post.bnd hp fun od st1 v as1 H1 s1 k1 i1 p1 => ?_)
  cases i1 with
  | @cell a j hj =>
    dsimp only at p1
    unfold oPop at p1
    split at p1
    · rename_i ds e
      obtain ⟨xs, hx, hd⟩ := cell_lst k1 hj e
      split at p1
      · rename_i d ed
        obtain ⟨y, ey, iy⟩ := hd.get ed
        have sc := Step.chg (as := as1) (H := H1) (o := .lst xs.dropLast) hj
        exact ⟨.inl ⟨rfl, xs, SqL.of hx⟩, a, xs, y, rfl, rfl, hx, by rw [hd.len]; exact ey, p1 y as1 _ sc (k1.chg hj (isDs_dropLast hd)) (iy.step sc)⟩
      · exact p1.elim
    · exact p1.elim
  | _ => exact False.elim p1
theorem js_augI (i : Nat) {x : Str} {p' : Pos} (hN : X.N.Nodup) (ha : JE ca X W e fa) (hi : X.N[i]? = some x := by rfl) (hx : Loc X.env.scope x := by first | exact Or.inl rfl | exact Or.inr rfl) (hf : X.fn x = true ∨ X.env.scope.names.lookup x = some .local := by first | exact Or.inr rfl | exact Or.inl rfl) :
    JS ca X W (.AugAssign (.Name x p') .Add e pos) (sAugI i fa) := by
  obtain ⟨ta, p, q⟩ := ha
  refine ⟨_, ps_aug (i := i) hN hi hx p ip_add hf, fun as H σ env st E he hs hp => ?_⟩
  unfold sAugI at hp
  split at hp
  · rename_i m em
    obtain ⟨v, ev, iv⟩ := he.at_ i _ em
    cases iv
    refine ⟨_, ev, ?_⟩
    refine q as H σ env st _ he hs (PostS.bnd hp he fun y st1 w as1 H1 s1 k1 i1 p1 => ?_)
    cases i1 <;> first | exact False.elim p1 | skip
    exact ⟨_, _, rfl, rfl, PostS.here (σ := σ.set i (some (.int (_ + _)))) p1 k1 ((he.step s1).put (.int _))⟩
  · exact hp.elim
theorem js_augL (i : Nat) {x : Str} {p' : Pos} (hN : X.N.Nodup) (ha : JE ca X W e fa) (hi : X.N[i]? = some x := by rfl) (hx : Loc X.env.scope x := by first | exact Or.inl rfl | exact Or.inr rfl) (hf : X.fn x = true ∨ X.env.scope.names.lookup x = some .local := by first | exact Or.inr rfl | exact Or.inl rfl) :
    JS ca X W (.AugAssign (.Name x p') .Add e pos) (sAugL i fa) := by
  obtain ⟨ta, p, q⟩ := ha
  refine ⟨_, ps_aug (i := i) hN hi hx p iop_ext hf, fun as H σ env st E he hs hp => ?_⟩
  unfold sAugL at hp
  split at hp
  · rename_i k em
    obtain ⟨v, ev, iv⟩ := he.at_ i _ em
    have iv' := iv
    cases iv with
    | @cell a j hj =>
      refine ⟨_, ev, ?_⟩
      refine q as H σ env st _ he hs (PostS.bnd hp he fun y st1 w as1 H1 s1 k1 i1 p1 => ?_)
      have hj1 := pre_get s1.pre hj
      split at p1
      · rename_i d0 st2 e2
        unfold oExt at e2
        split at e2
        · rename_i ds es e3 e4
          obtain ⟨xs, hx', hd⟩ := cell_lst k1 hj1 e3
          obtain ⟨b, ys, rfl, hy, hd2⟩ := ls_is k1 i1 e4
          split at e2
          · rename_i hz
            cases e2
            have sc := Step.chg (as := as1) (H := H1) (o := .lst (xs ++ ys)) hj1
            have eset : σ.set i (some (.ref a)) = σ := by
              refine List.ext_getElem? fun n => ?_
              by_cases hn : i = n
              · subst hn
                rw [List.getElem?_set_self (List.getElem?_eq_some_iff.mp ev).1, ev]
              · rw [List.getElem?_set_ne hn]
            refine ⟨a, b, xs, ys, rfl, rfl, hx', hy, by rw [hd.len, hd2.len]; exact sz_of hz, ?_⟩
            show E.nx (σ.set i (some (.ref a))) _
            rw [eset]
            exact p1 σ as1 _ sc (k1.chg hj1 (hd.append hd2)) ((he.step s1).step sc)
          · cases e2
        · cases e2
      · exact p1.elim
  · exact hp.elim
theorem rngC_get {lo c : Int} {n i : Nat} : (rngC lo c n)[i]? = if i < n then some (.int (lo + (i : Nat) * c)) else none := by
  unfold rngC
  rw [List.getElem?_map]
  by_cases h : i < n
  · rw [List.getElem?_range h, if_pos h]; rfl
  · rw [List.getElem?_eq_none (by simpa using h), if_neg h]; rfl
theorem itok_rC {K : PySem.W.Frag} {as : Wl} {H : Hp} {lo c : Int} {n : Nat} : ItOk K ca as H (Itc lo c n) (rngC lo c n) := fun as' H' i p e => by
  rw [rngC_get]
  by_cases hi : i < n
  · rw [if_pos hi]
    refine ⟨fun z => (nomatch z), fun d ed => ⟨hi, fun x H'' y => ?_⟩⟩
    cases ed
    obtain ⟨eH, y⟩ := y
    subst eH y
    exact it_same (.int _)
  · rw [if_neg hi]
    exact ⟨fun _ => Nat.le_of_not_lt hi, fun d z => nomatch z⟩
theorem ji_r3 {e2 e3 : Expr} {p : Pos} (hgl : Gl X "range") (hm : X.mg "range" = none) (h : JE ca X W e fa) (h2 : JE ca X W e2 fb) (h3 : JE ca X W e3 fc)
    (hst : starEach [e, e2, e3] X.env = (false, eval e X.env) :: starEach [e2, e3] X.env := by rfl) (hst2 : starEach [e2, e3] X.env = (false, eval e2 X.env) :: starEach [e3] X.env := by rfl) (hst3 : starEach [e3] X.env = (false, eval e3 X.env) :: starEach [] X.env := by rfl) (hpl : (backTo pos (starEach [e2, e3] X.env)).any (·.1) = false := by rfl) :
    JI ca X W tg (.Call (.Name "range" p) [e, e2, e3] [] pos) (iR3 fa fb fc) := by
  obtain ⟨t, pt, q⟩ := h
  obtain ⟨t', pt', q'⟩ := h2
  obtain ⟨t'', pt'', q''⟩ := h3
  refine ⟨_, pi_range3 hgl hm (pa_cons pt (pa_cons pt' (pa_cons pt'' pa_nil hst3) hst2) hst) hst hpl, fun as H σ env st R he hs hp => ?_⟩
  refine q as H σ env st _ he hs (Post.bnd hp fun x st1 v as1 H1 s1 k1 i1 p1 => ?_)
  refine q' as1 H1 σ env st1 _ (he.step s1) k1 (Post.bnd p1 fun y st2 v2 as2 H2 s2 k2 i2 p2 => ?_)
  refine q'' as2 H2 σ env st2 _ ((he.step s1).step s2) k2 (Post.bnd p2 fun z st3 v3 as3 H3 s3 k3 i3 p3 => ?_)
  cases i1 <;> cases i2 <;> cases i3 <;> first | exact False.elim p3 | skip
  rename_i i j c
  dsimp only at p3
  split at p3
  · rename_i hj
    exact ⟨i, j, c, _, rfl, ⟨hj.1, hj.2.1, hj.2.2.1, (Int.toNat_of_nonneg hj.2.2.2).symm⟩, p3 (Itc i c _, H3) as3 H3 (Step.refl _ _) k3 ⟨rfl, itok_rC⟩ rfl⟩
  · exact p3.elim
/-- t.index(x), a tuple of texts -/
def idxS (x : Str) : List D → Nat → Option Nat
  | [], _ => none
  | .str y :: r, n => if y = x then some n else idxS x r (n + 1)
  | _, _ => none
def allS : List D → Bool
  | [] => true
  | .str _ :: r => allS r
  | _ => false
def oIdxT (a x : D) (st : Sta) : Option (R D) := match a, x with
  | .tup ds, .str x => if allS ds = true then (match idxS x ds 0 with | some n => some (.ok (.int n) st) | none => none) else none
  | _, _ => none
theorem allS_is {K : PySem.W.Frag} {as : Wl} {G : Hp} : ∀ {ds : List D} {vs : List V}, IsDs K ca as G vs ds → allS ds = true → ∃ ys : List Str, vs = ys.map V.str ∧ ds = ys.map D.str
  | [], _, h, _ => by cases h; exact ⟨[], rfl, rfl⟩
  | d :: ds, _, h, p => by
    cases h with
    | cons h1 h2 =>
      cases d <;> first | cases p | skip
      rename_i y
      cases h1
      obtain ⟨ys, e1, e2⟩ := allS_is h2 p
      exact ⟨y :: ys, by rw [e1]; rfl, by rw [e2]; rfl⟩
theorem idxS_is {x : Str} : ∀ {ys : List Str} {m n : Nat}, idxS x (ys.map D.str) m = some n → m ≤ n ∧ ys[n - m]? = some x ∧ ∀ j, j < n - m → ys[j]? ≠ some x
  | [], _, _, h => by cases h
  | y :: ys, m, n, h => by
    simp only [List.map_cons, idxS] at h
    split at h
    · rename_i e
      cases h
      subst e
      exact ⟨Nat.le_refl _, by simp, fun j hj => by omega⟩
    · rename_i e
      obtain ⟨h1, h2, h3⟩ := idxS_is h
      have e1 : n - m = (n - (m + 1)) + 1 := by omega
      refine ⟨by omega, by rw [e1]; exact h2, fun j hj => ?_⟩
      cases j with
      | zero => simp; exact e
      | succ j => simpa using h3 j (by omega)
theorem je_idxT {x : Str} {zs : List Str} {p0 apos cpos : Pos} (h : ∃ a, TupK X.K a zs ∧ X.mg x = some (.ref a)) (hdn : ∀ a, X.mg x = some (.ref a) → ∃ o, X.K.lookup a = some o ∧ o.dict = none) (ha : JE ca X W e fa) (hg : Gl X x := by rfl) (hd : (x == ("__debug__" : Str)) = false := by decide) (hb : attributeBase (.Name x p0) "index" X.env (eval (.Name x p0) X.env) = eval (.Name x p0) X.env := by rfl)
    (h2 : ((((backTo cpos (starEach [e] X.env)).all fun x => !x.1) && (backToKw cpos (keywordEach [] X.env)).all fun x => x.1.isSome) && decide (([e].length + ([] : List Keyword).length + if ([] : List Keyword).isEmpty = true then 0 else 1) < 30)) = true := by rfl)
    (h3 : (apos.endLine == cpos.line) = true := by rfl) (h4 : starEach [e] X.env = (false, eval e X.env) :: starEach [] X.env := by rfl) (h5 : ((backTo cpos (starEach [] X.env)).any fun x => x.1) = false := by rfl) :
    JE ca X W (.Call (.Attribute (.Name x p0) "index" apos) [e] [] cpos) (f1 (oIdxT (.tup (zs.map D.str))) fa) := by
  obtain ⟨a, T, hm⟩ := h
  obtain ⟨ta, p2, q2⟩ := ha
  have st : ∀ H, SqT X.K H a (zs.map V.str) := fun H => .inr T.ex
  obtain ⟨o, its, n, t1, t2, t3, t4, t5⟩ := T.ex
  obtain ⟨o', d1, d2⟩ := hdn a hm
  rw [t1] at d1
  cases d1
  refine ⟨_, pe_bm PySem.F.plainAttrs_tuple PySem.F.slot_tuple_index PySem.F.type_tuple_index mt_tup_index (pe_glob (v := .ref a) hg hm rfl hd) (pa_cons p2 pa_nil h4) hb h2 h3 h4 h5, fun as H σ env st' Q he hs hp => ?_⟩
  refine ⟨.inr (.inl ⟨rfl, o, t1, t2, d2⟩), ?_⟩
  refine q2 as H σ env st' _ he hs (Post.bnd hp fun d st2 w as2 H2 s2 k2 i2 p2 => ?_)
  unfold oIdxT at p2
  cases i2 <;> first | exact False.elim p2 | skip
  rename_i y
  dsimp only at p2
  split at p2
  · split at p2
    · rename_i n en
      obtain ⟨_, e1, e2⟩ := idxS_is en
      exact ⟨a, zs, y, n, rfl, rfl, st H2, by simpa using e1, fun m hm => e2 m (by omega), p2.here k2 (.int _)⟩
    · exact p2.elim
  · exact p2.elim
end
end DS
namespace DS
open PySem L2 PySem.Spec PyProof.Rows
/-! ### a list unpacked -/
def gUl (n : Nat) (f : FGs) : FG := fun d env st => match d with | .lst ds => if ds.length = n then f ds env st else none | _ => none
theorem jg_unl {ca : Ca} {X : Cx} {pos : Pos} {es : List Expr} {k : Nat} {fs : FGs} {n : Nat} (hc : X.calm = true) (h : JGs ca X es fs) (hn : (assignEach es X.env).length = n := by rfl) (hst : (assignEach es X.env).findIdx? (·.1) = none := by rfl) : JG ca X (.Tuple es k pos) (gUl n fs) := by
  obtain ⟨t, p, q⟩ := h
  refine ⟨_, L2.pg_unl hc p hn hst, fun as H σ env st v d Q he hs hv hq => ?_⟩
  cases hv <;> first | exact False.elim hq | skip
  rename_i a xs ds h1 h2
  unfold gUl at hq
  dsimp only at hq
  by_cases hl : ds.length = n
  · rw [if_pos hl] at hq
    exact ⟨_, _, rfl, SqL.of ((stab_sub _ _) _ _ h1), by rw [h2.len]; exact hl, q as H σ env st _ _ Q he hs h2 hq⟩
  · rw [if_neg hl] at hq
    exact hq.elim
end DS

namespace HK
open PySem PySem.Spec PyProof.Rows L2 He DS
/-! ### the head's facts: defs anywhere, properties, own classes -/
structure FD where
  at_ : PySem.W.Frag → Addr
  name : Str
  qual : Str
  st : Stmt
def FD.val (d : FD) : FnV := some (d.name, d.qual, defArgs d.st, .stmts (defBody d.st), defScope d.st, mainGlobals, [], .none, builtinsNs)
def FD.obs (K : PySem.W.Frag) (d : FD) : FnV := match K.lookup (d.at_ K) with
  | some ⟨_, _, .func fd, _⟩ => some (fd.name, fd.qualname, fd.params, fd.body, fd.scope, fd.globals, fd.closure, fd.defaults, fd.builtins)
  | _ => none
def FD.ok (K : PySem.W.Frag) (d : FD) : Bool := PySem.W.keepIn K (.ref (d.at_ K)) && (match K.lookup (d.at_ K) with
  | some ⟨_, _, .func fd, _⟩ => PySem.W.codeIn K fd.code d.qual
  | _ => false)
theorem FD.fun_ {K : PySem.W.Frag} {d : FD} (e : d.obs K = d.val) (c : d.ok K = true) : ∃ fd, L2.Fun K d.name d.qual d.st (d.at_ K) fd := by
  obtain ⟨kp, c2⟩ := ba c
  unfold FD.obs at e
  cases q : K.lookup (d.at_ K) with
  | none => rw [q] at c2; cases c2
  | some o =>
    obtain ⟨oc, od, dt, osl⟩ := o
    rw [q] at c2 e
    cases dt with
    | func fd =>
      obtain ⟨n1, n2, n3, n4, n5, n6, n7, n8, n9, n10, n11, n12, n13, n14, n15⟩ := fd
      have e2 : (some (n1, n2, n3, n4, n5, n6, n7, n8, n15) : FnV) = some (d.name, d.qual, defArgs d.st, .stmts (defBody d.st), defScope d.st, mainGlobals, [], .none, builtinsNs) := e
      simp only [Option.some.injEq, Prod.mk.injEq] at e2
      obtain ⟨h1, h2, h3, h4, h5, h6, h7, h8, h9⟩ := e2
      subst h1 h2 h3 h4 h5 h6 h7 h8 h9
      exact ⟨_, ⟨oc, od, n9, n10, n11, n12, n13, n14, osl, rfl, q, c2⟩, kp⟩
    | _ => cases c2
def prA (K : PySem.W.Frag) (c f : Str) : Addr := ma K (ga K c) f
def gtA (c f : Str) (K : PySem.W.Frag) : Addr := match PySem.W.recIn K (prA K c f) "property" with
  | some (.ref g :: _) => g
  | _ => 0
def propB (K : PySem.W.Frag) (c f : Str) : Bool := eqO (PySem.W.findIn K (.ref (ga K c)) f) (some (some (.ref (prA K c f)))) && (eqO (PySem.W.specialIn K (.ref (prA K c f)) "__get__") (some (some (.builtin "property.__get__"))) &&
  (decide (PySem.W.takesIn K (.ref (prA K c f)) = some true) && (match PySem.W.recIn K (prA K c f) "property" with
    | some (.ref _ :: _) => true
    | _ => false)))
theorem propB_ok {K : PySem.W.Frag} {c f : Str} (h : propB K c f = true) : PropOf K (ga K c) f (prA K c f) (gtA c f K) := by
  obtain ⟨h1, h⟩ := ba h
  obtain ⟨h2, h⟩ := ba h
  obtain ⟨h3, h4⟩ := ba h
  refine ⟨eqO_ok h1, eqO_ok h2, of_decide_eq_true h3, ?_⟩
  unfold gtA
  split at h4
  · rename_i g rest e
    rw [e]
    exact ⟨rest, rfl⟩
  · cases h4
def clsB (K : PySem.W.Frag) (c : Str) : Bool := eqO (PySem.W.findIn K (.ref (ga K c)) "__class__") (some (some (.builtin "object.__class__"))) && (eqO (PySem.W.specialIn K (.builtin "object.__class__") "__get__") (some (some (.builtin "getset_descriptor.__get__"))) &&
  (decide (PySem.W.takesIn K (.builtin "object.__class__") = some true) && (decide (PySem.W.mroIn K (ga K c) (.type "object") = some true) && (decide (PySem.W.kitOne K (.ref (ga K c)) (.ref (ga K c)) = some true) && decide (PySem.W.kitOne K (.type "tuple") (.ref (ga K c)) = some false)))))
theorem clsB_ok {K : PySem.W.Frag} {c : Str} (h : clsB K c = true) (cl : Cls K (ga K c)) : ClsI K (ga K c) := by
  obtain ⟨h1, h⟩ := ba h
  obtain ⟨h2, h⟩ := ba h
  obtain ⟨h3, h⟩ := ba h
  obtain ⟨h4, h⟩ := ba h
  obtain ⟨h5, h6⟩ := ba h
  exact ⟨cl, eqO_ok h1, eqO_ok h2, of_decide_eq_true h3, of_decide_eq_true h4, of_decide_eq_true h5, of_decide_eq_true h6⟩
/-! ### the Hook -/
abbrev Al : Type := (Bool × List FnV) × List (Option (List (Option (Str × Int))))
def obsK (fa : List Fa) (ex : PySem.W.Frag → Bool) (fn : List FD) (ts : List Tab) (K : PySem.W.Frag) : Al := (((fa.all fun f => f.ok K) && (ex K && fn.all fun d => d.ok K), fn.map fun d => d.obs K), ts.map fun t => dicW K (t.1 K))
def valK (fn : List FD) (ts : List Tab) (w : World) : Al := ((true, fn.map FD.val), ts.map fun t => some (keysIn w.params t.2))
def obsG (n : Nat) (fa : List Fa) (ex : PySem.W.Frag → Bool) (fn : List FD) (ts : List Tab) (g : Addr → Option Obj) : Al := obsK fa ex fn ts (frG g (asD g n))
def Says (fa : List Fa) (ex : PySem.W.Frag → Bool) (fn : List FD) (ts : List Tab) (w : World) (K : PySem.W.Frag) : Prop := obsK fa ex fn ts K = valK fn ts w
def hook (n : Nat) (fa : List Fa) (ex : PySem.W.Frag → Bool) (fn : List FD) (ts : List Tab) : PySem.W.Hook where
  α := Al
  obs := fun s => obsG n fa ex fn ts s.heap.get?
  val := fun w => valK fn ts w
  says := fun w h => ∃ K : PySem.W.Frag, K.In h ∧ Says fa ex fn ts w K
  of := fun _ _ e => ⟨_, frG_in, e⟩
  keeps := fun _ _ _ ⟨K, hK, c⟩ k => ⟨K, PySem.W.Frag.In.keeps hK k, c⟩
theorem obsG_eq {n : Nat} {fa : List Fa} {ex : PySem.W.Frag → Bool} {fn : List FD} {ts : List Tab} {g : Addr → Option Obj} {s : Shared} (h : ∀ a, g a = s.heap.get? a) : obsG n fa ex fn ts g = (hook n fa ex fn ts).obs s := by
  have e : g = s.heap.get? := funext h
  rw [e] <;> rfl
section
variable {fa : List Fa} {ex : PySem.W.Frag → Bool} {fn : List FD} {ts : List Tab} {w : World} {K : PySem.W.Frag}
theorem Says.b (c : Says fa ex fn ts w K) : (fa.all fun f => f.ok K) = true ∧ ex K = true ∧ (fn.all fun d => d.ok K) = true := by
  have h : ((fa.all fun f => f.ok K) && (ex K && fn.all fun d => d.ok K)) = true := congrArg (fun z : Al => z.1.1) c
  obtain ⟨h1, h⟩ := ba h
  obtain ⟨h2, h3⟩ := ba h
  exact ⟨h1, h2, h3⟩
theorem Says.fact (c : Says fa ex fn ts w K) (i : Nat) {f : Fa} (h : fa[i]? = some f := by rfl) : f.ok K = true := List.all_eq_true.mp c.b.1 f (List.mem_of_getElem? h)
theorem Says.def_ (c : Says fa ex fn ts w K) (i : Nat) {d : FD} (h : fn[i]? = some d := by rfl) : ∃ fd, L2.Fun K d.name d.qual d.st (d.at_ K) fd := by
  have e : fn.map (fun d => d.obs K) = fn.map FD.val := congrArg (fun z : Al => z.1.2) c
  have e2 : (fn.map fun d => d.obs K)[i]? = (fn.map FD.val)[i]? := by rw [e]
  rw [List.getElem?_map, List.getElem?_map, h] at e2
  exact FD.fun_ (Option.some.inj e2) (List.all_eq_true.mp c.b.2.2 d (List.mem_of_getElem? h))
theorem Says.tab (c : Says fa ex fn ts w K) (i : Nat) {t : Tab} (h : ts[i]? = some t := by rfl) : ∃ es n, KDict K w (t.1 K) es n := by
  have e : ts.map (fun t => dicW K (t.1 K)) = ts.map fun t => some (keysIn w.params t.2) := congrArg (fun z : Al => z.2) c
  have e2 : (ts.map fun t => dicW K (t.1 K))[i]? = (ts.map fun t => some (keysIn w.params t.2))[i]? := by rw [e]
  rw [List.getElem?_map, List.getElem?_map, h] at e2
  exact dicW_ok (Option.some.inj e2)
end
def intsB (K : PySem.W.Frag) (a : Addr) (kvs : List (Str × Int)) : Bool := kvs.all fun q => match PySem.W.nsIn K a q.1 with
  | some (some (.int j _)) => decide (j = q.2)
  | _ => false
theorem intsB_ok {K : PySem.W.Frag} {a : Addr} {kvs : List (Str × Int)} (h : intsB K a kvs = true) (z : Str) (i : Int) (hz : kvs.lookup z = some i) : ∃ t, PySem.W.nsIn K a z = some (some (.int i t)) := by
  have hm : (z, i) ∈ kvs := by
    clear h
    induction kvs with
    | nil => cases hz
    | cons p r ih =>
      obtain ⟨k, v⟩ := p
      rw [List.lookup_cons] at hz
      cases q : z == k with
      | true =>
        rw [q] at hz
        cases hz
        rw [beq_iff_eq.mp q]
        exact List.mem_cons_self
      | false =>
        rw [q] at hz
        exact List.mem_cons_of_mem _ (ih hz)
  have h2 := List.all_eq_true.mp h _ hm
  dsimp only at h2
  split at h2
  · rename_i j t e
    have := of_decide_eq_true h2
    subst this
    exact ⟨t, e⟩
  · cases h2
theorem tupK_of {K : PySem.W.Frag} {x : Str} {zs : List Str} (h : tupB K x (zs.map Dv.str) = true) : TupK K (ga K x) zs := by
  have h2 := tupB_ok h (fun _ => none)
  rcases h2 with h2 | h2
  · rcases h2 with h2 | ⟨o, h2⟩ <;> cases h2
  · obtain ⟨o, its, n, a, b, c, d, e⟩ := h2
    have e3 : (zs.map Dv.str).map (Dv.v K) = zs.map V.str := by rw [List.map_map]; rfl
    rw [e3] at e
    exact ⟨o, its, n, a, b, c, d, e⟩
/-- no exception leaves the law -/
theorem to0 {P : Program} {w : World} {K : PySem.W.Frag} {mg : Str → Option Value} {base : Heap} {k : Nat} {f : Addr} {fd : FuncData} {ps : List Str} {sp : Sp} (F : FnOk P w K mg base (L2.CX P w) k f fd ps sp) : FnOk P w K mg base CX0 k f fd ps (fun vs H Q _ => sp vs H Q E0) :=
  ⟨fun vs H Q E h => F.len _ _ _ _ h, fun A outer s H args us vs Q E hr he hb hv hs => codeAny_mono (F.run A outer s H args us vs Q E0 hr he hb hv hs) fun r s' hq => by
    cases r with
    | error e =>
      obtain ⟨_, _, _, _, _, _, _, _, _, _, _, _, z⟩ := hq
      exact z.elim
    | ok fl => cases fl <;> exact hq⟩
theorem stab_nil {H : Hp} : stab ⟨[], []⟩ H = H := by
  funext a
  unfold stab
  rw [if_neg]
  rintro (h | h) <;> cases h
theorem ints_is {K : PySem.W.Frag} {ca : Ca} {as : Wl} {G : Hp} : ∀ ns : List Int, IsDs K ca as G (ns.map V.int) (ns.map D.int)
  | [] => .nil
  | n :: ns => .cons (.int n) (ints_is ns)
theorem law_sp {K : PySem.W.Frag} {ca : Ca} {Fm : List D → Sta → Option (R D)} {H : Hp} {a : Addr} {ns : List Int} (hS : SqL K H a (ns.map V.int)) (h : Fm [.fls (ns.map D.int)] [] = some (.ok (.bl true) [])) : spD K ca 1 Fm [.ref a] H (fun v _ => v = .bl true) E0 := by
  refine ⟨⟨[], []⟩, [], [.fls (ns.map D.int)], .cons (.fls (by rw [stab_nil]; exact hS) (ints_is ns)) .nil, ⟨List.nodup_nil, rfl, fun a ha => (by cases ha), fun k a c e _ => (by simp at e)⟩, rfl, ?_⟩
  rw [h]
  intro v H' _ _ i
  cases i
  rfl
end HK
namespace HK
open PySem PySem.Spec PyProof.Rows L2
theorem binds1 {K : PySem.W.Frag} {x qual y : Str} {st : Stmt} {f : Addr} {fd : FuncData} (F : L2.Fun K x qual st f fd)
    (h : ∀ (kV doc pm : Value) (an : Option Addr) (cdv ct : Value) (us : List Value), us.length = [y].length → bindArgs (PySem.W.fnOf x qual (defArgs st) (defBody st) (defScope st) .none kV doc pm an cdv ct) ⟨us, []⟩ = pure ([y].zip us)) (s : Shared) (v : Value) : BindsTo s fd ⟨[v], []⟩ [(y, v)] := by
  obtain ⟨oc, od, kV, doc, pm, an, cdv, ct, osl, rfl, lk, hcd⟩ := F.ex
  exact .of_eq (h kV doc pm an cdv ct [v] rfl)
end HK

namespace HK
open PySem PySem.Spec PyProof.Rows L2 He DS
/-! ### exceptions' classes -/
def veTail : List Value := [.type "ValueError", .type "Exception", .type "BaseException", .type "object"]
def oexB (K : PySem.W.Frag) (C : Addr) : Bool := (match K.lookup C with
  | some ⟨.type "type", _, .cls cd, sl⟩ => (match cd.mro, sl.toList with
    | .ref C' :: bm, [_, _, _, _, some (.builtin n), _] => C' == C && (n == "ValueError.__new__" && (!cd.hasDel && (cd.hasDict && PySem.HandSPX.refsVE bm)))
    | _, _ => false)
  | _ => false) && (eqO (PySem.W.findIn K (.ref C) "__setattr__") (some (some (.builtin "object.__setattr__"))) && (decide (PySem.W.subIn K (.ref C) (.type "BaseException") = some true) && (decide (PySem.W.typeIn K (.ref C) = some (.type "type")) && PySem.W.keepIn K (.ref C))))
theorem oexB_ok {K : PySem.W.Frag} {C : Addr} (h : oexB K C = true) : OexC K C := by
  obtain ⟨h1, h⟩ := ba h
  obtain ⟨h2, h⟩ := ba h
  obtain ⟨h3, h⟩ := ba h
  obtain ⟨h4, h5⟩ := ba h
  refine ⟨?_, eqO_ok h2, of_decide_eq_true h3, of_decide_eq_true h4, h5⟩
  split at h1
  · rename_i dd cd sl ho
    split at h1
    · rename_i C' bm k0 k1 k2 k3 n k5 hm hs
      simp only [Bool.and_eq_true, beq_iff_eq, Bool.not_eq_true'] at h1
      obtain ⟨rfl, rfl, hdel, hdct, hr⟩ := h1
      obtain ⟨nm, bs, mro, ns, qn, hd, sn, sub, ab, col, del⟩ := cd
      dsimp only at hm hdel hdct
      subst hm hdel hdct
      have hsl : sl = #[k0, k1, k2, k3, some (.builtin "ValueError.__new__"), k5] := by
        obtain ⟨l⟩ := sl
        simp only at hs
        rw [hs]
      subst hsl
      exact ⟨_, _, _, _, _, _, _, _, _, _, _, _, _, _, _, ho, hr⟩
    · cases h1
  · cases h1
/-- its __init__, which stores what it is given -/
def initB (K : PySem.W.Frag) (x : Str) (ns : List Str) : Bool := oexB K (ga K x) && (eqO (PySem.W.findIn K (.ref (ga K x)) "__init__") (some (some (.ref (ma K (ga K x) "__init__")))) && (decide (PySem.W.typeIn K (.ref (ma K (ga K x) "__init__")) = some (.type "function")) && ns.all fun f => eqO (PySem.W.findIn K (.ref (ga K x)) f) (some none)))
theorem initB_ok {P : Program} {w : World} {K : PySem.W.Frag} {mg : Str → Option Value} {base : Heap} {ca : Ca} {c : Nat} {x : Str} {ns ps : List Str} {fd : FuncData} (h : initB K x ns = true) (hc : ca c = ga K x) (F : FnOk P w K mg base (L2.CX P w) 1 (ma K (ga K x) "__init__") fd ps (spI K ns)) (hm : mg x = some (.ref (ga K x))) (hb : Binds K fd ps []) : RaiOk P w K mg base ca c x ns := by
  obtain ⟨h1, h⟩ := ba h
  obtain ⟨h2, h⟩ := ba h
  obtain ⟨h3, h4⟩ := ba h
  refine ⟨_, fd, ps, ?_, ?_, of_decide_eq_true h3, F, by rw [hc]; exact hm, hb, ?_⟩
  · rw [hc]; exact oexB_ok h1
  · rw [hc]; exact eqO_ok h2
  · intro f hf
    rw [hc]
    exact eqO_ok (List.all_eq_true.mp h4 f hf)
def exmL (K : PySem.W.Frag) (ps : List (Nat × Str × Bool)) (x : Str) : Bool := ps.all fun p => decide (PySem.W.exmOne K (.ref (ga K p.2.1)) (.ref (ga K x)) = some p.2.2)
def ccL (ps : List (Nat × Str × Bool)) (c : Nat) : Option Bool := (ps.find? fun p => p.1 == c).map fun p => p.2.2
theorem ccL_mem {ps : List (Nat × Str × Bool)} {c : Nat} {b : Bool} (h : ccL ps c = some b) : ∃ y, (c, y, b) ∈ ps := by
  unfold ccL at h
  obtain ⟨p, h1, h2⟩ := Option.map_eq_some_iff.mp h
  obtain ⟨i, y, b'⟩ := p
  have h3 := List.find?_some h1
  have e : i = c := by simpa using h3
  subst e
  cases h2
  exact ⟨y, List.mem_of_find?_eq_some h1⟩
theorem ca_mem {K : PySem.W.Frag} {ca : Ca} {ps : List (Nat × Str × Bool)} (hca : ps.map (fun p => ca p.1) = ps.map fun p => ga K p.2.1) {c : Nat} {y : Str} {b : Bool} (h : (c, y, b) ∈ ps) : ca c = ga K y := by
  induction ps with
  | nil => cases h
  | cons p r ih =>
    simp only [List.map_cons, List.cons.injEq] at hca
    rcases List.mem_cons.mp h with e | h
    · subst e; exact hca.1
    · exact ih hca.2 h
theorem exmL_ok {K : PySem.W.Frag} {ca : Ca} {ps : List (Nat × Str × Bool)} {x : Str} (h : exmL K ps x = true) (hca : ps.map (fun p => ca p.1) = ps.map fun p => ga K p.2.1) : ∀ c b, ccL ps c = some b → PySem.W.exmOne K (.ref (ca c)) (.ref (ga K x)) = some b := fun c b hc => by
  obtain ⟨y, hm⟩ := ccL_mem hc
  rw [ca_mem hca hm]
  exact of_decide_eq_true (List.all_eq_true.mp h _ hm)
def kitL (K : PySem.W.Frag) (ps : List (Nat × Str × Bool)) (x : Str) : Bool := ps.all fun p => decide (PySem.W.kitOne K (.ref (ga K p.2.1)) (.ref (ga K x)) = some p.2.2)
theorem kitL_ok {K : PySem.W.Frag} {ca : Ca} {ps : List (Nat × Str × Bool)} {x : Str} (h : kitL K ps x = true) (hca : ps.map (fun p => ca p.1) = ps.map fun p => ga K p.2.1) : ∀ c b, ccL ps c = some b → PySem.W.kitOne K (.ref (ca c)) (.ref (ga K x)) = some b := fun c b hc => by
  obtain ⟨y, hm⟩ := ccL_mem hc
  rw [ca_mem hca hm]
  exact of_decide_eq_true (List.all_eq_true.mp h _ hm)
/-- the fields of exceptions of some classes are read -/
def xfL (K : PySem.W.Frag) (ps : List (Nat × Str × Bool)) (f : Str) : Bool := ps.all fun p => !p.2.2 || (xfB K (ga K p.2.1) && eqO (PySem.W.findIn K (.ref (ga K p.2.1)) f) (some none))
theorem xfL_ok {K : PySem.W.Frag} {ca : Ca} {ps : List (Nat × Str × Bool)} {f : Str} (h : xfL K ps f = true) (hca : ps.map (fun p => ca p.1) = ps.map fun p => ga K p.2.1) : ∀ c, ccL ps c = some true → XfC K (ca c) ∧ PySem.W.findIn K (.ref (ca c)) f = some none := fun c hc => by
  obtain ⟨y, hm⟩ := ccL_mem hc
  rw [ca_mem hca hm]
  have h2 := List.all_eq_true.mp h _ hm
  have h3 : (xfB K (ga K y) && eqO (PySem.W.findIn K (.ref (ga K y)) f) (some none)) = true := h2
  obtain ⟨h4, h5⟩ := ba h3
  exact ⟨xfB_ok h4, eqO_ok h5⟩
def excB (K : PySem.W.Frag) (C : Addr) : Bool := eqO (PySem.W.findIn K (.ref C) "__getattribute__") (some (some (.builtin "BaseException.__getattribute__"))) && (eqO (PySem.W.findIn K (.ref C) "__getattr__") (some none) && (decide (PySem.W.subIn K (.ref C) (.type "BaseException") = some true) && (PySem.W.hasDictIn K C && (eqO (PySem.W.findIn K (.ref C) "__class__") (some (some (.builtin "object.__class__"))) &&
  (eqO (PySem.W.specialIn K (.builtin "object.__class__") "__get__") (some (some (.builtin "getset_descriptor.__get__"))) && (decide (PySem.W.takesIn K (.builtin "object.__class__") = some true) && decide (PySem.W.mroIn K C (.type "object") = some true)))))))
theorem excB_ok {K : PySem.W.Frag} {C : Addr} (h : excB K C = true) : ExcC K C := by
  obtain ⟨h1, h⟩ := ba h
  obtain ⟨h2, h⟩ := ba h
  obtain ⟨h3, h⟩ := ba h
  obtain ⟨h4, h⟩ := ba h
  obtain ⟨h5, h⟩ := ba h
  obtain ⟨h6, h⟩ := ba h
  obtain ⟨h7, h8⟩ := ba h
  exact ⟨eqO_ok h1, eqO_ok h2, of_decide_eq_true h3, h4, eqO_ok h5, eqO_ok h6, of_decide_eq_true h7, of_decide_eq_true h8⟩
def excL (K : PySem.W.Frag) (ps : List (Nat × Str × Bool)) : Bool := ps.all fun p => !p.2.2 || excB K (ga K p.2.1)
theorem excL_ok {K : PySem.W.Frag} {ca : Ca} {ps : List (Nat × Str × Bool)} (h : excL K ps = true) (hca : ps.map (fun p => ca p.1) = ps.map fun p => ga K p.2.1) : ∀ c, ccL ps c = some true → ExcC K (ca c) := fun c hc => by
  obtain ⟨y, hm⟩ := ccL_mem hc
  rw [ca_mem hca hm]
  have h2 := List.all_eq_true.mp h _ hm
  exact excB_ok (show excB K (ga K y) = true from h2)
/-- a written thing without a dict of its own -/
def nodB (K : PySem.W.Frag) (a : Addr) : Bool := match K.lookup a with
  | some ⟨_, none, _, _⟩ => true
  | _ => false
theorem nodB_ok {K : PySem.W.Frag} {a : Addr} (h : nodB K a = true) : ∃ o, K.lookup a = some o ∧ o.dict = none := by
  unfold nodB at h
  split at h
  · rename_i x y z e
    exact ⟨_, e, rfl⟩
  · cases h
/-- an own class without own __init__, raised with a text -/
structure Rao (K : PySem.W.Frag) (mg : Str → Option Value) (C : Addr) (x : Str) : Prop where
  ei : PySem.W.excIn K C veBase "ValueError.__new__" = true
  kp : PySem.W.keepIn K (.ref C) = true
  sb : PySem.W.subIn K (.ref C) (.type "BaseException") = some true
  ty : PySem.W.typeIn K (.ref C) = some (.type "type")
  mg : mg x = some (.ref C)
theorem rao_ok {K : PySem.W.Frag} {mg : Str → Option Value} {x : Str} (c : (Fa.exc x).ok K = true) (h : mg x = some (.ref (ga K x))) : Rao K mg (ga K x) x := by
  obtain ⟨c1, c2, c3, c4⟩ := exc_ok c
  exact ⟨c1, c2, c3, c4, h⟩
end HK
namespace DS
open PySem L2 PySem.Spec PyProof.Rows
theorem js_raise0 {ca : Ca} {X : Cx} {W : WX} {c : Nat} {x m : Str} {j : Nat} {p p2 pos pos' : Pos} (T : HK.Rao X.K X.mg (ca c) x) (hc : X.calm = true) (tk : Takes X W) (hg : Gl X x := by rfl) (hdb : (x == ("__debug__" : Str)) = false := by decide) :
    JS ca X W (.Raise (some (.Call (.Name x p) [.Constant (.str m) j p2] [] pos)) none pos') (sRaise c) :=
  js_raise hc tk (pmk_own F.excBase_ValueError T.ei T.mg T.kp (raises_own T.sb T.ty) hg hdb)
end DS

namespace DS
open PySem L2 PySem.Spec PyProof.Rows
/-! ### over a list that is changed elsewhere, but not meanwhile -/
def lstAt (st : Sta) (k : Nat) : Option (List D) := match st[k]? with | some (.lst ds) => some ds | _ => none
theorem lstAt_is {st : Sta} {k : Nat} {ds : List D} (h : lstAt st k = some ds) : st[k]? = some (.lst ds) := by
  unfold lstAt at h
  split at h
  · rename_i e; cases h; exact e
  · cases h
def forFk (k : Nat) (g : FG) (body : FS) : Nat → Nat → FS
  | 0, i, env, st => (match lstAt st k with | some ds => if ds.length = i then some (.nx env, st) else none | none => none)
  | n + 1, i, env, st => (match lstAt st k with
    | some ds => (match ds[i]? with
      | some d => (match g d env st with
        | none => none
        | some (env1, st1) => (match body env1 st1 with
          | some (.nx env2, st2) => forFk k g body n (i + 1) env2 st2
          | some (.ct env2, st2) => forFk k g body n (i + 1) env2 st2
          | some (.bk env2, st2) => some (.nx env2, st2)
          | r => r))
      | none => none)
    | none => none)
def sForK (j : Nat) (g : FG) (body : FS) : FS := fun env st => match env[j]? with
  | some (some (.cell k)) => (match lstAt st k with | some ds => forFk k g body ds.length 0 env st | none => none)
  | _ => none
def lcFk (k : Nat) (g : FG) (t : F Bool) (fe : F D) (env : Evn) : Nat → Nat → List D → Sta → Option (R (List D))
  | 0, i, acc, st => (match lstAt st k with | some ds => if ds.length = i then some (.ok acc st) else none | none => none)
  | n + 1, i, acc, st => (match lstAt st k with
    | some ds => (match ds[i]? with
      | some d => (match g d env st with
        | none => none
        | some (env1, st1) => bnd0 (t env1 st1) fun b st => match b with
          | true => bnd0 (fe env1 st) fun y st => if acc.length < 100000 then lcFk k g t fe env n (i + 1) (acc ++ [y]) st else none
          | false => lcFk k g t fe env n (i + 1) acc st)
      | none => none)
    | none => none)
def fLcK (j : Nat) (g : FG) (t : F Bool) (fe : F D) (vs : List Nat) : F D := fun env st => match env[j]? with
  | some (some (.cell k)) => (match lstAt st k with | some ds => bnd (lcFk k g t fe (wipeE env vs) ds.length 0 [] st) fun ys st => some (.ok (.lst ys) st) | none => none)
  | _ => none
section
variable {K : PySem.W.Frag} {ca : Ca} {W : WX}
theorem lck_is {g : TG} {tt : TT} {te : TE} {vs : List Nat} {gg : FG} {ft : F Bool} {fe : F D} (hg : GvS K ca g gg) (ho : OwnT g vs) (ht : TvS K ca W0 tt ft) (he : EvS K ca W0 te fe)
    {as : Wl} {H : Hp} {σ : L2.St} {env : Evn} {st : Sta} {Q : VK} {fin : List D → Sta → Option (R D)} {kc n0 : Nat} {a : Addr} (hj : as.as[kc]? = some a) (henv : EnvOk K ca as (stab as H) σ env) (hst : StOk K ca as H st)
    (hp : Post K ca W (IsD K ca) as H σ (bnd (lcFk kc gg ft fe (wipeE env vs) n0 0 [] st) fin) Q)
    (hfin : ∀ as1 H1 as' H' D acc ads st' st1, StOk K ca as1 H1 st1 → Step as1 H1 as' H' → H1 D = none → H' D = some (.lst acc) → IsDs K ca (as'.hide D) (stab (as'.hide D) H') acc ads → StOk K ca (as'.hide D) H' st' → StOk K ca as' H' st' → Post K ca W (IsD K ca) as1 H1 σ (fin ads st') Q → Q (.ref D) H') :
    ∀ D, H D = none → ∃ Wv : Nat → Nat → Hp → Prop, (∃ m, Wv 0 m (upd H D (.lst []))) ∧ ∀ i m H, Wv i m H →
      ((Itl K a).stop i H ∧ Q (.ref D) H) ∨ ((Itl K a).go i H ∧ ∃ Nx : Hp → Prop, (∀ H', Nx H' → ∃ m', m' < m ∧ Wv (i + 1) m' H') ∧ ∀ x H', (Itl K a).yld i H x H' → g x (L2.wipe σ vs) H' fun σ2 H2 => L2.wipe σ2 vs = L2.wipe σ vs ∧ tt σ2 H2 fun b H3 =>
        if b = true then te σ2 H3 fun y H4 => ∃ acc, H4 D = some (.lst acc) ∧ acc.length < sizeLine ∧ Nx (upd H4 D (.lst (acc ++ [y]))) else Nx H3) := by
  intro D hD
  have henv1 := henv
  refine ⟨fun i m H' => ∃ as' acc ads st', Step as H as' H' ∧ H' D = some (.lst acc) ∧ IsDs K ca (as'.hide D) (stab (as'.hide D) H') acc ads ∧ StOk K ca (as'.hide D) H' st' ∧ StOk K ca as' H' st' ∧ Post K ca W (IsD K ca) as H σ (bnd (lcFk kc gg ft fe (wipeE env vs) m i ads st') fin) Q,
    ⟨n0, as, [], [], st, Step.laid hD, upd_same, .nil, hst.hideD hD, hst.laid hD, hp⟩, ?_⟩
  rintro i m H' ⟨as', acc, ads, st', s, hDa, ia, kh, ku, p⟩
  have hj' := pre_get s.pre hj
  cases m with
  | succ m =>
    unfold lcFk at p
    cases el : lstAt st' kc with
    | none => rw [el] at p; exact p.elim
    | some dsc =>
    rw [el] at p
    dsimp only at p
    cases ed : dsc[i]? with
    | none => rw [ed] at p; exact p.elim
    | some dit =>
    rw [ed] at p
    dsimp only at p
    obtain ⟨xsc, hxc, isc⟩ := cell_lst kh hj' (lstAt_is el)
    obtain ⟨vit, evit, ivit⟩ := isc.get ed
    refine .inr ⟨⟨xsc, vit, SqL.of hxc, evit⟩, fun H2 => ∃ as' acc ads st', Step as H as' H2 ∧ H2 D = some (.lst acc) ∧ IsDs K ca (as'.hide D) (stab (as'.hide D) H2) acc ads ∧ StOk K ca (as'.hide D) H2 st' ∧ StOk K ca as' H2 st' ∧ Post K ca W (IsD K ca) as H σ (bnd (lcFk kc gg ft fe (wipeE env vs) m (i + 1) ads st') fin) Q, fun H2 q => ⟨m, Nat.lt_succ_self m, q⟩, fun x H'' y => ?_⟩
    obtain ⟨eqH, yx⟩ := y
    subst eqH
    have exv : vit = x := by
      have := yx xsc (SqL.of hxc)
      rw [evit] at this
      exact Option.some.inj this
    subst exv
    have sy : Step (as'.hide D) H'' (as'.hide D) H'' := Step.refl _ _
    have ky := kh
    have iy := ivit
    have nD : D ∉ as'.as := (kh.hid D List.mem_cons_self).1
    have sy' : Step as' H'' as' H'' := ⟨List.prefix_refl _, rfl, fun _ h n => (n h).elim, sy.keep⟩
    have envW : EnvOk K ca (as'.hide D) (stab (as'.hide D) H'') (L2.wipe σ vs) (wipeE env vs) := ((henv1.ext (as' := as'.hide D) s.pre (hide_ext hD s)).step sy).wipe vs
    refine ho vit σ H'' _ (hg (as'.hide D) H'' _ _ _ vit dit _ envW ky iy ?_)
    cases eg : gg dit (wipeE env vs) st' with
    | none => simp only [eg] at p; exact p.elim
    | some q =>
      obtain ⟨env1, st2⟩ := q
      simp only [eg] at p
      intro σ2 H2 s2 k2 e2
      refine ht (as'.hide D) H2 σ2 env1 st2 _ e2 k2 ?_
      cases et : ft env1 st2 with
      | none => rw [et] at p; exact p.elim
      | some q =>
        rw [et] at p
        cases q with
        | err => exact p.elim
        | ok b st3 =>
          intro b' as3 H3 s3 k3 eb
          cases (show b' = b from eb)
          have hs3 : as3.hs = D :: as'.hs := s3.hid
          obtain ⟨a3, h3⟩ := as3
          dsimp only at hs3
          subst hs3
          have s3' : Step as H ⟨a3, as'.hs⟩ H3 := by
            refine ((s.trans sy').trans ⟨List.prefix_refl _, rfl, fun _ h n => (n h).elim, s2.keep⟩).trans ⟨s3.pre, rfl, s3.new, s3.keep⟩
          have hDk : ∀ {H5 : Hp} {a5 : List Addr}, Step (as'.hide D) H'' ⟨a5, D :: as'.hs⟩ H5 → H5 D = some (.lst acc) := fun s5 => s5.keep D _ nD (sy.keep D _ nD hDa)
          have ia3 := ((ia.step sy).step s2).step s3
          cases b with
          | false =>
            refine iteF ⟨⟨a3, as'.hs⟩, acc, ads, st3, s3', hDk (s2.trans s3), ia3, k3, k3.unhide, p⟩
          | true =>
            refine iteT (he ⟨a3, D :: as'.hs⟩ H3 σ2 env1 st3 _ (e2.step s3) k3 ?_)
            dsimp only [bnd0] at p
            cases ee : fe env1 st3 with
            | none => rw [ee] at p; exact p.elim
            | some q =>
              rw [ee] at p
              cases q with
              | err => exact p.elim
              | ok yd st4 =>
                intro yv as4 H4 s4 k4 iy4
                have hs4 : as4.hs = D :: as'.hs := s4.hid
                obtain ⟨a4, h4⟩ := as4
                dsimp only at hs4
                subst hs4
                have hD4 : H4 D = some (.lst acc) := s4.keep D _ (by
                  intro z
                  exact (k3.hid D List.mem_cons_self).1 z) (hDk (s2.trans s3))
                dsimp only at p
                by_cases hz : ads.length < 100000
                · rw [if_pos hz] at p
                  have ia4 := ia3.step s4
                  refine ⟨acc, hD4, by rw [ia4.len]; exact sz_lt hz, ⟨a4, as'.hs⟩, acc ++ [yv], ads ++ [yd], st4, ?_, upd_same, ?_, k4.grow, k4.grow.unhide, p⟩
                  · have s4' : Step as H ⟨a4, as'.hs⟩ H4 := s3'.trans ⟨s4.pre, rfl, s4.new, s4.keep⟩
                    exact ⟨s4'.pre, s4'.hid, s4'.new, fun a o h1 h2 => by
                      have hne : a ≠ D := fun z => by rw [z, hD] at h2; cases h2
                      rw [upd_ne hne]
                      exact s4'.keep a o h1 h2⟩
                  · exact (ia4.append (.cons iy4 .nil)).ext (List.prefix_refl _) grow_ext
                · rw [if_neg hz] at p
                  exact p.elim
  | zero =>
    unfold lcFk at p
    cases el : lstAt st' kc with
    | none => rw [el] at p; exact p.elim
    | some dsc =>
    rw [el] at p
    dsimp only at p
    obtain ⟨xsc, hxc, isc⟩ := cell_lst kh hj' (lstAt_is el)
    by_cases hz : dsc.length = i
    · rw [if_pos hz] at p
      exact .inl ⟨⟨xsc, SqL.of hxc, by rw [isc.len]; omega⟩, hfin as H as' H' D acc ads st' st hst s hD hDa ia kh ku p⟩
    · rw [if_neg hz] at p
      exact p.elim
theorem evs_lcK {K : PySem.W.Frag} {g : TG} {tt : TT} {te : TE} {vs : List Nat} {gg : FG} {ft : F Bool} {fe : F D} {tl : TE} {j : Nat} (hl : EvS K ca W tl (fVar j)) (hg : GvS K ca g gg) (ho : OwnT g vs) (ht : TvS K ca W0 tt ft) (he : EvS K ca W0 te fe) :
    EvS K ca W (tLc (iList K tl) g tt te vs) (fLcK j gg ft fe vs) := fun as H σ env st Q henv hst hp => by
  unfold fLcK at hp
  split at hp
  · rename_i k ek
    split at hp
    · rename_i ds el
      refine hl as H σ env st _ henv hst ?_
      have ev : fVar j env st = some (.ok (.cell k) st) := by unfold fVar; rw [ek]
      rw [ev]
      intro v as1 H1 s1 k1 i1
      cases i1 with
      | @cell a _ hj =>
        obtain ⟨xs, hx, _⟩ := cell_lst k1 hj (lstAt_is el)
        refine ⟨a, rfl, ⟨xs, SqL.of hx⟩, ?_⟩
        refine lck_is hg ho ht he hj (henv.step s1) k1 (Post.step hp s1) fun as2 H2 as' H' D acc ads st' st1 k2 s hD hDa ia kh ku p => ?_
        have nD := (kh.hid D List.mem_cons_self).1
        have hn : D ∉ as'.hs := by
          rw [s.hid]
          exact k2.freeH hD
        have e1 := (stab_out (as := as') (H := H') nD hn).trans hDa
        exact p _ as' H' s ku (.lst e1 (ia.ext (as := as'.hide D) (as' := as') (List.prefix_refl _) unhide_ext))
    · exact hp.elim
  · exact hp.elim
end
section
variable {ca : Ca} {X : Cx} {W : WX} {elt tg tst : Expr} {scope : Scope} {own : List (Str × Nat)} {pos p0 : Pos} {gg : FG} {fe : F D} {ft : F Bool} {x : Str}
theorem je_lcKG {g : TG} {ifs : List Expr} {tt : TT} {te : TE} (j : Nat) (hc : X.calm = true) (hN : X.N.Nodup) (ok : BlkOk X.N X.env.scope scope own)
    (hg : ∀ (s : Shared) (H : Hp) (C : Addr) (cl : List (Str × Addr)) (fp : List Addr), PG (X.blk s H scope (compEnvC scope cl C X.env) fp) tg g) (hgs : GvS X.K ca g gg) (ho : OwnT g (own.map (·.2)))
    (ht : ∀ (s : Shared) (H : Hp) (C : Addr) (cl : List (Str × Addr)) (fp : List Addr), PTs (X.blk s H scope (compEnvC scope cl C X.env) fp) ifs tt) (hts : TvS X.K ca W0 tt ft)
    (he : ∀ (s : Shared) (H : Hp) (C : Addr) (cl : List (Str × Addr)) (fp : List Addr), PE (X.blk s H scope (compEnvC scope cl C X.env) fp) elt te) (hes : EvS X.K ca W0 te fe) (hs : ∀ y, foldedSetIterable (.Name x p0) X.env y = pure y)
    (hj : X.N[j]? = some x) (hv : Vis X.env.scope x) (hd : (x == ("__debug__" : Str)) = false) (hcd : (x == ("__classdict__" : Str)) = false) :
    JE ca X W (.ListComp elt [⟨tg, .Name x p0, ifs, 0⟩] scope pos) (fLcK j gg ft fe (own.map (·.2))) := by
  obtain ⟨tl, pl, ql⟩ := je_var (ca := ca) (X := X) (W := W) (pos := p0) j hj hv hd hcd
  exact ⟨_, pe_lc hc hN (pi_list pl) ok hg ht he hs, evs_lcK ql hgs ho hts hes⟩
theorem je_lcK {g : TG} (j : Nat) (hc : X.calm = true) (hN : X.N.Nodup) (ok : BlkOk X.N X.env.scope scope own) (hg : BK X scope fun Z => PG Z tg g) (hgs : GvS X.K ca g gg) (ho : OwnT g (own.map (·.2)))
    (he : BK X scope fun Z => JE ca Z W0 elt fe) (hs : ∀ y, foldedSetIterable (.Name x p0) X.env y = pure y := by intro _; rfl)
    (hj : X.N[j]? = some x := by rfl) (hv : Vis X.env.scope x := by first | exact Or.inl rfl | exact Or.inr (Or.inl rfl) | exact Or.inr (Or.inr rfl)) (hd : (x == ("__debug__" : Str)) = false := by decide) (hcd : (x == ("__classdict__" : Str)) = false := by decide) :
    JE ca X W (.ListComp elt [⟨tg, .Name x p0, [], 0⟩] scope pos) (fLcK j gg fYes fe (own.map (·.2))) :=
  je_lcKG j hc hN ok hg hgs ho (fun _ _ _ _ _ => pts_nil) tvs_yes (fun s H C cl fp => je_canon (he s H C cl fp)) evs_canon hs hj hv hd hcd
theorem je_lcKI {g : TG} (j : Nat) (hc : X.calm = true) (hN : X.N.Nodup) (ok : BlkOk X.N X.env.scope scope own) (hg : BK X scope fun Z => PG Z tg g) (hgs : GvS X.K ca g gg) (ho : OwnT g (own.map (·.2)))
    (ht : BK X scope fun Z => JT ca Z W0 tst ft) (he : BK X scope fun Z => JE ca Z W0 elt fe) (hs : ∀ y, foldedSetIterable (.Name x p0) X.env y = pure y := by intro _; rfl)
    (hj : X.N[j]? = some x := by rfl) (hv : Vis X.env.scope x := by first | exact Or.inl rfl | exact Or.inr (Or.inl rfl) | exact Or.inr (Or.inr rfl)) (hd : (x == ("__debug__" : Str)) = false := by decide) (hcd : (x == ("__classdict__" : Str)) = false := by decide) :
    JE ca X W (.ListComp elt [⟨tg, .Name x p0, [tst], 0⟩] scope pos) (fLcK j gg ft fe (own.map (·.2))) :=
  je_lcKG j hc hN ok hg hgs ho (fun s H C cl fp => pts_one (jt_canon (ht s H C cl fp))) tvs_canon (fun s H C cl fp => je_canon (he s H C cl fp)) evs_canon hs hj hv hd hcd
/-- y = such a comprehension -/
theorem js_setLcKG {g : TG} {ifs : List Expr} {tt : TT} {te : TE} {y : Str} {py spos : Pos} {i : Nat} (j : Nat) (hc : X.calm = true) (hN : X.N.Nodup) (hy : X.N[i]? = some y) (hyl : X.env.scope.names.lookup y = some .local)
    (hsw : swapsWith (.ListComp elt [⟨tg, .Name x p0, ifs, 0⟩] scope pos) (some (.Name y py)) spos.line X.env = pure true) (ok : BlkOk X.N X.env.scope scope own)
    (hg : BK X scope fun Z => PG Z tg g) (hgs : GvS X.K ca g gg) (ho : OwnT g (own.map (·.2)))
    (ht : BK X scope fun Z => PTs Z ifs tt) (hts : TvS X.K ca W0 tt ft) (he : BK X scope fun Z => PE Z elt te) (hes : EvS X.K ca W0 te fe) (hs : ∀ y, foldedSetIterable (.Name x p0) X.env y = pure y)
    (hj : X.N[j]? = some x) (hv : Vis X.env.scope x) (hd : (x == ("__debug__" : Str)) = false) (hcd : (x == ("__classdict__" : Str)) = false) :
    JS ca X W (.Assign [.Name y py] (.ListComp elt [⟨tg, .Name x p0, ifs, 0⟩] scope pos) spos) (sAsg i (fLcK j gg ft fe (own.map (·.2)))) := by
  obtain ⟨tl, pl, ql⟩ := je_var (ca := ca) (X := X) (W := W) (pos := p0) j hj hv hd hcd
  refine ⟨_, ps_setLc hc hN hy hyl hsw (pi_list pl) ok hg ht he hs, fun as H σ env st E henv hst hp => ?_⟩
  refine evs_lcK ql hgs ho hts hes as H σ env st _ henv hst (PostS.bnd hp henv fun d st1 v as1 H1 s1 k1 i1 p1 => ?_)
  exact p1.here k1 ((henv.step s1).set i i1)
theorem js_setLcK {g : TG} {y : Str} {py spos : Pos} {i : Nat} (j : Nat) (hc : X.calm = true) (hN : X.N.Nodup) (hy : X.N[i]? = some y) (hyl : X.env.scope.names.lookup y = some .local) (ok : BlkOk X.N X.env.scope scope own) (hg : BK X scope fun Z => PG Z tg g) (hgs : GvS X.K ca g gg) (ho : OwnT g (own.map (·.2)))
    (he : BK X scope fun Z => JE ca Z W0 elt fe) (hsw : swapsWith (.ListComp elt [⟨tg, .Name x p0, [], 0⟩] scope pos) (some (.Name y py)) spos.line X.env = pure true := by rfl) (hs : ∀ y, foldedSetIterable (.Name x p0) X.env y = pure y := by intro _; rfl)
    (hj : X.N[j]? = some x := by rfl) (hv : Vis X.env.scope x := by first | exact Or.inl rfl | exact Or.inr (Or.inl rfl) | exact Or.inr (Or.inr rfl)) (hd : (x == ("__debug__" : Str)) = false := by decide) (hcd : (x == ("__classdict__" : Str)) = false := by decide) :
    JS ca X W (.Assign [.Name y py] (.ListComp elt [⟨tg, .Name x p0, [], 0⟩] scope pos) spos) (sAsg i (fLcK j gg fYes fe (own.map (·.2)))) :=
  js_setLcKG j hc hN hy hyl hsw ok hg hgs ho (fun _ _ _ _ _ => pts_nil) tvs_yes (fun s H C cl fp => je_canon (he s H C cl fp)) evs_canon hs hj hv hd hcd
theorem js_setLcKI {g : TG} {y : Str} {py spos : Pos} {i : Nat} (j : Nat) (hc : X.calm = true) (hN : X.N.Nodup) (hy : X.N[i]? = some y) (hyl : X.env.scope.names.lookup y = some .local) (ok : BlkOk X.N X.env.scope scope own) (hg : BK X scope fun Z => PG Z tg g) (hgs : GvS X.K ca g gg) (ho : OwnT g (own.map (·.2)))
    (ht : BK X scope fun Z => JT ca Z W0 tst ft) (he : BK X scope fun Z => JE ca Z W0 elt fe) (hsw : swapsWith (.ListComp elt [⟨tg, .Name x p0, [tst], 0⟩] scope pos) (some (.Name y py)) spos.line X.env = pure true := by rfl) (hs : ∀ y, foldedSetIterable (.Name x p0) X.env y = pure y := by intro _; rfl)
    (hj : X.N[j]? = some x := by rfl) (hv : Vis X.env.scope x := by first | exact Or.inl rfl | exact Or.inr (Or.inl rfl) | exact Or.inr (Or.inr rfl)) (hd : (x == ("__debug__" : Str)) = false := by decide) (hcd : (x == ("__classdict__" : Str)) = false := by decide) :
    JS ca X W (.Assign [.Name y py] (.ListComp elt [⟨tg, .Name x p0, [tst], 0⟩] scope pos) spos) (sAsg i (fLcK j gg ft fe (own.map (·.2)))) :=
  js_setLcKG j hc hN hy hyl hsw ok hg hgs ho (fun s H C cl fp => pts_one (jt_canon (ht s H C cl fp))) tvs_canon (fun s H C cl fp => je_canon (he s H C cl fp)) evs_canon hs hj hv hd hcd
theorem js_forK {f : FS} {bodyS : List Stmt} (j : Nat) (hp : PassesOwn (model X.prog X.w) X.A X.env X.xe) (hc : X.calm = true) (hg : JG ca X tg gg) (hb : JB ca X W bodyS f) (hs : ∀ y, foldedSetIterable (.Name x p0) X.env y = pure y := by intro _; rfl)
    (hj : X.N[j]? = some x := by rfl) (hv : Vis X.env.scope x := by first | exact Or.inl rfl | exact Or.inr (Or.inl rfl) | exact Or.inr (Or.inr rfl)) (hd : (x == ("__debug__" : Str)) = false := by decide) (hcd : (x == ("__classdict__" : Str)) = false := by decide) :
    JS ca X W (.For tg (.Name x p0) bodyS [] pos) (sForK j gg f) := by
  obtain ⟨tl, pl, ql⟩ := je_var (ca := ca) (X := X) (W := W) (pos := p0) j hj hv hd hcd
  obtain ⟨tg', pg, qg⟩ := hg
  obtain ⟨tb, pb, qb⟩ := hb
  refine ⟨_, ps_for hp hc (pi_list pl) pg pb hs, fun as H σ env st E he hst hq => ?_⟩
  unfold sForK at hq
  split at hq
  · rename_i k ek
    split at hq
    · rename_i ds el
      refine ql as H σ env st _ he hst ?_
      have ev : fVar j env st = some (.ok (.cell k) st) := by unfold fVar; rw [ek]
      rw [ev]
      intro v as1 H1 s1 k1 i1
      cases i1 with
      | @cell a _ ha =>
        obtain ⟨xs, hx, _⟩ := cell_lst k1 ha (lstAt_is el)
        refine ⟨a, rfl, ⟨xs, SqL.of hx⟩, ?_⟩
        refine ⟨fun i m σ' H' => ∃ as' env' st', Step as1 H1 as' H' ∧ EnvOk X.K ca as' (stab as' H') σ' env' ∧ StOk X.K ca as' H' st' ∧ PostS X.K ca W as' H' (forFk k gg f m i env' st') E, ⟨ds.length, as1, env, st, Step.refl _ _, he.step s1, k1, PostS.step hq s1⟩, ?_⟩
        rintro i m σ' H' ⟨as', env', st', s, he', k', p⟩
        have ha' := pre_get s.pre ha
        cases m with
        | zero =>
          unfold forFk at p
          cases e2 : lstAt st' k with
          | none => rw [e2] at p; exact p.elim
          | some dsc =>
            rw [e2] at p
            dsimp only at p
            obtain ⟨xsc, hxc, isc⟩ := cell_lst k' ha' (lstAt_is e2)
            by_cases hz : dsc.length = i
            · rw [if_pos hz] at p
              exact .inl ⟨⟨xsc, SqL.of hxc, by rw [isc.len]; omega⟩, PostS.here p k' he'⟩
            · rw [if_neg hz] at p
              exact p.elim
        | succ m =>
          unfold forFk at p
          cases e2 : lstAt st' k with
          | none => rw [e2] at p; exact p.elim
          | some dsc =>
            rw [e2] at p
            dsimp only at p
            cases ed : dsc[i]? with
            | none => rw [ed] at p; exact p.elim
            | some d =>
              rw [ed] at p
              dsimp only at p
              obtain ⟨xsc, hxc, isc⟩ := cell_lst k' ha' (lstAt_is e2)
              obtain ⟨v, evv, ivv⟩ := isc.get ed
              refine .inr ⟨⟨xsc, v, SqL.of hxc, evv⟩, fun σ2 H2 => ∃ as' env' st', Step as1 H1 as' H2 ∧ EnvOk X.K ca as' (stab as' H2) σ2 env' ∧ StOk X.K ca as' H2 st' ∧ PostS X.K ca W as' H2 (forFk k gg f m (i + 1) env' st') E, fun σ2 H2 q => ⟨m, Nat.lt_succ_self m, q⟩, fun y H'' hy => ?_⟩
              obtain ⟨eqH, yx⟩ := hy
              subst eqH
              have exv : v = y := by
                have := yx xsc (SqL.of hxc)
                rw [evv] at this
                exact Option.some.inj this
              subst exv
              refine qg as' _ σ' env' st' v d _ he' k' ivv ?_
              cases eg : gg d env' st' with
              | none => rw [eg] at p; exact p.elim
              | some q =>
                obtain ⟨env1, st1⟩ := q
                rw [eg] at p
                dsimp only at p
                intro σ1 H2 s2 k2 he1
                refine qb as' H2 σ1 env1 st1 _ he1 k2 ?_
                cases eb : f env1 st1 with
                | none => rw [eb] at p; exact p.elim
                | some r =>
                  obtain ⟨o, st2⟩ := r
                  rw [eb] at p
                  have sx : Step as1 H1 as' H2 := s.trans s2
                  cases o with
                  | nx env2 => exact fun σ3 as3 H3 s3 k3 he3 => ⟨as3, env2, st2, sx.trans s3, he3, k3, PostS.step p (s2.trans s3)⟩
                  | ct env2 => exact fun σ3 as3 H3 s3 k3 he3 => ⟨as3, env2, st2, sx.trans s3, he3, k3, PostS.step p (s2.trans s3)⟩
                  | bk env2 => exact fun σ3 as3 H3 s3 k3 he3 => p σ3 as3 H3 (s2.trans s3) k3 he3
                  | rt d2 => exact fun σ3 as3 H3 s3 k3 he3 => p σ3 as3 H3 (s2.trans s3) k3 he3
                  | er c fs env2 => exact fun cls dd σ3 as3 H3 s3 k3 he3 e3 => p cls dd σ3 as3 H3 (s2.trans s3) k3 he3 e3
    · exact hq.elim
  · exact hq.elim
end
end DS

namespace DS
open PySem L2 PySem.Spec PyProof.Rows
/-! ### == and != by an own __eq__ -/
section
open PySem.W
variable {prog : Program} {w : World} {A : Around} {E : Value → Shared → Prop} {s : Shared} {K : PySem.W.Frag} {x y C L f : Addr} {h₀ : Heap} {m : Str → Option Value} {ox : Obj} {od : Option Obj}
theorem boundNe {M : Model} {args : List Value} {Q : Option Value → Shared → Prop} (X : K.In s.heap) (I : InstAt s.heap x ox C od) (hs : findIn K (.ref C) "__ne__" = some (some (.builtin "object.__ne__")))
    (h : wpAny M A (call (.builtin "object.__ne__") (.ref x :: args)) (fun v => Q (some v)) E s) : wpAny M A (callSpecialIfBound? (.ref x) "__ne__" args) Q E s := by
  simp only [callSpecialIfBound?, bindSpecialIfBound?]
  refine wpAny_holding (wpAny_bind (wpAny_bind (wpAny_bind (I.type.here ((looks_findIn X hs).here ?_)))))
  simp only [PySem.F.cmp_object.ne.bind]
  refine wpAny_bind (wpAny_askSetting (wpAny_ite ?_))
  have fin : wpAny M A (call (.builtin "object.__ne__") ([.ref x] ++ args) >>= fun v => pure (some v)) Q E s := wpAny_bind (wpAny_mono h (fun v s' h' => wpAny_pure h') fun _ _ h' => h')
  split
  · exact wpAny_bind (wpAny_pure (wpAny_pure fin))
  · exact wpAny_tryCatch (wpAny_bind (wpAny_pure (wpAny_pure fin)))
theorem objNe_own {Q : Fin → Shared → Prop} (X : K.In s.heap) (I : InstAt s.heap x ox C od) (he : findIn K (.ref C) "__eq__" = some (some (.ref f))) (hf : isFn K (.ref f) = true) (hu : A.units < cLine)
    (h : wpAny (model prog w) A (call (.ref f) [.ref x, .ref y]) (fun v s' => ∃ b, v = .bool b ∧ Q (.done (.ret (.bool (!b)))) s') E s) : wpAny (model prog w) A (Builtin.«object.__ne__» ⟨[.ref x, .ref y], []⟩) Q E s := by
  unfold Builtin.«object.__ne__»
  have hb : wpAny (model prog w) A (callSpecialIfBound? (.ref x) (Str.ofString "__eq__") [.ref y]) (fun r s' => ∃ b, r = some (.bool b) ∧ Q (.done (.ret (.bool (!b)))) s') E s :=
    ifBound_K X I he hf (wpAny_mono h (fun v s' z => by obtain ⟨b, rfl, q⟩ := z; exact ⟨b, rfl, q⟩) fun _ _ e => e)
  repeat (first
    | with_reducible refine wpAny_cRoomFor hu ?_
    | (refine wpAny_bind (m := callSpecialIfBound? (.ref x) (Str.ofString "__eq__") [.ref y]) (wpAny_mono hb (fun r s' hr => by
          obtain ⟨b, rfl, hq⟩ := hr
          repeat (first | exact hq | exact wpAny_pure hq | exact wpAny_truthy_bool hq | (refine wpAny_bind (m := truthy (.bool _)) (wpAny_truthy_bool ?_)) | wp_step)) fun _ _ e => e))
    | wp_step)
theorem ne_own {Q : Value → Shared → Prop} (hu : A.units + 1 < cLine) (F : Fr h₀ L s.heap m) (X₀ : K.In h₀) (I : InstAt s.heap x ox C od) (hb : Looks (model prog w) s.heap (typeOf (.ref y)) (.ref C))
    (hn : findIn K (.ref C) "__ne__" = some (some (.builtin "object.__ne__"))) (he : findIn K (.ref C) "__eq__" = some (some (.ref f))) (hf : isFn K (.ref f) = true) (hm : mroIn K C (.type "object") = some true)
    (h : wpAny (model prog w) A.in1 (call (.ref f) [.ref x, .ref y]) (fun v s' => ∃ b, v = .bool b ∧ Q (.bool (!b)) s') E s) : wpAny (model prog w) A (richCompare .NotEq (.ref x) (.ref y)) Q E s := by
  have X := X₀.keeps F.keep
  have li : Looks (model prog w) s.heap (isInstance (.ref x) (.type "object")) true := I.type.andThen (looks_mroIn X hm)
  have one : wpAny (model prog w) A (tryCompare (.ref x) "__ne__" (.ref y)) (fun r s' => ∃ b, r = some (.bool (!b)) ∧ Q (.bool (!b)) s') E s := by
    simp only [tryCompare]
    refine wpAny_bind (boundNe X I hn (wpAny_call (codeAny_call_builtin PySem.F.cmp_object.ne.plain PySem.F.cmpEntry_ne
      (check_slot PySem.F.cmpKind_ne PySem.F.cmpSplit_ne li (PySem.F.cmpArgs_ne _ _)
        (objNe_own (A := A.in1) X I he hf hu (wpAny_mono h (fun v s' hv => ?_) fun _ _ e => e))))))
    obtain ⟨b, rfl, hq⟩ := hv
    first | exact ⟨b, rfl, wpAny_pure ⟨b, rfl, hq⟩⟩ | exact ⟨b, rfl, wpAny_pure (wpAny_pure ⟨b, rfl, hq⟩)⟩
  unfold richCompare
  simp only [oneThing_ref]
  refine wpAny_holding (wpAny_bind (wpAny_cRoomFor (Nat.lt_of_succ_lt hu) ?_))
  rw [cmpInfo_NotEq]
  dsimp only
  refine wpAny_bind (I.type.here (wpAny_bind (hb.here ?_)))
  rw [show (Value.ref C != Value.ref C) = false from by simp]
  simp only [Bool.false_eq_true, if_false]
  refine wpAny_bind (wpAny_pure ?_)
  simp only [Bool.false_eq_true, if_false]
  refine wpAny_bind (wpAny_mono one (fun r s' z => ?_) fun _ _ e => e)
  obtain ⟨b, rfl, hq⟩ := z
  first | exact wpAny_pure hq | exact wpAny_pure (wpAny_pure hq)
end
/-- two instances of the class at C: what its own == tells -/
def rOwn (C : Addr) (sp : Sp) (neg : Bool) : R2 := fun x y H Q => ∃ a b dx dy fs gs, x = .ref a ∧ y = .ref b ∧ H a = some (.ins C dx fs) ∧ H b = some (.ins C dy gs) ∧ sp [.ref a, .ref b] H (fun v H' => ∃ r, v = .bl r ∧ Q (.bl (r != neg)) H') E0
section
variable {X : Cx} {C f : Addr} {fd : FuncData} {ps : List Str} {k : Nat} {sp : Sp}
theorem own_run {A : Around} {s : Shared} {σ : L2.St} {H : Hp} {pins : List (Addr × Obj)} {a b : Addr} {Q : Bool → Hp → Prop} (Fn : FnOk X.prog X.w X.K X.mg X.base (L2.CX X.prog X.w) k f fd ps sp) (hb : Binds X.K fd ps []) (hr : Room k A) (hfr : A.frames = X.A.frames) (I : Inv X pins σ H s)
    (h : sp [.ref a, .ref b] H (fun v H' => ∃ r, v = .bl r ∧ Q r H') E0) :
    wpAny (model X.prog X.w) A (call (.ref f) [.ref a, .ref b]) (fun v s' => ∃ r, v = .bool r ∧ ∃ H', Inv X pins σ H' s' ∧ Q r H') X.xe s := by
  have e0 : Env0 X.prog X.w X.K X.mg X.base A X.stack s H := by
    have e := I.env0
    exact ⟨by rw [hfr]; exact e.frames, e.mod, e.bs, e.bsz, e.funs, e.frf, e.hok, e.bare⟩
  have hl := Fn.len _ _ _ _ h
  refine wpAny_call (codeAny_mono (Fn.run A X.stack s H ⟨[.ref a, .ref b], []⟩ [.ref a, .ref b] [.ref a, .ref b] _ E0 hr e0 (by
    have := hb s [.ref a, .ref b] I.kIn (by simpa using hl)
    simpa using this) (.cons rfl (.cons rfl .nil)) h) fun r s' hq => ?_)
  cases r with
  | error e =>
    obtain ⟨_, _, _, _, _, _, _, _, _, _, _, _, z⟩ := hq
    exact z.elim
  | ok fl =>
    cases fl with
    | ret u =>
      obtain ⟨v, H', I3, rv, r, rfl, q⟩ := I.after hq
      cases rv
      exact ⟨r, rfl, H', I3, q⟩
    | next => exact False.elim hq
    | brk => exact False.elim hq
    | cont => exact False.elim hq
theorem op_eqOwn (Fn : FnOk X.prog X.w X.K X.mg X.base (L2.CX X.prog X.w) k f fd ps sp) (he : PySem.W.findIn X.K (.ref C) "__eq__" = some (some (.ref f))) (hf : PySem.W.isFn X.K (.ref f) = true) (hb : Binds X.K fd ps []) (hr : Room (k + 1) X.A) : OpR X (compareOp .Eq) (rOwn C sp false) := by
  intro pins s σ H x y v u Q I rx ry hq
  obtain ⟨a, b, dx, dy, fs, gs, rfl, rfl, ha, hb', hq⟩ := hq
  cases rx
  cases ry
  obtain ⟨mA, J, _⟩ := ins_get I.hok ha
  obtain ⟨mB, J', _⟩ := ins_get I.hok hb'
  obtain ⟨od, J, _⟩ := J.look
  obtain ⟨od', J', _⟩ := J'.look
  obtain ⟨m, hF⟩ := I.fr
  show wpAny (model X.prog X.w) X.A (richCompare .Eq (.ref a) (.ref b)) (EP X pins σ Q) X.xe s
  refine PySem.W.cmp_K (op := .Eq) (tb := .ref C) hr.units0 hF I.ok.mod.kin J J'.type (by simp [PySem.W.notFirst]) he hf ?_
  refine wpAny_mono (own_run Fn hb (hr.mono (Nat.le_succ _)) rfl I (Q := fun r H' => Q (.bl (r != false)) H') hq) (fun v s' z => ?_) fun _ _ e => e
  · obtain ⟨r, rfl, H', I', q⟩ := z
    exact ⟨.bl r, H', I', rfl, by simpa using q⟩
theorem op_neOwn (Fn : FnOk X.prog X.w X.K X.mg X.base (L2.CX X.prog X.w) k f fd ps sp) (hn : PySem.W.findIn X.K (.ref C) "__ne__" = some (some (.builtin "object.__ne__"))) (hm : PySem.W.mroIn X.K C (.type "object") = some true) (he : PySem.W.findIn X.K (.ref C) "__eq__" = some (some (.ref f))) (hf : PySem.W.isFn X.K (.ref f) = true) (hb : Binds X.K fd ps []) (hr : Room (k + 1) X.A) : OpR X (compareOp .NotEq) (rOwn C sp true) := by
  intro pins s σ H x y v u Q I rx ry hq
  obtain ⟨a, b, dx, dy, fs, gs, rfl, rfl, ha, hb', hq⟩ := hq
  cases rx
  cases ry
  obtain ⟨mA, J, _⟩ := ins_get I.hok ha
  obtain ⟨mB, J', _⟩ := ins_get I.hok hb'
  obtain ⟨od, J, _⟩ := J.look
  obtain ⟨od', J', _⟩ := J'.look
  obtain ⟨m, hF⟩ := I.fr
  show wpAny (model X.prog X.w) X.A (richCompare .NotEq (.ref a) (.ref b)) (EP X pins σ Q) X.xe s
  refine ne_own (by have := hr.units; omega) hF I.ok.mod.kin J J'.type hn he hf hm ?_
  refine wpAny_mono (own_run Fn hb hr.in1 rfl I (Q := fun r H' => Q (.bl (r != true)) H') hq) (fun v s' z => ?_) fun _ _ e => e
  · obtain ⟨r, rfl, H', I', q⟩ := z
    exact ⟨r, rfl, .bl (!r), H', I', rfl, by simpa using q⟩
end
structure EqOk (P : Program) (w : World) (K : PySem.W.Frag) (mg : Str → Option Value) (base : Heap) (ca : Ca) (k : Nat) (c : Nat) (Fe : List D → Sta → Option (R D)) : Prop where
  ex : ∃ f fd ps, PySem.W.findIn K (.ref (ca c)) "__eq__" = some (some (.ref f)) ∧ PySem.W.isFn K (.ref f) = true ∧ FnOk P w K mg base (L2.CX P w) k f fd ps (spD K ca 2 Fe) ∧ Binds K fd ps []
  ne : PySem.W.findIn K (.ref (ca c)) "__ne__" = some (some (.builtin "object.__ne__")) ∧ PySem.W.mroIn K (ca c) (.type "object") = some true
def oOwn (c : Nat) (Fe : List D → Sta → Option (R D)) (neg : Bool) (x y : D) (st : Sta) : Option (R D) := match insOf x st, insOf y st with
  | some (c1, _), some (c2, _) => if c1 = c ∧ c2 = c then (match Fe [x, y] st with
    | some (.ok (.bl r) st') => some (.ok (.bl (r != neg)) st')
    | _ => none) else none
  | _, _ => none
section
variable {ca : Ca} {W : WX} {c : Nat} {Fe : List D → Sta → Option (R D)} {neg : Bool}
theorem rv_own {K : PySem.W.Frag} : Rv2 K ca W (rOwn (ca c) (spD K ca 2 Fe) neg) (oOwn c Fe neg) := by
  intro as H σ st v u x y Q k i1 i2 hp
  unfold oOwn at hp
  split at hp
  · rename_i c1 f1 c2 f2 e1 e2
    split at hp
    · rename_i hc
      obtain ⟨rfl, rfl⟩ := hc
      obtain ⟨a, dx, vs, rfl, ha, hf⟩ := ins_is k i1 e1
      obtain ⟨b, dy, ws, rfl, hb, hg⟩ := ins_is k i2 e2
      refine ⟨a, b, dx, dy, vs, ws, rfl, rfl, ha, hb, as, st, [x, y], .cons i1 (.cons i2 .nil), k, rfl, ?_⟩
      split at hp
      · rename_i r st' e3
        rw [e3]
        intro v H' s k' i
        cases i
        exact ⟨r, rfl, hp _ as H' s k' (.bl _)⟩
      · exact hp.elim
    · exact hp.elim
  · exact hp.elim
end
section
variable {ca : Ca} {X : Cx} {W : WX} {a b : Expr} {fa fb : F D} {pos : Pos} {c k j : Nat} {Fe : List D → Sta → Option (R D)}
theorem je_eqOwn (T : EqOk X.prog X.w X.K X.mg X.base ca k c Fe) (hr : Room j X.A) (hk : k + 1 ≤ j) (ha : JE ca X W a fa) (hb : JE ca X W b fb) (hm : behindInMarks .Eq b = false) : JE ca X W (.Compare a [.Eq] [b] pos) (f2 (oOwn c Fe false) fa fb) := by
  obtain ⟨f, fd, ps, h1, h2, h3, h4⟩ := T.ex
  exact je_cmp (op_eqOwn h3 h1 h2 h4 (hr.mono hk)) rv_own ha hb hm
theorem je_neOwn (T : EqOk X.prog X.w X.K X.mg X.base ca k c Fe) (hr : Room j X.A) (hk : k + 1 ≤ j) (ha : JE ca X W a fa) (hb : JE ca X W b fb) (hm : behindInMarks .NotEq b = false) : JE ca X W (.Compare a [.NotEq] [b] pos) (f2 (oOwn c Fe true) fa fb) := by
  obtain ⟨f, fd, ps, h1, h2, h3, h4⟩ := T.ex
  exact je_cmp (op_neOwn h3 T.ne.1 T.ne.2 h1 h2 h4 (hr.mono hk)) rv_own ha hb hm
theorem jt_eqOwn (T : EqOk X.prog X.w X.K X.mg X.base ca k c Fe) (hr : Room j X.A) (hk : k + 1 ≤ j) (ha : JE ca X W a fa) (hb : JE ca X W b fb) (hm : behindInMarks .Eq b = false) : JT ca X W (.Compare a [.Eq] [b] pos) (fTest (f2 (oOwn c Fe false) fa fb)) := by
  obtain ⟨f, fd, ps, h1, h2, h3, h4⟩ := T.ex
  exact jt_cmp (op_eqOwn h3 h1 h2 h4 (hr.mono hk)) rv_own ha hb hm
theorem jt_neOwn (T : EqOk X.prog X.w X.K X.mg X.base ca k c Fe) (hr : Room j X.A) (hk : k + 1 ≤ j) (ha : JE ca X W a fa) (hb : JE ca X W b fb) (hm : behindInMarks .NotEq b = false) : JT ca X W (.Compare a [.NotEq] [b] pos) (fTest (f2 (oOwn c Fe true) fa fb)) := by
  obtain ⟨f, fd, ps, h1, h2, h3, h4⟩ := T.ex
  exact jt_cmp (op_neOwn h3 T.ne.1 T.ne.2 h1 h2 h4 (hr.mono hk)) rv_own ha hb hm
end
/-! ### tuples of such instances -/
section
variable {X : Cx} {ca : Ca} {k c : Nat} {Fe : List D → Sta → Option (R D)}
/-- two instances, seen over what stands still; their own == says True -/
def Twin (K : PySem.W.Frag) (ca : Ca) (Fe : List D → Sta → Option (R D)) (a b : Addr) (H : Hp) : Prop := ∃ hs x y, IsD K ca ⟨[], hs⟩ (stab ⟨[], hs⟩ H) (.ref a) x ∧ IsD K ca ⟨[], hs⟩ (stab ⟨[], hs⟩ H) (.ref b) y ∧ StOk K ca ⟨[], hs⟩ H [] ∧ Fe [x, y] [] = some (.ok (.bl true) [])
theorem stab_grow {hs : List Addr} {H H' : Hp} (e : L2.Ext H H') : Ext (stab ⟨[], hs⟩ H) (stab ⟨[], hs⟩ H') := fun a o h => by
  obtain ⟨h1, h2, h3⟩ := stab_some h
  rw [stab_out h1 h2]
  exact e _ _ h3
theorem stOk_nil {K : PySem.W.Frag} {hs : List Addr} {H : Hp} (h : ∀ a ∈ hs, ∃ o, H a = some o) : StOk K ca ⟨[], hs⟩ H [] := ⟨List.nodup_nil, rfl, fun a q => ⟨List.not_mem_nil, h a q⟩, fun k a c e => by simp at e⟩
theorem twin_mon {K : PySem.W.Frag} (a b : Addr) (H H' : Hp) (e : L2.Ext H H') (t : Twin K ca Fe a b H) : Twin K ca Fe a b H' := by
  obtain ⟨hs, x, y, h1, h2, h3, h4⟩ := t
  exact ⟨hs, x, y, h1.ext (List.prefix_refl _) (stab_grow e), h2.ext (List.prefix_refl _) (stab_grow e), stOk_nil (fun a q => let ⟨o, z⟩ := (h3.hid a q).2; ⟨o, e _ _ z⟩), h4⟩
theorem spEq_of {K : PySem.W.Frag} {vs : List V} {H : Hp} {Q : VK} {E : XK} (h : spEq (Twin K ca Fe) vs H Q E) : spD K ca 2 Fe vs H Q E := by
  obtain ⟨a, b, rfl, ⟨hs, x, y, h1, h2, h3, h4⟩, q⟩ := h
  refine ⟨⟨[], hs⟩, [], [x, y], .cons h1 (.cons h2 .nil), h3, rfl, ?_⟩
  rw [h4]
  intro v H' s k i
  cases i
  exact q H' fun a o z => s.keep a o List.not_mem_nil z
theorem StOk.grew {K : PySem.W.Frag} {as : Wl} {H H' : Hp} {st : Sta} (k : StOk K ca as H st) (e : L2.Ext H H') : StOk K ca as H' st := by
  have sp : Ext (stab as H) (stab as H') := fun a o h => by
    obtain ⟨h1, h2, h3⟩ := stab_some h
    rw [stab_out h1 h2]
    exact e _ _ h3
  refine ⟨k.nd, k.len, fun a q => let ⟨z, o, z2⟩ := k.hid a q; ⟨z, o, e _ _ z2⟩, fun n a c e1 e2 => ?_⟩
  have q := k.at_ n a c e1 e2
  cases h : H a with
  | none => rw [h] at q; exact q.elim
  | some o =>
    rw [h] at q
    rw [e _ _ h]
    exact q.ext (List.prefix_refl _) sp
theorem Step.grow {as : Wl} {H H' : Hp} (e : L2.Ext H H') : Step as H as H' := ⟨List.prefix_refl _, rfl, fun _ h n => (n h).elim, fun a o _ h => e a o h⟩
def isYes : Option (R D) → Bool
  | some (.ok (.bl true) []) => true
  | _ => false
theorem isYes_eq {m : Option (R D)} (h : isYes m = true) : m = some (.ok (.bl true) []) := by
  unfold isYes at h
  split at h
  · rfl
  · cases h
def isIns (c : Nat) : D → Bool
  | .ins c' _ => c' == c
  | _ => false
def twins (c : Nat) (Fe : List D → Sta → Option (R D)) : List D → List D → Bool
  | [], [] => true
  | x :: xs, y :: ys => isIns c x && isIns c y && pl 0 x && pl 0 y && isYes (Fe [x, y] []) && twins c Fe xs ys
  | _, _ => false
def oTwins (c : Nat) (Fe : List D → Sta → Option (R D)) (x y : D) (st : Sta) : Option (R D) := match x, y with
  | .tup xs, .tup ys => if twins c Fe xs ys = true then ret (.bl true) st else none
  | _, _ => none
theorem ins_at {K : PySem.W.Frag} {as : Wl} {G : Hp} {v : V} {x : D} (h : IsD K ca as G v x) (e : isIns c x = true) : ∃ a dx vs, v = .ref a ∧ G a = some (.ins (ca c) dx vs) := by
  cases h <;> first | (cases e; done) | skip
  rename_i h0 h1 h2
  have : c = _ := (beq_iff_eq.mp e).symm
  subst this
  exact ⟨_, _, _, rfl, by rw [← h0]; exact h1⟩
theorem twins_prs {K : PySem.W.Frag} {as : Wl} {H : Hp} {st : Sta} (k : StOk K ca as H st) : ∀ {vs ws : List V} {xs ys : List D}, IsDs K ca as (stab as H) vs xs → IsDs K ca as (stab as H) ws ys → twins c Fe xs ys = true → Prs (DIns (ca c) (Twin K ca Fe)) vs ws H
  | _, _, [], [], i1, i2, _ => by cases i1; cases i2; exact Prs.nil
  | _, _, [], _ :: _, _, _, h => by cases h
  | _, _, _ :: _, [], _, _, h => by cases h
  | _, _, x :: xs, y :: ys, i1, i2, h => by
    cases i1 with
    | cons a1 a2 =>
      cases i2 with
      | cons b1 b2 =>
        unfold twins at h
        simp only [Bool.and_eq_true] at h
        obtain ⟨⟨⟨⟨⟨h1, h2⟩, h3⟩, h4⟩, h5⟩, h6⟩ := h
        obtain ⟨a, dx, fs, rfl, ha⟩ := ins_at a1 h1
        obtain ⟨b, dy, gs, rfl, hb⟩ := ins_at b1 h2
        refine Prs.cons ⟨a, b, dx, dy, fs, gs, rfl, rfl, (stab_some ha).2.2, (stab_some hb).2.2, as.hs, x, y, a1.cut h3, b1.cut h4, stOk_nil (fun a q => (k.hid a q).2), isYes_eq h5⟩ (twins_prs k a2 b2 h6)
theorem rv_twins {W : WX} : Rv2 X.K ca W (rEqG (DTup X.K (DIns (ca c) (Twin X.K ca Fe)))) (oTwins c Fe) := by
  intro as H σ st v u x y Q k i1 i2 hp
  unfold oTwins at hp
  split at hp
  · split at hp
    · rename_i h
      cases i1 with
      | tup h1 h2 =>
        cases i2 with
        | tup g1 g2 =>
          exact ⟨⟨_, _, _, _, rfl, rfl, ext_t (stab_sub _ _) h1, ext_t (stab_sub _ _) g1, twins_prs k h2 g2 h⟩, fun H' e => hp _ as H' (Step.grow e) (k.grew e) (.bl _)⟩
    · exact hp.elim
  · exact hp.elim
variable {W : WX} {a b : Expr} {fa fb : F D} {pos : Pos} {j : Nat}
theorem rc_twins (T : EqOk X.prog X.w X.K X.mg X.base ca k c Fe) : RcG X (k + 1) (DTup X.K (DIns (ca c) (Twin X.K ca Fe))) := by
  obtain ⟨f, fd, ps, h1, h2, h3, h4⟩ := T.ex
  refine rcG_tup (mon_ins twin_mon) (eqG_ins (E := fun _ _ _ => False) (h3.imp fun vs H Q E h => spEq_of h) h1 h2 h4 (passes_call (W := fun _ _ _ _ => False) takes0 (fun _ _ _ _ z => z)))
theorem je_eqTw (T : EqOk X.prog X.w X.K X.mg X.base ca k c Fe) (hr : Room j X.A) (hk : k + 1 ≤ j) (ha : JE ca X W a fa) (hb : JE ca X W b fb) (hm : behindInMarks .Eq b = false) : JE ca X W (.Compare a [.Eq] [b] pos) (f2 (oTwins c Fe) fa fb) :=
  je_cmp (op_eqG (rc_twins T) (hr.mono hk)) rv_twins ha hb hm
end
end DS
namespace DS
open PySem L2 PySem.Spec PyProof.Rows
/-! ### l.index(text) of a list of texts -/
def fIdxL (fo fa : F D) : F D := fun env st => bnd (fo env st) fun od st => match od with
  | .lst ds => if allS ds = true then bnd (fa env st) fun d st => (match d with
    | .str x => (match idxS x ds 0 with | some n => some (.ok (.int n) st) | none => none)
    | _ => none) else none
  | _ => none
section
variable {ca : Ca} {X : Cx} {W : WX} {o e : Expr} {fo fa : F D} {apos cpos : Pos}
theorem eqV_str {x y : Str} : eqV (.str x) (.str y) = decide (x = y) := by
  first
    | (simp [eqV]; done)
    | (by_cases h : x = y
       · subst h; simp [eqV]
       · simp [eqV, h])
theorem je_idxL (ho : JE ca X W o fo) (ha : JE ca X W e fa) (hb : attributeBase o "index" X.env (eval o X.env) = eval o X.env := by rfl)
    (h2 : ((((backTo cpos (starEach [e] X.env)).all fun x => !x.1) && (backToKw cpos (keywordEach [] X.env)).all fun x => x.1.isSome) && decide (([e].length + ([] : List Keyword).length + if ([] : List Keyword).isEmpty = true then 0 else 1) < 30)) = true := by rfl)
    (h3 : (apos.endLine == cpos.line) = true := by rfl) (h4 : starEach [e] X.env = (false, eval e X.env) :: starEach [] X.env := by rfl) (h5 : ((backTo cpos (starEach [] X.env)).any fun x => x.1) = false := by rfl) :
    JE ca X W (.Call (.Attribute o "index" apos) [e] [] cpos) (fIdxL fo fa) := by
  obtain ⟨to, p, q⟩ := ho
  obtain ⟨ta, p2, q2⟩ := ha
  refine ⟨_, pe_bm PySem.F.plainAttrs_list PySem.F.slot_list_index PySem.F.type_list_index mt_index p (pa_cons p2 pa_nil h4) hb h2 h3 h4 h5, fun as H σ env st Q he hs hp => ?_⟩
  refine q as H σ env st _ he hs (Post.bnd hp fun od st1 v as1 H1 s1 k1 i1 p1 => ?_)
  cases i1 <;> first | exact False.elim p1 | skip
  rename_i a xs ds h1 h2'
  dsimp only at p1
  by_cases hal : allS ds = true
  · rw [if_pos hal] at p1
    obtain ⟨ys, rfl, rfl⟩ := allS_is h2' hal
    refine ⟨.inl ⟨rfl, _, SqL.of (stab_some h1).2.2⟩, ?_⟩
    refine q2 as1 H1 σ env st1 _ (he.step s1) k1 (Post.bnd p1 fun d st2 w as2 H2 s2 k2 i2 p2 => ?_)
    cases i2 <;> first | exact False.elim p2 | skip
    rename_i x
    dsimp only at p2
    split at p2
    · rename_i n en
      obtain ⟨_, e1, e2⟩ := idxS_is en
      refine ⟨a, ys.map V.str, .str x, n, .str x, rfl, rfl, SqL.of (stab_some (s2.ext _ _ h1)).2.2, rfl, ?_, ?_, ?_, ?_, p2.here k2 (.int _)⟩
      · simp [List.all_map, Function.comp_def, flatV]
      · simpa using e1
      · rw [eqV_str]; simp
      · intro m z' hm hz
        rw [List.getElem?_map] at hz
        obtain ⟨y, hy, rfl⟩ := Option.map_eq_some_iff.mp hz
        rw [eqV_str]
        have := e2 m (by omega)
        rw [hy] at this
        exact decide_eq_false fun z => this (by rw [z])
    · exact p2.elim
  · rw [if_neg hal] at p1
    exact p1.elim
end
end DS

namespace HK
open PySem PySem.Spec PyProof.Rows L2 He DS
/-- a class without own __ne__ -/
def ownB (K : PySem.W.Frag) (x : Str) : Bool := (match PySem.W.findIn K (.ref (ga K x)) "__ne__" with
  | some (some (.builtin t)) => t == "object.__ne__"
  | _ => false) && (PySem.W.mroIn K (ga K x) (.type "object") == some true)
theorem ownB_ok {K : PySem.W.Frag} {x : Str} (h : ownB K x = true) : PySem.W.findIn K (.ref (ga K x)) "__ne__" = some (some (.builtin "object.__ne__")) ∧ PySem.W.mroIn K (ga K x) (.type "object") = some true := by
  obtain ⟨h1, h2⟩ := Bool.and_eq_true_iff.mp h
  refine ⟨?_, eq_of_beq h2⟩
  split at h1
  · rename_i t e
    rw [e, eq_of_beq h1]
  · cases h1
end HK

namespace DS
open PySem L2 PySem.Spec PyProof.Rows
/-! ### only the first of what is changed is in sight -/
def keepN (n : Nat) : D → Bool
  | .cell k => decide (k < n)
  | d => pl 0 d
def envUpto (n : Nat) (env : Evn) : Evn := env.map fun o => o.bind fun d => if keepN n d = true then some d else none
def Wl.upto (as : Wl) (n : Nat) : Wl := ⟨as.as.take n, as.as.drop n ++ as.hs⟩
def subR {α : Type} (n : Nat) (ok : α → Bool) (st : Sta) : Option (R α) → Option (R α)
  | some (.ok d st') => if ok d = true ∧ pls_st 0 st' = true ∧ st'.length = (st.take n).length then some (.ok d (st' ++ st.drop n)) else none
  | some (.err c fs st') => if plf 0 fs = true ∧ pls_st 0 st' = true ∧ st'.length = (st.take n).length then some (.err c fs (st' ++ st.drop n)) else none
  | none => none
def fSub (n : Nat) (f : F D) : F D := fun env st => if pls_st 0 (st.take n) = true then subR n (pl 0) st (f (envUpto n env) (st.take n)) else none
def fSubT (n : Nat) (f : F Bool) : F Bool := fun env st => if pls_st 0 (st.take n) = true then subR n (fun _ => true) st (f (envUpto n env) (st.take n)) else none
section
variable {K : PySem.W.Frag} {ca : Ca} {as : Wl} {H H' : Hp} {n : Nat} {st : Sta} {σ : L2.St} {env : Evn}
theorem stab_upto : stab (as.upto n) H = stab as H := by
  funext a
  unfold stab
  have e : (a ∈ (as.upto n).as ∨ a ∈ (as.upto n).hs) ↔ (a ∈ as.as ∨ a ∈ as.hs) := by
    show (a ∈ as.as.take n ∨ a ∈ as.as.drop n ++ as.hs) ↔ _
    rw [List.mem_append, ← or_assoc, ← List.mem_append, List.take_append_drop]
  by_cases h : a ∈ as.as ∨ a ∈ as.hs
  · rw [if_pos h, if_pos (e.mpr h)]
  · rw [if_neg h, if_neg (fun z => h (e.mp z))]
theorem CellOk.any {as2 : Wl} {G G2 : Hp} (e : Sub K G G2) {a : Addr} {o : Option HO} {c : Cell} (h : CellOk K ca as G a o c) (p : pls_st 0 [c] = true) : CellOk K ca as2 G2 a o c := by
  cases o with
  | none => exact h.elim
  | some o =>
    cases c <;> cases o <;> first | exact h.elim | skip
    · exact IsDs.any e h (by simpa [pls_st] using p)
    · exact ⟨h.1, h.2.any e (by simpa [pls_st] using p)⟩
    · exact IsKs.any e h (by simpa [pls_st] using p)
    · rename_i ks kvs
      have p' : plt 0 ks = true := by simpa [pls_st] using p
      have h' : IsKt K ca as G kvs ks := h
      show IsKt K ca as2 G2 kvs ks
      clear h p
      induction kvs generalizing ks with
      | nil =>
        cases ks with
        | nil => trivial
        | cons _ _ => exact h'.elim
      | cons x r ih =>
        cases ks with
        | nil => exact h'.elim
        | cons y s =>
          obtain ⟨k, v⟩ := x
          obtain ⟨i, d⟩ := y
          unfold plt at p'
          rw [Bool.and_eq_true] at p'
          exact ⟨h'.1, h'.2.1.any e p'.1, ih _ p'.2 h'.2.2⟩
    · rename_i ks vs φ
      obtain ⟨xs, h1, h0, h2, h3⟩ := h
      have p' : pls 0 ks = true ∧ pls 0 vs = true := by simpa [pls_st] using p
      exact ⟨xs, h1, h0, h2.any e p'.1, h3.any e p'.2⟩
theorem pls_at : ∀ {l : Sta}, pls_st 0 l = true → ∀ {k : Nat} {c : Cell}, l[k]? = some c → pls_st 0 [c] = true
  | [], _, _, _, e => by simp at e
  | a :: r, h, 0, c, e => by
    simp at e
    subst e
    cases a <;> simp [pls_st] at h ⊢ <;> first | exact h.1 | exact ⟨h.1.1, h.1.2⟩
  | a :: r, h, k + 1, c, e => pls_at (l := r) (by cases a <;> simp [pls_st] at h <;> first | exact h.2) (by simpa using e)
theorem keepN_or {d : D} (h : keepN n d = true) : (∃ k, d = .cell k ∧ k < n) ∨ pl 0 d = true := by
  cases d <;> first | exact .inr h | exact .inl ⟨_, rfl, by simpa [keepN] using h⟩
theorem upto_env (he : EnvOk K ca as (stab as H) σ env) : EnvOk K ca (as.upto n) (stab (as.upto n) H) σ (envUpto n env) := by
  rw [stab_upto]
  refine ⟨by unfold envUpto; rw [List.length_map]; exact he.len, fun j d e => ?_⟩
  unfold envUpto at e
  rw [List.getElem?_map] at e
  cases q : env[j]? with
  | none => rw [q] at e; cases e
  | some o =>
    rw [q] at e
    cases o with
    | none => cases e
    | some d' =>
      simp only [Option.map_some, Option.bind_some, Option.some.injEq] at e
      split at e
      · rename_i hk
        cases e
        obtain ⟨v, e1, i1⟩ := he.at_ j _ q
        refine ⟨v, e1, ?_⟩
        rcases keepN_or hk with ⟨k, rfl, hk'⟩ | hp
        · cases i1 with
          | cell ha => exact .cell (by show (as.as.take n)[k]? = _; rw [List.getElem?_take, if_pos hk']; exact ha)
        · exact i1.any (Sub.of_ext (Ext.refl _)) hp
      · cases e
theorem upto_st (k : StOk K ca as H st) (p : pls_st 0 (st.take n) = true) : StOk K ca (as.upto n) H (st.take n) := by
  have hd := k.nd
  rw [← List.take_append_drop n as.as] at hd
  have hdj := List.nodup_append.mp hd
  refine ⟨hdj.1, by show (as.as.take n).length = _; rw [List.length_take, List.length_take, k.len], fun a h => ?_, fun i a c e1 e2 => ?_⟩
  · rcases List.mem_append.mp h with h | h
    · exact ⟨fun z => hdj.2.2 _ z _ h rfl, k.alloc (List.mem_of_mem_drop h)⟩
    · exact ⟨fun z => (k.hid a h).1 (List.mem_of_mem_take z), (k.hid a h).2⟩
  · have hin : i < n := by
      have := (List.getElem?_eq_some_iff.mp e2).1
      rw [List.length_take] at this
      omega
    have e1' : (as.as.take n)[i]? = some a := e1
    rw [List.getElem?_take, if_pos hin] at e1'
    have e2' := e2
    rw [List.getElem?_take, if_pos hin] at e2'
    rw [stab_upto]
    exact (k.at_ i a c e1' e2').any (Sub.of_ext (Ext.refl _)) (pls_at p e2)
theorem upto_back {as' : Wl} {st' : Sta} (k : StOk K ca as H st) (s : Step (as.upto n) H as' H') (k' : StOk K ca as' H' st') (hl : st'.length = (st.take n).length) (hp : pls_st 0 st' = true) :
    as' = as.upto n ∧ Step as H as H' ∧ StOk K ca as H' (st' ++ st.drop n) := by
  have e1 : as' = as.upto n := by
    obtain ⟨l1, l2⟩ := as'
    have h2 : l2 = (as.upto n).hs := s.hid
    have h1 : (as.upto n).as = l1 := by
      refine s.pre.eq_of_length ?_
      have a : l1.length = st'.length := k'.len
      show (as.as.take n).length = l1.length
      rw [a, hl, List.length_take, List.length_take, k.len]
    rw [h2, ← h1]
  subst e1
  have sH : Step as H as H' := ⟨List.prefix_refl _, rfl, fun _ h n => (n h).elim, fun b o hb e => s.keep b o (fun z => hb (List.mem_of_mem_take z)) e⟩
  refine ⟨rfl, sH, k.nd, ?_, k.hidS sH, fun i a c e1 e2 => ?_⟩
  · rw [List.length_append, hl, ← List.length_append, List.take_append_drop]
    exact k.len
  · by_cases hi : i < st'.length
    · rw [List.getElem?_append_left hi] at e2
      have hin : i < n := by rw [hl, List.length_take] at hi; omega
      have q := k'.at_ i a c (by show (as.as.take n)[i]? = _; rw [List.getElem?_take, if_pos hin]; exact e1) e2
      rw [stab_upto] at q
      exact q.any (Sub.of_ext (Ext.refl _)) (pls_at hp e2)
    · have e2' : st[i]? = some c := by
        rw [List.getElem?_append_right (by omega), List.getElem?_drop] at e2
        by_cases hn : n ≤ st.length
        · have : st'.length = n := by rw [hl, List.length_take]; omega
          rw [this] at e2 hi
          rw [← e2]
          congr 1
          omega
        · have := (List.getElem?_eq_some_iff.mp e2).1
          omega
      have hni : ¬ i < n := by
        intro z
        rw [hl, List.length_take] at hi
        have := (List.getElem?_eq_some_iff.mp e2').1
        omega
      have q := k.at_ i a c e1 e2'
      obtain ⟨o, eo⟩ := k.alloc (List.mem_of_getElem? e1)
      have hnt : a ∉ (as.upto n).as := fun z => by
        have hd := k.nd
        rw [← List.take_append_drop n as.as] at hd
        have e3 : (as.as.drop n)[i - n]? = some a := by
          rw [List.getElem?_drop]
          rw [← e1]
          congr 1
          omega
        exact (List.nodup_append.mp hd).2.2 _ z _ (List.mem_of_getElem? e3) rfl
      rw [s.keep a o hnt eo, ← eo]
      exact q.ext (List.prefix_refl _) sH.ext
theorem post_sub {α β : Type} {W : WX} {Is : Wl → Hp → β → α → Prop} {ok : α → Bool} {m : Option (R α)} {Q : β → Hp → Prop} (hIs : ∀ d v G, ok d = true → Is (as.upto n) G v d → Is as G v d) (k : StOk K ca as H st) (h : Post K ca W Is as H σ (subR n ok st m) Q) : Post K ca W Is (as.upto n) H σ m Q := by
  cases m with
  | none => exact h
  | some r =>
    cases r with
    | ok d st' =>
      intro v as' H' s k' i
      unfold subR at h
      dsimp only at h
      split at h
      · rename_i c
        obtain ⟨e1, s1, k1⟩ := upto_back k s k' c.2.2 c.2.1
        subst e1
        rw [stab_upto] at i
        exact h v as H' s1 k1 (hIs _ _ _ c.1 i)
      · exact h.elim
    | err c fs st' =>
      intro cls dd as' H' s k' er
      unfold subR at h
      dsimp only at h
      split at h
      · rename_i q
        obtain ⟨e1, s1, k1⟩ := upto_back k s k' q.2.2 q.2.1
        subst e1
        refine h cls dd as H' s1 k1 ⟨er.1, ?_⟩
        rcases er.2 with z | ⟨p, vs, z1, z2, z3⟩
        · exact .inl z
        · refine .inr ⟨p, vs, z1, ?_, ?_⟩
          · rw [stab_upto] at z2
            exact z2
          · rw [stab_upto] at z3
            exact z3.any (Sub.of_ext (Ext.refl _)) q.1
      · exact h.elim
end
def fFrzT (i : Nat) (fe : F Bool) : F Bool := fun env st => match env[i]? with
  | some (some (.cell k)) => (match st[k]? with
    | some (.lst ds) => if pls 0 ds = true then (match fe ((envShut env).set i (some (.lst ds))) [] with
        | some (.ok d []) => some (.ok d st)
        | some (.err c fs []) => if fs.all (fun p => flatD p.2) = true then some (.err c fs st) else none
        | _ => none) else none
    | _ => none)
  | _ => none
section
variable {ca : Ca} {X : Cx} {W : WX} {e : Expr} {fe : F D} {ft : F Bool}
theorem je_sub (n : Nat) (h : JE ca X W e fe) : JE ca X W e (fSub n fe) := by
  obtain ⟨te, pe, qe⟩ := h
  refine ⟨te, pe, fun as H σ env st Q henv hst hp => ?_⟩
  unfold fSub at hp
  split at hp
  · rename_i hpl
    exact qe (as.upto n) H σ _ (st.take n) _ (upto_env henv) (upto_st hst hpl) (post_sub (fun d v G p i => i.any (Sub.of_ext (Ext.refl _)) p) hst hp)
  · exact hp.elim
theorem jt_sub (n : Nat) (h : JT ca X W e ft) : JT ca X W e (fSubT n ft) := by
  obtain ⟨te, pe, qe⟩ := h
  refine ⟨te, pe, fun as H σ env st Q henv hst hp => ?_⟩
  unfold fSubT at hp
  split at hp
  · rename_i hpl
    exact qe (as.upto n) H σ _ (st.take n) _ (upto_env henv) (upto_st hst hpl) (post_sub (fun d v G p i => i) hst hp)
  · exact hp.elim
theorem jt_frz (i : Nat) (h : JT ca X W e ft) : JT ca X W e (fFrzT i ft) := by
  obtain ⟨te, pe, qe⟩ := h
  refine ⟨te, pe, fun as H σ env st Q henv hst hp => ?_⟩
  unfold fFrzT at hp
  split at hp
  · rename_i k ei
    split at hp
    · rename_i ds ek
      split at hp
      · rename_i hpl
        obtain ⟨v, ev, iv⟩ := henv.at_ i _ ei
        cases iv with
        | @cell a _ ha =>
          have ham : a ∈ as.as := List.mem_of_getElem? ha
          have hah : a ∉ as.hs := fun z => (hst.hid a z).1 ham
          have c := hst.at_ k a _ ha ek
          cases hq : H a with
          | none => rw [hq] at c; exact c.elim
          | some u =>
            rw [hq] at c
            cases u <;> first | exact False.elim c | skip
            rename_i xs
            have c' : IsDs X.K ca as (stab as H) xs ds := c
            have ex1 : Ext (stab as H) (stab (shut as a) H) := fun b u h => by
              obtain ⟨h1, h2, h3⟩ := stab_some h
              rw [stab_out (as := shut as a) (List.not_mem_nil) (shut_nm (.inl h1) h2)]
              exact h3
            have vis : stab (shut as a) H a = some (.lst xs) := by
              rw [stab_out (as := shut as a) (List.not_mem_nil) (shut_nm (.inr rfl) hah)]
              exact hq
            have kst : StOk X.K ca (shut as a) H [] := by
              refine ⟨List.nodup_nil, rfl, fun b hb => ⟨List.not_mem_nil, ?_⟩, fun k b c e1 e2 => by simp at e2⟩
              rcases List.mem_append.mp hb with hb | hb
              · exact hst.alloc (List.mem_filter.mp hb).1
              · exact (hst.hid b hb).2
            have en0 : EnvOk X.K ca (shut as a) (stab (shut as a) H) σ (envShut env) := by
              refine ⟨by unfold envShut; rw [List.length_map]; exact henv.len, fun j d e => ?_⟩
              unfold envShut at e
              rw [List.getElem?_map] at e
              cases q : env[j]? with
              | none => rw [q] at e; cases e
              | some o =>
                rw [q] at e
                cases o with
                | none => cases e
                | some d' =>
                  simp only [Option.map_some, Option.bind_some, Option.some.injEq] at e
                  split at e
                  · rename_i hpl
                    cases e
                    obtain ⟨v, e1, i1⟩ := henv.at_ j _ q
                    exact ⟨v, e1, i1.any (Sub.of_ext ex1) hpl⟩
                  · cases e
            have en1 : EnvOk X.K ca (shut as a) (stab (shut as a) H) σ ((envShut env).set i (some (.lst ds))) := by
              refine ⟨by rw [List.length_set]; exact en0.len, fun j d e => ?_⟩
              by_cases hj : i = j
              · subst hj
                have hl : i < (envShut env).length := by
                  have := (List.getElem?_eq_some_iff.mp ei).1
                  unfold envShut
                  rw [List.length_map]
                  exact this
                rw [List.getElem?_set_self hl] at e
                cases e
                exact ⟨_, ev, .lst vis (c'.any (Sub.of_ext ex1) hpl)⟩
              · rw [List.getElem?_set_ne hj] at e
                exact en0.at_ j d e
            have stepF : ∀ {H' : Hp}, (∀ b o, b ∉ ([] : List Addr) → H b = some o → H' b = some o) → Step as H as H' := fun k => ⟨List.prefix_refl _, rfl, fun _ h n => (n h).elim, fun b o _ e => k b o List.not_mem_nil e⟩
            have kF : ∀ {H' : Hp}, (∀ b o, b ∉ ([] : List Addr) → H b = some o → H' b = some o) → Step as H as H' → StOk X.K ca as H' st := fun {H'} kk sH => by
              refine ⟨hst.nd, hst.len, hst.hidS sH, fun j b c e1 e2 => ?_⟩
              obtain ⟨o, e⟩ := hst.alloc (List.mem_of_getElem? e1)
              rw [kk b o List.not_mem_nil e, ← e]
              exact (hst.at_ j b c e1 e2).ext (List.prefix_refl _) sH.ext
            split at hp
            · rename_i d er
              refine qe (shut as a) H σ _ [] _ en1 kst ?_
              rw [er]
              intro v' as' H' s' k' i'
              have sH := stepF s'.keep
              exact hp v' as H' sH (kF s'.keep sH) i'
            · rename_i c fs er
              split at hp
              · rename_i hf
                refine qe (shut as a) H σ _ [] _ en1 kst ?_
                rw [er]
                intro cls dd as' H' s' k' e'
                have sH := stepF s'.keep
                refine hp cls dd as H' sH (kF s'.keep sH) ⟨e'.1, ?_⟩
                rcases e'.2 with z | ⟨p, vs, z1, z2, z3⟩
                · exact .inl z
                · refine .inr ⟨p, vs, z1, ?_, flat_fs (List.all_eq_true.mp hf) z3⟩
                  obtain ⟨y1, y2, y3⟩ := stab_some z2
                  rw [s'.hid] at y2
                  have hpa : p ≠ a := fun z => by
                    rw [z, s'.keep a _ List.not_mem_nil hq] at y3
                    cases y3
                  rw [stab_out (fun z => y2 (List.mem_append_left _ (List.mem_filter.mpr ⟨z, by simpa using hpa⟩))) (fun z => y2 (List.mem_append_right _ z))]
                  exact y3
              · exact hp.elim
            · exact hp.elim
      · exact hp.elim
    · exact hp.elim
  · exact hp.elim
end
end DS

namespace DS
open PySem L2 PySem.Spec PyProof.Rows
/-! ### dicts whose keys are tuples -/
section
variable {X : Cx} {pins : List (Addr × Obj)} {σ : L2.St} {H : Hp} {s : Shared} {ca : Ca} {as : Wl}
mutual
theorem nk_is (I : Inv X pins σ H s) {d : D} {v : V} {k : NestedKey} {u : Value} (h : IsD X.K ca as (stab as H) v d) (e : nk d = some k) (r : RelV v u) : NestedIs s.heap k u := by
  cases h with
  | non => unfold nk at e; cases e; cases r; exact .none
  | bl b => unfold nk at e; cases e; cases r; exact .bool rfl
  | int i => unfold nk at e; cases e; obtain ⟨t, rfl⟩ := r; exact .int _ _
  | str x => unfold nk at e; cases e; obtain ⟨t, rfl⟩ := r; exact .text _ _
  | tup h1 h2 =>
    unfold nk at e
    obtain ⟨ks, e1, rfl⟩ := Option.map_eq_some_iff.mp e
    cases r
    obtain ⟨its, rv, ⟨o, g1, g2, n, g3⟩, _⟩ := I.tuple (ext_t (stab_sub _ _) h1)
    exact .tup g1 g2 g3 (by simpa using nks_is I h2 e1 rv)
  | _ => unfold nk at e; cases e
theorem nks_is (I : Inv X pins σ H s) {ds : List D} {vs : List V} {ks : List NestedKey} {us : List Value} (h : IsDs X.K ca as (stab as H) vs ds) (e : nks ds = some ks) (r : Vals vs us) : NestedAll s.heap ks us := by
  cases h with
  | nil => unfold nks at e; cases e; cases r; exact .nil
  | cons h1 h2 =>
    unfold nks at e
    obtain ⟨k, e1, e2⟩ := Option.bind_eq_some_iff.mp e
    obtain ⟨ks', e3, rfl⟩ := Option.map_eq_some_iff.mp e2
    cases r with
    | cons r1 r2 => exact .cons (nk_is I h1 e1 r1) (nks_is I h2 e3 r2)
end
theorem dkKey_of {d : D} {z : NestedKey} (h : dkKey d = some z) : nk d = some z ∧ z.depth ≤ 8 ∧ ∃ ds, d = .tup ds := by
  unfold dkKey at h
  split at h
  · rename_i zs e
    split at h
    · rename_i hd
      cases h
      refine ⟨e, hd, ?_⟩
      cases d <;> first | exact ⟨_, rfl⟩ | (unfold nk at e; cases e)
    · cases h
  · cases h
theorem key_is (I : Inv X pins σ H s) {d : D} {v : V} {z : NestedKey} {u : Value} (h : IsD X.K ca as (stab as H) v d) (e : dkKey d = some z) (r : RelV v u) : ∃ a, v = .ref a ∧ u = .ref a ∧ (nestedKind X.prog X.w).is s.heap z a := by
  obtain ⟨e1, e2, ds, rfl⟩ := dkKey_of e
  cases h with
  | tup h1 h2 =>
    have r0 := r
    cases r
    exact ⟨_, rfl, rfl, nk_is I (.tup h1 h2) e1 r0, e2⟩
end

def findX (z : NestedKey) : List (NestedKey × Addr × V) → Option V
  | [] => none
  | x :: r => if x.1 = z then some x.2.2 else findX z r
def putX (z : NestedKey) (a : Addr) (v : V) : List (NestedKey × Addr × V) → List (NestedKey × Addr × V)
  | [] => [(z, a, v)]
  | x :: r => if x.1 = z then (x.1, x.2.1, v) :: r else x :: putX z a v r
/-- at p: such a dict, whose keys are what they are -/
def DkAt (K : PySem.W.Frag) (ca : Ca) (H : Hp) (p : Addr) (xs : List (NestedKey × Addr × V)) : Prop := H p = some (DkO ca.w p xs) ∧ ∃ as ks, dkKeys ks = some (xs.map (·.1)) ∧ IsDs K ca as (stab as H) (xs.map fun x => .ref x.2.1) ks
def KeyAt (K : PySem.W.Frag) (ca : Ca) (H : Hp) (y : V) (z : NestedKey) : Prop := ∃ as d, IsD K ca as (stab as H) y d ∧ dkKey d = some z
abbrev DkR (x : NestedKey × Addr × V) (y : NestedKey × Addr × Value) : Prop := y.1 = x.1 ∧ y.2.1 = x.2.1 ∧ RelV x.2.2 y.2.2
section
variable {P : Program} {w : World}
theorem pair_ys : ∀ {xs : List (NestedKey × Addr × V)} {l : List DictEntry}, Paired (DkE w) xs l → ∃ ys, l = ys.map (entryOfKey (nestedKind P w)) ∧ Paired DkR xs ys
  | _, _, .nil => ⟨[], rfl, .nil⟩
  | _, _, @Paired.cons _ _ _ x e _ _ r t => by
    obtain ⟨ys, e1, p⟩ := pair_ys t
    refine ⟨(x.1, x.2.1, e.val) :: ys, ?_, .cons ⟨rfl, rfl, r.2.2⟩ p⟩
    rw [List.map_cons, e1]
    congr 1
    obtain ⟨h, k, v⟩ := e
    obtain ⟨r1, r2, _⟩ := r
    dsimp only at r1 r2
    subst r1 r2
    rfl
theorem pair_back : ∀ {xs : List (NestedKey × Addr × V)} {ys : List (NestedKey × Addr × Value)}, Paired DkR xs ys → Paired (DkE w) xs (ys.map (entryOfKey (nestedKind P w)))
  | _, _, .nil => .nil
  | _, _, .cons r t => .cons ⟨congrArg (NestedKey.hash w) r.1, congrArg Value.ref r.2.1, r.2.2⟩ (pair_back t)
theorem pair_keys : ∀ {xs : List (NestedKey × Addr × V)} {ys : List (NestedKey × Addr × Value)}, Paired DkR xs ys → ys.map (·.1) = xs.map (·.1)
  | _, _, .nil => rfl
  | _, _, .cons r t => by rw [List.map_cons, List.map_cons, pair_keys t, r.1]
theorem atKey_cons {y : NestedKey × Addr × Value} {ys : List (NestedKey × Addr × Value)} {z : NestedKey} : atKey (y :: ys) z = if y.1 = z then some y.2 else atKey ys z := by
  unfold atKey
  rw [List.find?_cons]
  by_cases h : y.1 = z
  · rw [if_pos h, decide_eq_true h]; rfl
  · rw [if_neg h, decide_eq_false h]
theorem find_at {z : NestedKey} : ∀ {xs : List (NestedKey × Addr × V)} {ys : List (NestedKey × Addr × Value)}, Paired DkR xs ys → match findX z xs with
    | some v => ∃ a u, atKey ys z = some (a, u) ∧ RelV v u
    | none => atKey ys z = none
  | _, _, .nil => rfl
  | _, _, @Paired.cons _ _ _ x y xs ys r t => by
    have ih := find_at (z := z) t
    unfold findX
    rw [atKey_cons]
    by_cases h : x.1 = z
    · rw [if_pos h, if_pos (r.1.trans h)]
      exact ⟨_, _, rfl, r.2.2⟩
    · rw [if_neg h, if_neg (fun q => h (r.1.symm.trans q))]
      exact ih
theorem put_pair {z : NestedKey} {a : Addr} {v : V} {u : Value} (rv : RelV v u) : ∀ {xs : List (NestedKey × Addr × V)} {ys : List (NestedKey × Addr × Value)}, Paired DkR xs ys → (ys.map (·.1)).Nodup → Paired DkR (putX z a v xs) (storedH ys z a u)
  | _, _, .nil, _ => .cons ⟨rfl, rfl, rv⟩ .nil
  | _, _, @Paired.cons _ _ _ x y xs ys r t, hn => by
    rw [List.map_cons, List.nodup_cons] at hn
    have ih := put_pair (z := z) (a := a) rv t hn.2
    unfold putX
    by_cases h : x.1 = z
    · have hy : y.1 = z := r.1.trans h
      rw [if_pos h]
      unfold storedH
      rw [atKey_cons, if_pos hy, if_pos (by rfl), List.map_cons, map_putAt_of_not_mem ys z u (by rw [← hy]; exact hn.1)]
      unfold putAt
      rw [if_pos hy]
      exact .cons ⟨r.1, r.2.1, rv⟩ t
    · have hy : ¬ y.1 = z := fun q => h (r.1.symm.trans q)
      rw [if_neg h]
      have e : storedH (y :: ys) z a u = y :: storedH ys z a u := by
        unfold storedH
        rw [atKey_cons, if_neg hy]
        by_cases q : (atKey ys z).isSome = true
        · rw [if_pos q, if_pos q, List.map_cons]
          congr 1
          unfold putAt
          rw [if_neg hy]
        · rw [if_neg q, if_neg q]
          rfl
      rw [e]
      exact .cons r ih
theorem putX_len (z : NestedKey) (a : Addr) (v : V) : ∀ xs : List (NestedKey × Addr × V), (putX z a v xs).length ≤ xs.length + 1
  | [] => Nat.le_refl _
  | x :: xs => by
    unfold putX
    split
    · simp
    · have := putX_len z a v xs
      simp only [List.length_cons]
      omega
end
section
variable {X : Cx} {pins : List (Addr × Obj)} {σ : L2.St} {H : Hp} {s : Shared} {ca : Ca} {as : Wl}
theorem keys_is (I : Inv X pins σ H s) : ∀ {xs : List (NestedKey × Addr × V)} {ys : List (NestedKey × Addr × Value)} {ks : List D}, Paired DkR xs ys → dkKeys ks = some (xs.map (·.1)) → IsDs X.K ca as (stab as H) (xs.map fun x => .ref x.2.1) ks → ∀ y ∈ ys, (nestedKind X.prog X.w).is s.heap y.1 y.2.1
  | _, _, _, .nil, _, _ => fun y hy => by cases hy
  | _, _, ks, @Paired.cons _ _ _ x y xs ys r t, e, h => by
    rw [List.map_cons] at h
    cases h with
    | cons h1 h2 =>
      unfold dkKeys at e
      obtain ⟨k, e1, e2⟩ := Option.bind_eq_some_iff.mp e
      obtain ⟨ks', e3, e4⟩ := Option.map_eq_some_iff.mp e2
      rw [List.map_cons] at e4
      cases e4
      intro q hq
      rcases List.mem_cons.mp hq with rfl | hq
      · obtain ⟨a, va, _, hk⟩ := key_is I h1 e1 (u := .ref x.2.1) rfl
        cases va
        rw [r.1, r.2.1]
        exact hk
      · exact keys_is I t e3 h2 q hq
theorem dk_of (I : Inv X pins σ H s) (hw : ca.w = X.w) {p : Addr} {xs : List (NestedKey × Addr × V)} (h : DkAt X.K ca H p xs) :
    xs.length ≤ sizeLine ∧ (p == sysModules) = false ∧ ∃ ys, s.heap.DictOfH (nestedKind X.prog X.w) p ys ∧ Paired DkR xs ys := by
  obtain ⟨hH, as, ks, hk, hd⟩ := h
  rw [hw] at hH
  obtain ⟨⟨hl, hm, hn, o, es, ep, g1, g2, g3, hp⟩, _, _⟩ := I.hok p _ hH
  obtain ⟨ys, e, q⟩ := pair_ys (P := X.prog) hp
  exact ⟨hl, hm, ys, ⟨o, es, ep, g1, g2, g3, e, keys_is I q hk hd, by rw [pair_keys q]; exact hn⟩, q⟩
theorem keyAt_is (I : Inv X pins σ H s) {y : V} {z : NestedKey} {u : Value} (h : KeyAt X.K ca H y z) (r : RelV y u) : ∃ a, y = .ref a ∧ u = .ref a ∧ (nestedKind X.prog X.w).is s.heap z a := by
  obtain ⟨as, d, h1, h2⟩ := h
  exact key_is I h1 h2 r
def rDkIn (K : PySem.W.Frag) (ca : Ca) (neg : Bool) : R2 := fun y x H Q => ∃ p xs z, x = .ref p ∧ DkAt K ca H p xs ∧ KeyAt K ca H y z ∧ Q (.bl ((findX z xs).isSome != neg)) H
def rDkGet (K : PySem.W.Frag) (ca : Ca) : R2 := fun x y H Q => ∃ p xs z v, x = .ref p ∧ DkAt K ca H p xs ∧ KeyAt K ca H y z ∧ findX z xs = some v ∧ Q v H
def rDkSet (K : PySem.W.Frag) (ca : Ca) : TSet := fun o i v H Q => ∃ p xs z a, o = .ref p ∧ DkAt K ca H p xs ∧ KeyAt K ca H i z ∧ i = .ref a ∧ xs.length < 100000 ∧ Q (upd H p (DkO ca.w p (putX z a v xs)))
theorem room_k (hu : X.A.units + 64 < cLine) : (nestedKind X.prog X.w).room X.A.in1 := by
  show X.A.units + 1 + 8 < cLine
  omega
theorem op_dkIn (hw : ca.w = X.w) (hu : X.A.units + 64 < cLine) : OpR X (compareOp .In) (rDkIn X.K ca false) := by
  intro pins s σ H y x u v Q I ry rx h
  obtain ⟨p, xs, z, rfl, hd, hk, q⟩ := h
  obtain ⟨a, rfl, rfl, hi⟩ := keyAt_is I hk ry
  obtain ⟨hl, hm, ys, hy, hp⟩ := dk_of I hw hd
  cases rx
  refine wpAny_in_heap (room_k hu) hi hm hy ⟨.bl _, H, I.tok _, rfl, ?_⟩
  have f := find_at (z := z) hp
  cases e : findX z xs with
  | none => rw [e] at f q; dsimp only at f; rw [f]; exact q
  | some w => rw [e] at f q; obtain ⟨b, r, f, _⟩ := f; rw [f]; exact q
theorem op_dkOut (hw : ca.w = X.w) (hu : X.A.units + 64 < cLine) : OpR X (compareOp .NotIn) (rDkIn X.K ca true) := by
  intro pins s σ H y x u v Q I ry rx h
  obtain ⟨p, xs, z, rfl, hd, hk, q⟩ := h
  obtain ⟨a, rfl, rfl, hi⟩ := keyAt_is I hk ry
  obtain ⟨hl, hm, ys, hy, hp⟩ := dk_of I hw hd
  cases rx
  refine wpAny_notIn_heap (room_k hu) hi hm hy ⟨.bl _, H, I.tok _, rfl, ?_⟩
  have f := find_at (z := z) hp
  cases e : findX z xs with
  | none => rw [e] at f q; dsimp only at f; rw [f]; exact q
  | some w => rw [e] at f q; obtain ⟨b, r, f, _⟩ := f; rw [f]; exact q
theorem set_dk (hw : ca.w = X.w) (hu : X.A.units + 64 < cLine) : PSet X (rDkSet X.K ca) := by
  intro pins s σ H o i v ov iv u Q I ro ri rv h
  obtain ⟨p, xs, z, b, rfl, hd, hk, eb, hz, q⟩ := h
  obtain ⟨a, e1, rfl, hi⟩ := keyAt_is I hk ri
  have e2 := eb.symm.trans e1
  cases e2
  obtain ⟨hl, hm, ys, hy, hp⟩ := dk_of I hw hd
  cases ro
  have hlen : ys.length = xs.length := (Paired.length hp).symm
  refine wpAny_setItem_heap (hsz := by rw [hlen]; exact hl) (room_k hu) hi hy fun h' hy' hs => ⟨_, ?_, q⟩
  obtain ⟨o2, es, ep, g1, g2, g3, g4, _, g5⟩ := hy'
  have hp' := put_pair (z := z) (a := b) rv hp hy.nodup
  have hn' : ((putX z b v xs).map (·.1)).Nodup := by rw [← pair_keys hp']; exact g5
  refine I.write (x := p) (e := p) (by rw [hd.1]; exact True.intro) (.inl rfl) (fun c ob hc e => (hs.2 c hc).trans e) ⟨o2, g1⟩ ?_
  refine ⟨⟨?_, hm, hn', o2, es, ep, g1, g2, g3, ?_⟩, ⟨o2, g1⟩, ?_⟩
  · have := putX_len z b v xs
    exact Nat.le_trans this (sz_of (by omega))
  · rw [g4, hw]
    exact pair_back hp'
  · rintro h1 h2 ⟨x1, x2, x3, o3, es3, ep3, y1, y2, y3, y4⟩ k
    exact ⟨x1, x2, x3, o3, es3, ep3, k _ y1, y2, y3, y4⟩
end
/-! ### over data -/
def getDk : List D → List D → NestedKey → Option D
  | k :: ks, v :: vs, z => if dkKey k = some z then some v else getDk ks vs z
  | _, _, _ => none
def putDk (z : NestedKey) (k d : D) : List D → List D → List D × List D
  | k0 :: ks, v0 :: vs => if dkKey k0 = some z then (k0 :: ks, d :: vs) else (k0 :: (putDk z k d ks vs).1, v0 :: (putDk z k d ks vs).2)
  | _, _ => ([k], [d])
def dckOf (x : D) (st : Sta) : Option (List D × List D) := match x with
  | .dik ks vs => some (ks, vs)
  | .cell k => match st[k]? with | some (.dck ks vs) => some (ks, vs) | _ => none
  | _ => none
section
variable {K : PySem.W.Frag} {ca : Ca} {as : Wl} {G H : Hp} {st : Sta} {W : WX}
theorem getDk_is {z : NestedKey} : ∀ {xs : List (NestedKey × Addr × V)} {ks vs : List D}, dkKeys ks = some (xs.map (·.1)) → IsDs K ca as G (xs.map (·.2.2)) vs → match getDk ks vs z with
    | some d => ∃ v, findX z xs = some v ∧ IsD K ca as G v d
    | none => findX z xs = none
  | [], [], _, _, h => by cases h; rfl
  | [], k :: ks, _, e, _ => by
    unfold dkKeys at e
    obtain ⟨_, _, e2⟩ := Option.bind_eq_some_iff.mp e
    obtain ⟨_, _, e4⟩ := Option.map_eq_some_iff.mp e2
    cases e4
  | x :: xs, [], _, e, _ => by cases e
  | x :: xs, k :: ks, vs, e, h => by
    unfold dkKeys at e
    obtain ⟨k', e1, e2⟩ := Option.bind_eq_some_iff.mp e
    obtain ⟨ks', e3, e4⟩ := Option.map_eq_some_iff.mp e2
    rw [List.map_cons] at e4 h
    cases e4
    cases h with
    | cons h1 h2 =>
      unfold getDk findX
      by_cases q : x.1 = z
      · rw [if_pos q, if_pos (by rw [e1, q])]
        exact ⟨_, rfl, h1⟩
      · rw [if_neg q, if_neg (by rw [e1]; exact fun r => q (Option.some.inj r))]
        exact getDk_is e3 h2
theorem putDk_is {z : NestedKey} {a : Addr} {v : V} {kd d : D} (hk : IsD K ca as G (.ref a) kd) (ez : dkKey kd = some z) (hv : IsD K ca as G v d) : ∀ {xs : List (NestedKey × Addr × V)} {ks vs : List D}, dkKeys ks = some (xs.map (·.1)) → IsDs K ca as G (xs.map fun x => .ref x.2.1) ks → IsDs K ca as G (xs.map (·.2.2)) vs →
    dkKeys (putDk z kd d ks vs).1 = some ((putX z a v xs).map (·.1)) ∧ IsDs K ca as G ((putX z a v xs).map fun x => .ref x.2.1) (putDk z kd d ks vs).1 ∧ IsDs K ca as G ((putX z a v xs).map (·.2.2)) (putDk z kd d ks vs).2
  | [], ks, vs, _, h, h' => by
    cases h
    cases h'
    unfold putDk putX
    refine ⟨?_, .cons hk .nil, .cons hv .nil⟩
    unfold dkKeys dkKeys
    rw [ez]
    rfl
  | x :: xs, ks, vs, e, h, h' => by
    rw [List.map_cons] at h h'
    cases h with
    | @cons _ _ k ks h1 h2 =>
      cases h' with
      | @cons _ _ v0 vs g1 g2 =>
        unfold dkKeys at e
        obtain ⟨k', e1, e2⟩ := Option.bind_eq_some_iff.mp e
        obtain ⟨ks', e3, e4⟩ := Option.map_eq_some_iff.mp e2
        rw [List.map_cons] at e4
        cases e4
        unfold putDk putX
        by_cases q : x.1 = z
        · rw [if_pos q, if_pos (by rw [e1, q])]
          refine ⟨?_, .cons h1 h2, .cons hv g2⟩
          unfold dkKeys
          rw [e1, e3]
          rfl
        · rw [if_neg q, if_neg (by rw [e1]; exact fun r => q (Option.some.inj r))]
          obtain ⟨r1, r2, r3⟩ := putDk_is hk ez hv e3 h2 g2
          refine ⟨?_, .cons h1 r2, .cons g1 r3⟩
          unfold dkKeys
          rw [e1, r1]
          rfl
theorem dck_is {v : V} {x : D} {ks vs : List D} (k : StOk K ca as H st) (h : IsD K ca as (stab as H) v x) (e : dckOf x st = some (ks, vs)) :
    ∃ p xs, v = .ref p ∧ H p = some (DkO ca.w p xs) ∧ dkKeys ks = some (xs.map (·.1)) ∧ IsDs K ca as (stab as H) (xs.map fun x => .ref x.2.1) ks ∧ IsDs K ca as (stab as H) (xs.map (·.2.2)) vs := by
  cases h <;> first | (unfold dckOf at e; cases e; done) | skip
  · rename_i p j h1
    unfold dckOf at e
    dsimp only at e
    split at e
    · rename_i ks' vs' e2
      cases e
      have q := k.at_ j p _ h1 e2
      cases hq : H p with
      | none => rw [hq] at q; exact q.elim
      | some o =>
        rw [hq] at q
        cases o <;> first | exact False.elim q | skip
        obtain ⟨xs, c1, c0, c2, c3⟩ := q
        exact ⟨p, xs, rfl, by rw [hq, c1], c0, c2, c3⟩
    · cases e
  · rename_i h1 h0 h2 h3 h4 h5
    unfold dckOf at e
    cases e
    subst h2 h3
    exact ⟨_, _, rfl, (stab_some h1).2.2, h0, h4, h5⟩
def oKIn (neg : Bool) (y x : D) (st : Sta) : Option (R D) := match dkKey y, dckOf x st with
  | some z, some (ks, vs) => ret (.bl ((getDk ks vs z).isSome != neg)) st
  | _, _ => none
def oKGet (x y : D) (st : Sta) : Option (R D) := match dckOf x st, dkKey y with
  | some (ks, vs), some z => (match getDk ks vs z with | some d => ret d st | none => none)
  | _, _ => none
theorem rv_kin {neg : Bool} : Rv2 K ca W (rDkIn K ca neg) (oKIn neg) := by
  intro as H σ st v u x y Q k i1 i2 hp
  unfold oKIn at hp
  split at hp
  · rename_i z ks vs e1 e2
    obtain ⟨p, xs, rfl, h1, h2, h3, h4⟩ := dck_is k i2 e2
    refine ⟨p, xs, z, rfl, ⟨h1, as, ks, h2, h3⟩, ⟨as, x, i1, e1⟩, ?_⟩
    have g := getDk_is (z := z) h2 h4
    cases e : getDk ks vs z with
    | none => rw [e] at g hp; dsimp only at g; rw [g]; exact hp.here k (.bl _)
    | some d => rw [e] at g hp; obtain ⟨v', g1, _⟩ := g; rw [g1]; exact hp.here k (.bl _)
  · exact hp.elim
end
def sPutK (fa fo fi : F D) : FS := fun env st => bndS (fa env st) env fun d st => bndS (fo env st) env fun o st => bndS (fi env st) env fun i st => match o, dkKey i with
  | .cell k, some z => (match st[k]? with
    | some (.dck ks vs) => if ks.length < 100000 then some (.nx env, st.set k (.dck (putDk z i d ks vs).1 (putDk z i d ks vs).2)) else none
    | _ => none)
  | _, _ => none
def fNewK : F D := fun _ st => some (.ok (.cell st.length) (st ++ [.dck [] []]))
section
variable {ca : Ca} {X : Cx} {W : WX} {a b o i e : Expr} {fa fb fo fi : F D} {pos : Pos}
theorem jt_kin (hw : ca.w = X.w) (hu : X.A.units + 64 < cLine) (ha : JE ca X W a fa) (hb : JE ca X W b fb) (hm : behindInMarks .In b = false := by first | exact nobehind _ (by decide) (by decide) | rfl) : JT ca X W (.Compare a [.In] [b] pos) (fTest (f2 (oKIn false) fa fb)) := jt_cmp (op_dkIn hw hu) rv_kin ha hb hm
theorem jt_kout (hw : ca.w = X.w) (hu : X.A.units + 64 < cLine) (ha : JE ca X W a fa) (hb : JE ca X W b fb) (hm : behindInMarks .NotIn b = false := by first | exact nobehind _ (by decide) (by decide) | rfl) : JT ca X W (.Compare a [.NotIn] [b] pos) (fTest (f2 (oKIn true) fa fb)) := jt_cmp (op_dkOut hw hu) rv_kin ha hb hm
theorem pe_newDk : PE X (.Dict [] [] pos) (fun _ H Q => ∀ p, H p = none → Q (.ref p) (upd H p (DkO X.w p []))) := ⟨fun pins s σ H Q I h => by
  refine wpAny_Dict_empty ⟨.ref s.heap.objs.size, _, I.laid (a := s.heap.objs.size) (o := DkO X.w s.heap.objs.size []) (t' := s.toks) (fun _ _ q => Heap.get?_push_of_some _ q) (Nat.le_refl _) ?_, rfl, h _ (I.hok.fresh (Nat.le_refl _))⟩
  refine ⟨⟨Nat.zero_le _, beq_eq_false_iff_ne.mpr fun z => absurd I.big (by rw [← z]; exact Nat.lt_irrefl _), List.nodup_nil, _, #[], 0, Heap.get?_push_size _ rfl, ⟨rfl, rfl, rfl⟩, rfl, .nil⟩, ⟨_, Heap.get?_push_size _ rfl⟩, ?_⟩
  rintro h1 h2 ⟨x1, x2, x3, o3, es3, ep3, y1, y2, y3, y4⟩ k
  exact ⟨x1, x2, x3, o3, es3, ep3, k _ y1, y2, y3, y4⟩⟩
theorem je_newK (hw : ca.w = X.w) : JE ca X W (.Dict [] [] pos) fNewK := ⟨_, pe_newDk, fun as H σ env st Q he hs hp q hq => by
  rw [← hw]
  exact hp _ _ _ (Step.made hq) (hs.made (c := .dck [] []) hq ⟨[], rfl, rfl, .nil, .nil⟩) (.cell (by rw [← hs.len]; exact made_get))⟩
theorem js_kput {p' : Pos} (hwa : ca.w = X.w) (hu : X.A.units + 64 < cLine) (he : JE ca X W e fa) (ho : JE ca X W o fo) (hi : JE ca X W i fi) (ha : ∀ v, assign (.Subscript o i p') X.env v = (do
      let ov ← holding [v] (eval o X.env)
      let iv ← holding [v, ov] (eval i X.env)
      standAt p'
      holding [v, ov, iv] (setItem ov iv v)
      release [v, ov, iv] []) := by intro _; rfl) (hs : swapsWithSole [.Subscript o i p'] e pos.line X.env = pure false := by rfl) (hw : swappedStores [.Subscript o i p'] e X.env = pure none := by rfl)
    (h1 : (assignEach [.Subscript o i p'] X.env).map (·.2) = [assign (.Subscript o i p') X.env] := by rfl) : JS ca X W (.Assign [.Subscript o i p'] e pos) (sPutK fa fo fi) := by
  obtain ⟨t, p, q⟩ := he
  obtain ⟨to, p2, q2⟩ := ho
  obtain ⟨ti, p3, q3⟩ := hi
  refine ⟨_, ps_asg p (pg_sub p2 p3 (set_dk hwa hu) ha) hs hw h1, fun as H σ env st E he hs hp => ?_⟩
  refine q as H σ env st _ he hs (PostS.bnd hp he fun d st1 v as1 H1 s1 k1 i1 p1 => ?_)
  refine q2 as1 H1 σ env st1 _ (he.step s1) k1 (PostS.bnd p1 (he.step s1) fun od st2 ov as2 H2 s2 k2 i2 p2 => ?_)
  refine q3 as2 H2 σ env st2 _ ((he.step s1).step s2) k2 (PostS.bnd p2 ((he.step s1).step s2) fun id st3 iv as3 H3 s3 k3 i3 p3 => ?_)
  have i2' := i2.step s3
  have i1' := (i1.step s2).step s3
  split at p3
  · rename_i k z ez
    split at p3
    · rename_i ks vs ek
      split at p3
      · rename_i hl
        obtain ⟨_, _, dd, rfl⟩ := dkKey_of ez
        have i30 := i3
        cases i3 with
        | tup g1 g2 =>
          rename_i b _
          obtain ⟨a, xs, ea, h1, h2, h3, h4⟩ := dck_is k3 i2' (show dckOf (.cell k) st3 = some (ks, vs) by unfold dckOf; dsimp only; rw [ek])
          cases i2' with
          | cell hj =>
            cases ea
            obtain ⟨r1, r2, r3⟩ := putDk_is i30 ez i1' h2 h3 h4
            have sc := Step.chg (as := as3) (H := H3) (o := DkO ca.w a (putX z b v xs)) hj
            have hlen : xs.length < 100000 := by
              have := h3.len
              rw [List.length_map] at this
              omega
            exact ⟨a, xs, z, b, rfl, ⟨h1, as3, ks, h2, h3⟩, ⟨as3, _, i30, ez⟩, rfl, hlen, p3 σ as3 _ sc (k3.chg hj ⟨_, rfl, r1, r2, r3⟩) ((((he.step s1).step s2).step s3).step sc)⟩
      · exact p3.elim
    · exact p3.elim
  · exact p3.elim
end
end DS

namespace DS
open PySem L2 PySem.Spec PyProof.Rows
/-! ### plain data -/
mutual
def pd : D → Bool
  | .non => true
  | .bl _ => true
  | .int _ => true
  | .str _ => true
  | .tup ds => pds ds
  | .lst ds => pds ds
  | .fls ds => pds ds
  | .ins _ fs => pdf fs
  | _ => false
def pds : List D → Bool
  | [] => true
  | d :: ds => pd d && pds ds
def pdf : List (Str × D) → Bool
  | [] => true
  | (_, d) :: ds => pd d && pdf ds
end
structure Sub0 (K : PySem.W.Frag) (G G2 : Hp) : Prop where
  t : ∀ p xs, SqT K G p xs → SqT K G2 p xs
  l : ∀ p xs, SqL K G p xs → SqL K G2 p xs
  ls : ∀ p xs, G p = some (.lst xs) → G2 p = some (.lst xs)
  i : ∀ p C dx vs, G p = some (.ins C dx vs) → G2 p = some (.ins C dx vs)
section
variable {K : PySem.W.Frag} {ca : Ca} {as as2 : Wl} {G G2 : Hp}
/-- all stands still but a dict -/
theorem Sub0.of_at {a : Addr} (h : ∀ u, G a = some u → (∃ kvs, u = .dK kvs) ∨ ∃ o kvs, u = .frz o (.dK kvs)) (e : ∀ b u, b ≠ a → G b = some u → G2 b = some u) : Sub0 K G G2 := by
  have key : ∀ (b : Addr) (u : HO), G b = some u → (∀ kvs, ¬ u = HO.dK kvs) → (∀ o kvs, ¬ u = HO.frz o (HO.dK kvs)) → G2 b = some u := fun b u q h1 h2 => by
    by_cases hb : b = a
    · rw [hb] at q
      rcases h u q with ⟨kvs, z⟩ | ⟨o, kvs, z⟩
      · exact absurd z (h1 kvs)
      · exact absurd z (h2 o kvs)
    · exact e b u hb q
  constructor
  · intro p xs q
    rcases q with (q | ⟨o, q⟩) | q
    · exact .inl (.inl (key p _ q (fun _ z => by cases z) (fun _ _ z => by cases z)))
    · exact .inl (.inr ⟨o, key p _ q (fun _ z => by cases z) (fun _ _ z => by cases z)⟩)
    · exact .inr q
  · intro p xs q
    rcases q with (q | ⟨o, q⟩) | q
    · exact .inl (.inl (key p _ q (fun _ z => by cases z) (fun _ _ z => by cases z)))
    · exact .inl (.inr ⟨o, key p _ q (fun _ z => by cases z) (fun _ _ z => by cases z)⟩)
    · exact .inr q
  · intro p xs q
    exact key p _ q (fun _ z => by cases z) (fun _ _ z => by cases z)
  · intro p C dx vs q
    exact key p _ q (fun _ z => by cases z) (fun _ _ z => by cases z)
mutual
theorem IsD.plain (e : Sub0 K G G2) {v : V} {d : D} (h : IsD K ca as G v d) (p : pd d = true) : IsD K ca as2 G2 v d := by
  cases h with
  | non => exact .non
  | bl b => exact .bl b
  | int i => exact .int i
  | str x => exact .str x
  | tup h1 h2 => unfold pd at p; exact .tup (e.t _ _ h1) (IsDs.plain e h2 p)
  | lst h1 h2 => unfold pd at p; exact .lst (e.ls _ _ h1) (IsDs.plain e h2 p)
  | fls h1 h2 => unfold pd at p; exact .fls (e.l _ _ h1) (IsDs.plain e h2 p)
  | ins h0 h1 h2 => unfold pd at p; exact .ins h0 (e.i _ _ _ _ h1) (IsFs.plain e h2 p)
  | cell h1 => unfold pd at p; cases p
  | opq0 h1 => unfold pd at p; cases p
  | opq1 h1 h2 h3 => unfold pd at p; cases p
  | dic h1 h2 h3 h4 h5 => unfold pd at p; cases p
  | lok h1 h2 h3 h4 h5 => unfold pd at p; cases p
  | dik h1 h0 h2 h3 h4 h5 => unfold pd at p; cases p
theorem IsDs.plain (e : Sub0 K G G2) {vs : List V} {ds : List D} (h : IsDs K ca as G vs ds) (p : pds ds = true) : IsDs K ca as2 G2 vs ds := by
  cases h with
  | nil => exact .nil
  | cons h1 h2 =>
    unfold pds at p
    rw [Bool.and_eq_true] at p
    exact .cons (IsD.plain e h1 p.1) (IsDs.plain e h2 p.2)
theorem IsFs.plain (e : Sub0 K G G2) {vs : List (Str × V)} {ds : List (Str × D)} (h : IsFs K ca as G vs ds) (p : pdf ds = true) : IsFs K ca as2 G2 vs ds := by
  cases h with
  | nil => exact .nil
  | cons h1 h2 =>
    unfold pdf at p
    rw [Bool.and_eq_true] at p
    exact .cons (IsD.plain e h1 p.1) (IsFs.plain e h2 p.2)
end
theorem IsKs.plain (e : Sub0 K G G2) : ∀ {r : List (Key × V)} {s : List (Int × D)}, IsKs K ca as G r s → s.all (fun x => pd x.2) = true → IsKs K ca as2 G2 r s
  | [], [], _, _ => trivial
  | [], _ :: _, h, _ => h.elim
  | _ :: _, [], h, _ => h.elim
  | (_, _) :: _, (_, _) :: _, h, p => by
    rw [List.all_cons, Bool.and_eq_true] at p
    exact ⟨h.1, h.2.1.plain e p.1, IsKs.plain e h.2.2 p.2⟩
/-- a dict's entries as lists, and back -/
theorem isKs_lists : ∀ {r : List (Key × V)} {s : List (Int × D)}, IsKs K ca as G r s → IsDs K ca as G (r.map fun x => kV x.1) (s.map fun x => .int x.1) ∧ IsDs K ca as G (r.map (·.2)) (s.map (·.2))
  | [], [], _ => ⟨.nil, .nil⟩
  | [], _ :: _, h => h.elim
  | _ :: _, [], h => h.elim
  | (k, v) :: r, (i, d) :: s, h => by
    obtain ⟨h1, h2, h3⟩ := h
    subst h1
    obtain ⟨g1, g2⟩ := isKs_lists h3
    exact ⟨.cons (.int i) g1, .cons h2 g2⟩
def zipI : List D → List D → Option (List (Int × D))
  | [], [] => some []
  | .int i :: ks, v :: vs => (zipI ks vs).map fun r => (i, v) :: r
  | _, _ => none
theorem zipI_is : ∀ {ks vs : List D} {s : List (Int × D)} {r : List (Key × V)}, zipI ks vs = some s → IsDs K ca as G (r.map fun x => kV x.1) ks → IsDs K ca as G (r.map (·.2)) vs → IsKs K ca as G r s
  | [], [], s, [], e, _, _ => by unfold zipI at e; cases e; trivial
  | [], [], s, _ :: _, e, h, _ => by cases h
  | .int i :: ks, v :: vs, s, [], e, h, _ => by cases h
  | .int i :: ks, v :: vs, s, (k, u) :: r, e, h, g => by
    unfold zipI at e
    obtain ⟨s', e1, rfl⟩ := Option.map_eq_some_iff.mp e
    rw [List.map_cons] at h g
    cases h with
    | cons h1 h2 =>
      cases g with
      | cons g1 g2 =>
        refine ⟨?_, g1, zipI_is e1 h2 g2⟩
        cases k with
        | inl j => cases h1; rfl
        | inr x => cases h1
  | .int _ :: _, [], _, _, e, _, _ => by unfold zipI at e; cases e
  | [], _ :: _, _, _, e, _, _ => by unfold zipI at e; cases e
  | .non :: _, _, _, _, e, _, _ => by unfold zipI at e; cases e
  | .bl _ :: _, _, _, _, e, _, _ => by unfold zipI at e; cases e
  | .str _ :: _, _, _, _, e, _, _ => by unfold zipI at e; cases e
  | .tup _ :: _, _, _, _, e, _, _ => by unfold zipI at e; cases e
  | .lst _ :: _, _, _, _, e, _, _ => by unfold zipI at e; cases e
  | .fls _ :: _, _, _, _, e, _, _ => by unfold zipI at e; cases e
  | .ins _ _ :: _, _, _, _, e, _, _ => by unfold zipI at e; cases e
  | .cell _ :: _, _, _, _, e, _, _ => by unfold zipI at e; cases e
  | .opq _ _ :: _, _, _, _, e, _, _ => by unfold zipI at e; cases e
  | .dic _ _ :: _, _, _, _, e, _, _ => by unfold zipI at e; cases e
  | .dik _ _ :: _, _, _, _, e, _, _ => by unfold zipI at e; cases e
  | .lok _ _ :: _, _, _, _, e, _, _ => by unfold zipI at e; cases e
end
/-- a dict with whole numbers as keys: one that is changed, that stands still, that is walked -/
def dctR (x : D) (st : Sta) : Option (List (Int × D)) := match x with
  | .cell k => match st[k]? with | some (.dct ks) => some ks | _ => none
  | .dic ks vs => zipI ks vs
  | .lok ks vs => zipI ks vs
  | _ => none
def dctW (x : D) (st : Sta) : Option (List (Int × D)) := match x with
  | .cell k => match st[k]? with | some (.dct ks) => some ks | _ => none
  | .dic ks vs => zipI ks vs
  | _ => none
section
variable {K : PySem.W.Frag} {ca : Ca} {as : Wl} {H : Hp} {st : Sta} {W : WX}
theorem dctW_is {v : V} {x : D} {ks : List (Int × D)} (k : StOk K ca as H st) (h : IsD K ca as (stab as H) v x) (e : dctW x st = some ks) : ∃ a kvs, v = .ref a ∧ H a = some (.dK kvs) ∧ a ∉ as.hs ∧ IsKs K ca as (stab as H) kvs ks := by
  cases h <;> first | (unfold dctW at e; cases e; done) | skip
  · rename_i p j h1
    unfold dctW at e
    dsimp only at e
    split at e
    · rename_i ks' e2
      cases e
      have q := k.at_ j p _ h1 e2
      cases hq : H p with
      | none => rw [hq] at q; exact q.elim
      | some o =>
        rw [hq] at q
        cases o <;> first | exact False.elim q | skip
        exact ⟨p, _, rfl, hq, fun z => (k.hid p z).1 (List.mem_of_getElem? h1), q⟩
    · cases e
  · rename_i h1 h2 h3 h4 h5
    unfold dctW at e
    dsimp only at e
    subst h2 h3
    obtain ⟨_, q2, q3⟩ := stab_some h1
    exact ⟨_, _, rfl, q3, q2, zipI_is e h4 h5⟩
theorem dctR_is {v : V} {x : D} {ks : List (Int × D)} (k : StOk K ca as H st) (h : IsD K ca as (stab as H) v x) (e : dctR x st = some ks) : ∃ a kvs, v = .ref a ∧ Rd H a (.dK kvs) ∧ IsKs K ca as (stab as H) kvs ks := by
  by_cases hl : ∃ a b, x = .lok a b
  · obtain ⟨a, b, rfl⟩ := hl
    cases h with
    | lok h1 h2 h3 h4 h5 =>
      unfold dctR at e
      dsimp only at e
      subst h2 h3
      exact ⟨_, _, rfl, .inr ⟨_, (stab_some h1).2.2⟩, zipI_is e h4 h5⟩
  · have e' : dctW x st = some ks := by
      cases x <;> first | exact e | (exact absurd ⟨_, _, rfl⟩ hl)
    obtain ⟨a, kvs, h1, h2, _, h4⟩ := dctW_is k h e'
    exact ⟨a, kvs, h1, .inl h2, h4⟩
end
def oRIx (x y : D) (st : Sta) : Option (R D) := match dctR x st, y with
  | some ks, .int i => (match getK ks i with | some d => ret d st | none => none)
  | _, _ => none
def oRIn (neg : Bool) (y x : D) (st : Sta) : Option (R D) := match y, dctR x st with
  | .int i, some ks => ret (.bl ((getK ks i).isSome != neg)) st
  | _, _ => none
section
variable {ca : Ca} {X : Cx} {W : WX} {o i : Expr} {fo fi : F D} {pos : Pos}
theorem je_rget (hu : X.A.units + 1 < cLine) (ho : JE ca X W o fo) (hi : JE ca X W i fi) (hs : NoSl i := by exact fun _ _ => rfl) : JE ca X W (.Subscript o i pos) (f2 oRIx fo fi) := by
  obtain ⟨t1, p1, q1⟩ := ho
  obtain ⟨t2, p2, q2⟩ := hi
  refine ⟨_, pe_dget hu p1 p2 hs, fun as H σ env st Q he hs hp => ?_⟩
  refine q1 as H σ env st _ he hs (Post.bnd hp fun x st1 v as1 H1 s1 k1 i1 r1 => ?_)
  refine q2 as1 H1 σ env st1 _ (he.step s1) k1 (Post.bnd r1 fun y st2 u as2 H2 s2 k2 i2 r2 => ?_)
  have i1' := i1.step s2
  unfold oRIx at r2
  split at r2
  · rename_i ks j ek
    obtain ⟨a, kvs, rfl, hH, hk⟩ := dctR_is k2 i1' ek
    cases i2
    have g := isKs_get (i := j) hk
    cases eg : getK ks j with
    | none => rw [eg] at r2; exact r2.elim
    | some d =>
      rw [eg] at r2 g
      obtain ⟨w, ew, iw⟩ := g
      exact ⟨a, w, rfl, .inl ⟨kvs, Sum.inl j, hH, rfl, ew.symm⟩, r2.here k2 iw⟩
  · exact r2.elim
theorem jt_rin (hu : X.A.units + 1 < cLine) (hi : JE ca X W i fi) (ho : JE ca X W o fo) (hm : behindInMarks .In o = false := by first | exact nobehind _ (by decide) (by decide) | rfl) : JT ca X W (.Compare i [.In] [o] pos) (fTest (f2 (oRIn false) fi fo)) := by
  obtain ⟨t1, p1, q1⟩ := hi
  obtain ⟨t2, p2, q2⟩ := ho
  refine ⟨_, pt_cmp (pc_din hu p1 p2) hm, tvs_B fun as H σ env st Q he hs hp => ?_⟩
  refine q1 as H σ env st _ he hs (Post.bnd hp fun x st1 v as1 H1 s1 k1 i1 r1 => ?_)
  refine q2 as1 H1 σ env st1 _ (he.step s1) k1 (Post.bnd r1 fun y st2 u as2 H2 s2 k2 i2 r2 => ?_)
  have i1' := i1.step s2
  unfold oRIn at r2
  split at r2
  · rename_i j ks ek
    obtain ⟨a, kvs, rfl, hH, hk⟩ := dctR_is k2 i2 ek
    cases i1'
    have g := isKs_get (i := j) hk
    cases eg : getK ks j with
    | none => rw [eg] at r2 g; exact ⟨a, _, rfl, .inl ⟨kvs, Sum.inl j, hH, rfl, g.symm⟩, r2.here k2 (.bl _)⟩
    | some d => rw [eg] at r2 g; obtain ⟨w, ew, _⟩ := g; exact ⟨a, _, rfl, .inl ⟨kvs, Sum.inl j, hH, rfl, ew.symm⟩, r2.here k2 (.bl _)⟩
  · exact r2.elim
theorem jt_rout (hu : X.A.units + 1 < cLine) (hi : JE ca X W i fi) (ho : JE ca X W o fo) (hm : behindInMarks .NotIn o = false := by first | exact nobehind _ (by decide) (by decide) | rfl) : JT ca X W (.Compare i [.NotIn] [o] pos) (fTest (f2 (oRIn true) fi fo)) := by
  obtain ⟨t1, p1, q1⟩ := hi
  obtain ⟨t2, p2, q2⟩ := ho
  refine ⟨_, pt_cmp (pc_dnotin hu p1 p2) hm, tvs_B fun as H σ env st Q he hs hp => ?_⟩
  refine q1 as H σ env st _ he hs (Post.bnd hp fun x st1 v as1 H1 s1 k1 i1 r1 => ?_)
  refine q2 as1 H1 σ env st1 _ (he.step s1) k1 (Post.bnd r1 fun y st2 u as2 H2 s2 k2 i2 r2 => ?_)
  have i1' := i1.step s2
  unfold oRIn at r2
  split at r2
  · rename_i j ks ek
    obtain ⟨a, kvs, rfl, hH, hk⟩ := dctR_is k2 i2 ek
    cases i1'
    have g := isKs_get (i := j) hk
    cases eg : getK ks j with
    | none => rw [eg] at r2 g; exact ⟨a, _, rfl, .inl ⟨kvs, Sum.inl j, hH, rfl, g.symm⟩, r2.here k2 (.bl _)⟩
    | some d => rw [eg] at r2 g; obtain ⟨w, ew, _⟩ := g; exact ⟨a, _, rfl, .inl ⟨kvs, Sum.inl j, hH, rfl, ew.symm⟩, r2.here k2 (.bl _)⟩
  · exact r2.elim
end
end DS

namespace DS
open PySem L2 PySem.Spec PyProof.Rows
/-! ### comprehensions over a dict's keys, in which it is read -/
def envPd (env : Evn) : Evn := env.map fun o => o.bind fun d => if pd d = true then some d else none
def fLcW (i : Nat) (wk : List (Int × D) → List D) (g : FG) (t : F Bool) (fe : F D) (vs : List Nat) : F D := fun env st => match env[i]? with
  | some (some x) => match dctW x st with
    | some ks => if ks.all (fun p => pd p.2) = true then match lcF g t fe (wipeE ((envPd env).set i (some (.lok (ks.map fun p => .int p.1) (ks.map (·.2))))) vs) (wk ks) [] [] with
        | some (.ok ys []) => if pds ys = true then some (.ok (.lst ys) st) else none
        | _ => none
      else none
    | none => none
  | _ => none
def wkK (ks : List (Int × D)) : List D := ks.map fun p => .int p.1
section
variable {ca : Ca} {X : Cx} {W : WX} {K : PySem.W.Frag}
theorem lcW_is {wk : List (Int × D) → List D} {i : Nat} {g : TG} {tt : TT} {te : TE} {vs : List Nat} {gg : FG} {ft : F Bool} {fe : F D} {mk : Addr → Obj → List (Key × V) → It}
    (hmk : ∀ (as1 : Wl) (H1 : Hp) (a : Addr) (o : Obj) (kvs : List (Key × V)) (ks : List (Int × D)), stab as1 H1 a = some (.frz o (.dK kvs)) → IsKs K ca as1 (stab as1 H1) kvs ks → ItOk K ca as1 H1 (mk a o kvs) (wk ks))
    (hg : GvS K ca g gg) (ho : OwnT g vs) (ht : TvS K ca W0 tt ft) (hes : EvS K ca W0 te fe)
    {src : TI} (hsrc : ∀ σ H R, (∃ v, σ[i]? = some (some v) ∧ ∃ d o kvs, v = .ref d ∧ H d = some (.frz o (.dK kvs)) ∧ R (mk d o kvs) H) → src σ H R) :
    EvS K ca W (tLockE (tLc src g tt te vs)) (fLcW i wk gg ft fe vs) := fun as H σ env st Q he hs hp => by
  unfold fLcW at hp
  split at hp
  · rename_i x ex
    split at hp
    · rename_i ks eks
      split at hp
      · rename_i hpk
        split at hp
        · rename_i ys elc
          split at hp
          · rename_i hpy
            obtain ⟨v, ev, iv⟩ := he.at_ i x ex
            obtain ⟨a, kvs, rfl, hH, hah, hk⟩ := dctW_is hs iv eks
            refine ⟨a, .dK kvs, hH, trivial, fun od => ?_⟩
            have hvis : stab (shut as a) (upd H a (.frz od (.dK kvs))) a = some (.frz od (.dK kvs)) := by
              rw [stab_out (as := shut as a) (List.not_mem_nil) (shut_nm (.inr rfl) hah), upd_same]
            have sb : Sub0 K (stab as H) (stab (shut as a) (upd H a (.frz od (.dK kvs)))) := by
              refine Sub0.of_at (a := a) (fun u q => ?_) fun b u hb q => ?_
              · obtain ⟨_, _, q3⟩ := stab_some q
                rw [hH] at q3
                exact .inl ⟨kvs, (Option.some.inj q3).symm⟩
              · obtain ⟨q1, q2, q3⟩ := stab_some q
                rw [stab_out (as := shut as a) (List.not_mem_nil) (shut_nm (.inl q1) q2), upd_ne hb]
                exact q3
            have kst : StOk K ca (shut as a) (upd H a (.frz od (.dK kvs))) [] := by
              refine ⟨List.nodup_nil, rfl, fun b hb => ⟨List.not_mem_nil, ?_⟩, fun k b c e1 e2 => by simp at e2⟩
              by_cases e : b = a
              · subst e; exact ⟨_, upd_same⟩
              · rw [upd_ne e]
                rcases List.mem_append.mp hb with hb | hb
                · exact hs.alloc (List.mem_filter.mp hb).1
                · exact (hs.hid b hb).2
            have kh := hk.plain (as2 := shut as a) sb hpk
            have henv : EnvOk K ca (shut as a) (stab (shut as a) (upd H a (.frz od (.dK kvs)))) σ ((envPd env).set i (some (.lok (ks.map fun p => .int p.1) (ks.map (·.2))))) := by
              refine ⟨by rw [List.length_set]; unfold envPd; rw [List.length_map]; exact he.len, fun j d e => ?_⟩
              by_cases hj : i = j
              · subst hj
                have hl : i < (envPd env).length := by
                  unfold envPd
                  rw [List.length_map]
                  exact (List.getElem?_eq_some_iff.mp ex).1
                rw [List.getElem?_set_self hl] at e
                cases e
                obtain ⟨g1, g2⟩ := isKs_lists kh
                exact ⟨_, ev, .lok hvis rfl rfl g1 g2⟩
              · rw [List.getElem?_set_ne hj] at e
                unfold envPd at e
                rw [List.getElem?_map] at e
                cases q : env[j]? with
                | none => rw [q] at e; cases e
                | some o =>
                  rw [q] at e
                  cases o with
                  | none => cases e
                  | some d' =>
                    simp only [Option.map_some, Option.bind_some, Option.some.injEq] at e
                    split at e
                    · rename_i hpl
                      cases e
                      obtain ⟨v, e1, i1⟩ := he.at_ j _ q
                      exact ⟨v, e1, i1.plain sb hpl⟩
                    · cases e
            show tLc src g tt te vs σ (upd H a (.frz od (.dK kvs))) (fun v H' => H' a = some (.frz od (.dK kvs)) ∧ Q v (upd H' a (.dK kvs)))
            refine hsrc _ _ _ ⟨.ref a, ev, a, od, kvs, rfl, upd_same, ?_⟩
            show tLc (fun _ H R => R (mk a od kvs) H) g tt te vs σ (upd H a (.frz od (.dK kvs))) (fun v H' => H' a = some (.frz od (.dK kvs)) ∧ Q v (upd H' a (.dK kvs)))
            refine lc_at (W := W) (fin := fun ys st => some (.ok (.lst ys) st)) hg ho ht hes (hmk (shut as a) _ a od kvs ks hvis kh) henv kst ?_ fun as' H' D acc ads st' s hD hDa ia kh ku p => ?_
            · rw [elc]
              intro v as' H' s k' iv'
              obtain ⟨l1, l2⟩ := as'
              have e2 : l2 = (shut as a).hs := s.hid
              have e1 : l1 = [] := List.eq_nil_of_length_eq_zero k'.len
              subst e1 e2
              have hfr : H' a = some (.frz od (.dK kvs)) := s.keep a _ (List.not_mem_nil) upd_same
              refine ⟨hfr, ?_⟩
              have keepB : ∀ b o, H b = some o → upd H' a (.dK kvs) b = some o := fun b o e => by
                by_cases hb : b = a
                · subst hb
                  rw [upd_same, ← e, hH]
                · rw [upd_ne hb]
                  exact s.keep b o (List.not_mem_nil) (by rw [upd_ne hb]; exact e)
              have sH : Step as H as (upd H' a (.dK kvs)) := ⟨List.prefix_refl _, rfl, fun _ h n => (n h).elim, fun b o hb e => keepB b o e⟩
              have kH : StOk K ca as (upd H' a (.dK kvs)) st := by
                refine ⟨hs.nd, hs.len, hs.hidS sH, fun j b c e1 e2 => ?_⟩
                obtain ⟨o, e⟩ := hs.alloc (List.mem_of_getElem? e1)
                rw [keepB b o e, ← e]
                exact (hs.at_ j b c e1 e2).ext (List.prefix_refl _) sH.ext
              have sb2 : Sub0 K (stab ⟨[], (shut as a).hs⟩ H') (stab as (upd H' a (.dK kvs))) := by
                refine Sub0.of_at (a := a) (fun u q => ?_) fun b u hb q => ?_
                · obtain ⟨_, _, q3⟩ := stab_some q
                  rw [hfr] at q3
                  exact .inr ⟨od, kvs, (Option.some.inj q3).symm⟩
                · obtain ⟨_, q2, q3⟩ := stab_some q
                  obtain ⟨h4, h5⟩ := shut_mem q2
                  rw [stab_out (h4.resolve_right hb) h5, upd_ne hb]
                  exact q3
              exact hp v as _ sH kH (iv'.plain sb2 (by unfold pd; exact hpy))
            · have nD := (kh.hid D List.mem_cons_self).1
              have hn : D ∉ as'.hs := by
                rw [s.hid]
                exact kst.freeH hD
              have e1 := (stab_out (as := as') (H := H') nD hn).trans hDa
              exact p _ as' H' s ku (.lst e1 (ia.ext (as := as'.hide D) (as' := as') (List.prefix_refl _) unhide_ext))
          · exact hp.elim
        · exact hp.elim
      · exact hp.elim
    · exact hp.elim
  · exact hp.elim
theorem itok_keys (as1 : Wl) (H1 : Hp) (a : Addr) (o : Obj) (kvs : List (Key × V)) (ks : List (Int × D)) (hd : stab as1 H1 a = some (.frz o (.dK kvs))) (hk : IsKs K ca as1 (stab as1 H1) kvs ks) : ItOk K ca as1 H1 (Itk a o kvs) (wkK ks) := fun as' H' i p e => by
  have hd' : H' a = some (.frz o (.dK kvs)) := (stab_some (e _ _ hd)).2.2
  unfold wkK
  rw [List.getElem?_map]
  have q := isKs_at (i := i) hk
  cases ek : ks[i]? with
  | none =>
    rw [ek] at q
    exact ⟨fun _ => ⟨hd', List.getElem?_eq_none_iff.mp q⟩, fun d z => nomatch z⟩
  | some kd =>
    rw [ek] at q
    obtain ⟨v, ev, iv⟩ := q
    refine ⟨fun z => (nomatch z), fun d ed => ?_⟩
    simp only [Option.map_some, Option.some.injEq] at ed
    subst ed
    refine ⟨⟨hd', (List.getElem?_eq_some_iff.mp ev).1⟩, fun x H'' ⟨eH, k, v', y, ex⟩ => ?_⟩
    subst eH
    rw [ev] at y
    cases y
    subst ex
    exact it_same (.int _)
variable {elt tg tst : Expr} {scope : Scope} {own : List (Str × Nat)} {pos np : Pos} {gg : FG} {fe : F D} {ft : F Bool} {x : Str}
theorem je_lcWK {g : TG} (i : Nat) (hc : X.calm = true) (hN : X.N.Nodup) (hx : X.N[i]? = some x) (ok : BlkOk X.N X.env.scope scope own) (hg : ∀ (s : Shared) (H : Hp) (C : Addr) (cl : List (Str × Addr)) (fp : List Addr), PG (X.blk s H scope (compEnvC scope cl C X.env) fp) tg g) (hgs : GvS X.K ca g gg) (ho : OwnT g (own.map (·.2)))
    (ht : ∀ (s : Shared) (H : Hp) (C : Addr) (cl : List (Str × Addr)) (fp : List Addr), JT ca (X.blk s H scope (compEnvC scope cl C X.env) fp) W0 tst ft) (he : ∀ (s : Shared) (H : Hp) (C : Addr) (cl : List (Str × Addr)) (fp : List Addr), JE ca (X.blk s H scope (compEnvC scope cl C X.env) fp) W0 elt fe)
    (hv : Vis X.env.scope x := by first | exact Or.inl rfl | exact Or.inr (Or.inl rfl) | exact Or.inr (Or.inr rfl)) (hd : (x == ("__debug__" : Str)) = false := by decide) (hcd : (x == ("__classdict__" : Str)) = false := by decide)
    (hs : ∀ y, foldedSetIterable (.Name x np) X.env y = pure y := by intro _; rfl) :
    JE ca X W (.ListComp elt [⟨tg, .Name x np, [tst], 0⟩] scope pos) (fLcW i wkK gg ft fe (own.map (·.2))) :=
  ⟨_, pe_lock (pe_lc hc hN (pi_keys (pe_var hx hv hd hcd)) ok hg (fun s H C cl fp => pts_one (jt_canon (ht s H C cl fp))) (fun s H C cl fp => je_canon (he s H C cl fp)) hs),
    lcW_is (mk := Itk) itok_keys hgs ho tvs_canon evs_canon fun σ H R ⟨v, e, d, o, kvs, ev, h1, h2⟩ => ⟨v, e, d, o, ev, .inl ⟨kvs, h1, h2⟩⟩⟩
theorem js_setLcWK {g : TG} {l : Nat} {y : Str} {py spos : Pos} (i : Nat) (hc : X.calm = true) (hN : X.N.Nodup) (hy : X.N[l]? = some y) (hyl : X.env.scope.names.lookup y = some .local) (hx : X.N[i]? = some x) (ok : BlkOk X.N X.env.scope scope own) (hg : ∀ (s : Shared) (H : Hp) (C : Addr) (cl : List (Str × Addr)) (fp : List Addr), PG (X.blk s H scope (compEnvC scope cl C X.env) fp) tg g) (hgs : GvS X.K ca g gg) (ho : OwnT g (own.map (·.2)))
    (ht : ∀ (s : Shared) (H : Hp) (C : Addr) (cl : List (Str × Addr)) (fp : List Addr), JT ca (X.blk s H scope (compEnvC scope cl C X.env) fp) W0 tst ft) (he : ∀ (s : Shared) (H : Hp) (C : Addr) (cl : List (Str × Addr)) (fp : List Addr), JE ca (X.blk s H scope (compEnvC scope cl C X.env) fp) W0 elt fe)
    (hv : Vis X.env.scope x := by first | exact Or.inl rfl | exact Or.inr (Or.inl rfl) | exact Or.inr (Or.inr rfl)) (hd : (x == ("__debug__" : Str)) = false := by decide) (hcd : (x == ("__classdict__" : Str)) = false := by decide)
    (hs : ∀ y, foldedSetIterable (.Name x np) X.env y = pure y := by intro _; rfl)
    (hsw : swapsWith (.ListComp elt [⟨tg, .Name x np, [tst], 0⟩] scope pos) (some (.Name y py)) spos.line X.env = pure true := by exact sw_true rfl rfl rfl (by decide +kernel)) :
    JS ca X W (.Assign [.Name y py] (.ListComp elt [⟨tg, .Name x np, [tst], 0⟩] scope pos) spos) (sAsg l (fLcW i wkK gg ft fe (own.map (·.2)))) := by
  have q := lcW_is (W := W) (i := i) (mk := Itk) (wk := wkK) (gg := gg) (ft := ft) (fe := fe) itok_keys hgs ho (tvs_canon (K := X.K) (ca := ca) (W := W0) (ft := ft)) (evs_canon (K := X.K) (ca := ca) (W := W0) (f := fe)) (src := iKeys (tVar i)) fun σ H R ⟨v, e, d, o, kvs, ev, h1, h2⟩ => ⟨v, e, d, o, ev, .inl ⟨kvs, h1, h2⟩⟩
  refine ⟨_, ps_lock (ps_setLc (te := teF X.K ca W0 fe) (tt := ttF X.K ca W0 ft) hc hN hy hyl hsw (pi_keys (pe_var hx hv hd hcd)) ok hg (fun s H C cl fp => pts_one (jt_canon (ht s H C cl fp))) (fun s H C cl fp => je_canon (he s H C cl fp)) hs), fun as H σ env st E henv hst hp => ?_⟩
  exact q as H σ env st (fun v H' => E.nx (σ.set l (some v)) H') henv hst (PostS.bnd hp henv fun d st1 v as1 H1 s1 k1 i1 p1 => p1.here k1 ((henv.step s1).set l i1))
end
/-! ### dict(pairs), dict(d) -/
def pairsI : List D → Option (List (Int × D))
  | [] => some []
  | .tup [.int i, v] :: r => (pairsI r).map fun s => (i, v) :: s
  | _ => none
def mergeI (s : List (Int × D)) : List (Int × D) := s.foldl (fun acc p => putD' acc p.1 p.2) []
/-- dict(pairs), to be changed later -/
def oDictN (xs : List D) (st : Sta) : Option (R D) := match xs with
  | [.lst ps] => (match pairsI ps with
    | some s => if s.length ≤ 1000 then some (.ok (.cell st.length) (st ++ [.dct (mergeI s)])) else none
    | none => none)
  | _ => none
/-- dict(d), that stands still -/
def oDictC (xs : List D) (st : Sta) : Option (R D) := match xs with
  | [x] => (match dctR x st with
    | some s => some (.ok (.dic (s.map fun p => .int p.1) (s.map (·.2))) st)
    | none => none)
  | _ => none
section
variable {K : PySem.W.Frag} {ca : Ca} {as : Wl} {G H : Hp} {st : Sta} {W : WX}
theorem pairsI_is : ∀ {ps : List D} {vs : List V} {s : List (Int × D)}, IsDs K ca as G vs ps → pairsI ps = some s → ∃ (qs : List Addr) (kvs : List (Key × V)), vs = qs.map V.ref ∧ Paired (fun p kv => SqT K G p [kV kv.1, kv.2]) qs kvs ∧ IsKs K ca as G kvs s
  | [], _, _, h, e => by
    cases h
    unfold pairsI at e
    cases e
    exact ⟨[], [], rfl, .nil, trivial⟩
  | p :: r, _, s, h, e => by
    cases h with
    | cons h1 h2 =>
      unfold pairsI at e
      split at e
      · rename_i e0
        cases e0
      · rename_i i v r' e0
        cases e0
        obtain ⟨s', e1, rfl⟩ := Option.map_eq_some_iff.mp e
        obtain ⟨qs, kvs, rfl, g1, g2⟩ := pairsI_is h2 e1
        cases h1 with
        | tup t1 t2 =>
          cases t2 with
          | cons t3 t4 =>
            cases t4 with
            | cons t5 t6 =>
              cases t6
              cases t3
              exact ⟨_ :: qs, (Sum.inl i, _) :: kvs, rfl, .cons t1 g1, rfl, t5, g2⟩
      · cases e
theorem merge_is : ∀ {kvs : List (Key × V)} {s : List (Int × D)} {acc : List (Key × V)} {ac : List (Int × D)}, IsKs K ca as G kvs s → IsKs K ca as G acc ac → IsKs K ca as G (mergeK acc kvs) (s.foldl (fun acc p => putD' acc p.1 p.2) ac)
  | [], [], _, _, _, h => h
  | [], _ :: _, _, _, h, _ => h.elim
  | _ :: _, [], _, _, h, _ => h.elim
  | (k, v) :: r, (i, d) :: s, acc, ac, h, g => by
    obtain ⟨h1, h2, h3⟩ := h
    subst h1
    have z := merge_is h3 (isKs_put (i := i) g h2)
    exact z
theorem rn_dictN : RvN K ca W (fun xs H Q => ∃ (a : Addr) (ps : List Addr) (kvs : List (Key × V)), xs = [.ref a] ∧ SqL K H a (ps.map V.ref) ∧ Paired (fun p kv => SqT K H p [kV kv.1, kv.2]) ps kvs ∧ ∀ p, H p = none → Q (.ref p) (upd H p (.dK (mergeK [] kvs)))) oDictN := by
  intro as H σ st v x Q k hx hp
  unfold oDictN at hp
  split at hp
  · rename_i ps
    split at hp
    · rename_i s es
      split at hp
      · cases hx with
        | cons h1 h2 =>
          cases h2
          cases h1 with
          | lst g1 g2 =>
            obtain ⟨qs, kvs, rfl, g3, g4⟩ := pairsI_is g2 es
            refine ⟨_, qs, kvs, rfl, SqL.of (stab_some g1).2.2, L2.Paired.mapP g3 fun p kv z => ext_t (stab_sub _ _) z, fun p hn => ?_⟩
            refine hp _ _ _ (Step.made hn) (k.made (c := .dct (mergeI s)) hn ?_) (.cell (by rw [← k.len]; exact made_get))
            exact merge_is (ac := []) (acc := []) g4 trivial
      · exact hp.elim
    · exact hp.elim
  · exact hp.elim
theorem rn_dictC : RvN K ca W (fun xs H Q => ∃ (a : Addr) (kvs : List (Key × V)), xs = [.ref a] ∧ Rd H a (.dK kvs) ∧ ∀ p, H p = none → Q (.ref p) (upd H p (.dK kvs))) oDictC := by
  intro as H σ st v x Q k hx hp
  unfold oDictC at hp
  split at hp
  · rename_i d
    split at hp
    · rename_i s es
      cases hx with
      | cons h1 h2 =>
        cases h2
        obtain ⟨a, kvs, rfl, hH, hk⟩ := dctR_is k h1 es
        refine ⟨a, kvs, rfl, hH, fun p hn => ?_⟩
        obtain ⟨g1, g2⟩ := isKs_lists (hk.ext (as' := as) (List.prefix_refl _) (Step.laid (o := .dK kvs) hn).ext)
        exact hp _ as _ (Step.laid hn) (k.laid hn) (.dic (stab_laid k hn) rfl rfl g1 g2)
    · exact hp.elim
  · exact hp.elim
end
theorem bb_dict : bootBuiltins "dict" = some (.type "dict") := by decide +kernel
section
variable {ca : Ca} {X : Cx} {W : WX} {e : Expr} {fa : F D} {pos p : Pos}
theorem je_dictN (hm : X.mg "dict" = none) (hg : Gl X "dict") (hc : X.calm = true) (h : JE ca X W e fa) (he : starEach [e] X.env = (false, eval e X.env) :: starEach [] X.env := by rfl) (hpl : (backTo pos (starEach [] X.env)).any (·.1) = false := by rfl) : JE ca X W (.Call (.Name "dict" p) [e] [] pos) (fN oDictN (fCons fa fNil)) :=
  je_callTy (call_dictP hc) rn_dictN hg hm bb_dict (ja_cons h ja_nil he) (by decide) (by decide) he hpl
theorem je_dictC (hm : X.mg "dict" = none) (hg : Gl X "dict") (h : JE ca X W e fa) (he : starEach [e] X.env = (false, eval e X.env) :: starEach [] X.env := by rfl) (hpl : (backTo pos (starEach [] X.env)).any (·.1) = false := by rfl) : JE ca X W (.Call (.Name "dict" p) [e] [] pos) (fN oDictC (fCons fa fNil)) :=
  je_callTy call_dictD rn_dictC hg hm bb_dict (ja_cons h ja_nil he) (by decide) (by decide) he hpl
end
end DS

namespace DS
open PySem L2 PySem.Spec PyProof.Rows
/-! ### texts -/
def strsOf : List D → Option (List Str)
  | [] => some []
  | .str x :: r => (strsOf r).map fun s => x :: s
  | _ => none
theorem strsOf_is {K : PySem.W.Frag} {ca : Ca} {as : Wl} {G : Hp} : ∀ {ds : List D} {vs : List V} {ys : List Str}, IsDs K ca as G vs ds → strsOf ds = some ys → vs = ys.map V.str
  | [], _, _, h, e => by
    cases h
    unfold strsOf at e
    cases e
    rfl
  | d :: r, _, _, h, e => by
    cases h with
    | cons h1 h2 =>
      unfold strsOf at e
      split at e
      · rename_i q
        cases q
      · rename_i x r' q
        cases q
        obtain ⟨s, e1, rfl⟩ := Option.map_eq_some_iff.mp e
        cases h1
        rw [strsOf_is h2 e1]
        rfl
      · cases e
/-- sep.join(texts) -/
def fJoin (fx fe : F D) : F D := fun env st => bnd (fx env st) fun x st => match x with
  | .str a => bnd (fe env st) fun y st => (match seqOf y st with
    | some ds => (match strsOf ds with
      | some ys => if (ys.map (·.length)).sum + ys.length * a.length ≤ 16777216 then ret (.str (Txt.join a ys)) st else none
      | none => none)
    | none => none)
  | _ => none
/-- text.split(sep) -/
def fSplit (fx fe : F D) : F D := fun env st => bnd (fx env st) fun x st => match x with
  | .str a => bnd (fe env st) fun y st => (match y with
    | .str b => if (b.length == 0) = false ∧ a.length + 2 ≤ 100000 then ret (.lst ((Txt.split a b).map D.str)) st else none
    | _ => none)
  | _ => none
def oStr (xs : List D) (st : Sta) : Option (R D) := match xs with
  | [.int i] => if i.natAbs.log2 < 1920 then ret (.str (toString i)) st else none
  | [.str a] => ret (.str a) st
  | _ => none
/-- int(text) -/
def oIntS (xs : List D) (st : Sta) : Option (R D) := match xs with
  | [.str a] => (match PySem.intText? a with
    | some n => if a.length ≤ 640 then ret (.int n) st else none
    | none => none)
  | _ => none
/-- len(text) -/
def oLenS (xs : List D) (st : Sta) : Option (R D) := match xs with
  | [.str a] => if a.length ≤ 100000 then ret (.int a.length) st else none
  | _ => none
/-- text[i] -/
def oIxS (x i : D) (st : Sta) : Option (R D) := match x, i with
  | .str z, .int i => if z.length ≤ 100000 then (match atI z.cps.toList i with
    | some c => ret (.str ⟨#[c]⟩) st
    | none => none) else none
  | _, _ => none
/-- sign in text -/
def oInS (x y : D) (st : Sta) : Option (R D) := match x, y with
  | .str a, .str z => (match a.cps.toList with
    | [c] => ret (.bl (decide (c ∈ z.cps.toList))) st
    | _ => none)
  | _, _ => none
/-- a text, walked -/
def iS (fa : F D) : F (List D) := fun env st => bnd (fa env st) fun x st => match x with
  | .str x => some (.ok (x.cps.toList.map fun c => .str ⟨#[c]⟩) st)
  | _ => none
/-- *e among arguments -/
def fStar (fe : F D) (fr : F (List D)) : F (List D) := fun env st => bnd (fe env st) fun x st => match seqOf x st with
  | some ds => bnd (fr env st) fun ys st => some (.ok (ds ++ ys) st)
  | none => none
section
variable {K : PySem.W.Frag} {ca : Ca} {W : WX}
theorem rn_str : RvN K ca W (fun xs H Q => (∃ i, xs = [.int i] ∧ i.natAbs.log2 < 1920 ∧ Q (.str (toString i)) H) ∨ ∃ a, xs = [.str a] ∧ Q (.str a) H) oStr := by
  intro as H σ st v x Q k hx hp
  cases hx with
  | nil => exact False.elim hp
  | cons h1 h2 =>
    cases h2 with
    | cons => cases h1 <;> exact False.elim hp
    | nil =>
      unfold oStr at hp
      cases h1 <;> first | exact False.elim hp | skip
      · rename_i i
        dsimp only at hp
        by_cases hl : i.natAbs.log2 < 1920
        · rw [if_pos hl] at hp
          exact .inl ⟨i, rfl, hl, hp.here k (.str _)⟩
        · rw [if_neg hl] at hp
          exact hp.elim
      · rename_i a
        exact .inr ⟨a, rfl, hp.here k (.str _)⟩
theorem rn_intS : RvN K ca W (fun xs H Q => ∃ a n, xs = [.str a] ∧ PySem.intText? a = some n ∧ a.length ≤ 640 ∧ Q (.int n) H) oIntS := by
  intro as H σ st v x Q k hx hp
  cases hx with
  | nil => exact False.elim hp
  | cons h1 h2 =>
    cases h2 with
    | cons => cases h1 <;> exact False.elim hp
    | nil =>
      unfold oIntS at hp
      cases h1 <;> first | exact False.elim hp | skip
      rename_i a
      dsimp only at hp
      split at hp
      · rename_i n en
        by_cases hl : a.length ≤ 640
        · rw [if_pos hl] at hp
          exact ⟨a, n, rfl, en, hl, hp.here k (.int _)⟩
        · rw [if_neg hl] at hp
          exact hp.elim
      · exact hp.elim
theorem rn_lenS : RvN K ca W (fun xs H Q => ∃ z, xs = [.str z] ∧ z.length ≤ sizeLine ∧ Q (.int z.length) H) oLenS := by
  intro as H σ st v x Q k hx hp
  cases hx with
  | nil => exact False.elim hp
  | cons h1 h2 =>
    cases h2 with
    | cons => cases h1 <;> exact False.elim hp
    | nil =>
      unfold oLenS at hp
      cases h1 <;> first | exact False.elim hp | skip
      rename_i a
      dsimp only at hp
      by_cases hl : a.length ≤ 100000
      · rw [if_pos hl] at hp
        exact ⟨a, rfl, sz_of hl, hp.here k (.int _)⟩
      · rw [if_neg hl] at hp
        exact hp.elim
theorem rv_ixS : Rv2 K ca W rIxS oIxS := by
  intro as H σ st v u x y Q k hx hy hp
  unfold oIxS at hp
  cases hx <;> cases hy <;> first | exact False.elim hp | skip
  rename_i z i
  dsimp only at hp
  by_cases hl : z.length ≤ 100000
  · rw [if_pos hl] at hp
    split at hp
    · rename_i c ec
      exact ⟨z, i, c, rfl, rfl, sz_of hl, ec, hp.here k (.str _)⟩
    · exact hp.elim
  · rw [if_neg hl] at hp
    exact hp.elim
theorem rv_inS : Rv2 K ca W (fun x y H Q => ∃ (c : Nat) (z : Str), x = .str ⟨#[c]⟩ ∧ y = .str z ∧ Q (.bl (decide (c ∈ z.cps.toList))) H) oInS := by
  intro as H σ st v u x y Q k hx hy hp
  unfold oInS at hp
  cases hx <;> cases hy <;> first | exact False.elim hp | skip
  rename_i a z
  dsimp only at hp
  split at hp
  · rename_i c ec
    refine ⟨c, z, ?_, rfl, hp.here k (.bl _)⟩
    obtain ⟨cps⟩ := a
    congr
    exact Array.toList_inj.mp ec
  · exact hp.elim
variable {X : Cx} {o e i tg : Expr} {fx fe fa fb fo fi : F D} {apos pos p : Pos} {x : Str} {es : List Expr} {fr : F (List D)}
theorem je_join (ho : JE ca X W o fx) (he : JE ca X W e fe) (hs : starEach [e] X.env = [(false, eval e X.env)] := by rfl) (hbase : attributeBase o "join" X.env (eval o X.env) = eval o X.env := by rfl) (hline : (apos.endLine == pos.line) = true := by rfl) :
    JE ca X W (.Call (.Attribute o "join" apos) [e] [] pos) (fJoin fx fe) := by
  obtain ⟨to, po, so⟩ := ho
  obtain ⟨te, pe, se⟩ := he
  refine ⟨_, pe_join po pe hs hbase hline, fun as H σ env st Q hE hS hp => ?_⟩
  refine so as H σ env st _ hE hS (Post.bnd hp fun x st1 v as1 H1 s1 k1 i1 p1 => ?_)
  cases i1 <;> first | exact False.elim p1 | skip
  rename_i a
  refine ⟨⟨a, rfl⟩, se as1 H1 σ env st1 _ (hE.step s1) k1 (Post.bnd p1 fun y st2 u as2 H2 s2 k2 i2 p2 => ?_)⟩
  split at p2
  · rename_i ds eds
    split at p2
    · rename_i ys eys
      by_cases hl : (ys.map (·.length)).sum + ys.length * a.length ≤ 16777216
      · rw [if_pos hl] at p2
        obtain ⟨q, xs, rfl, hq, hd⟩ := seq_is k2 i2 eds
        rw [strsOf_is hd eys] at hq
        exact ⟨a, q, ys, rfl, rfl, hq, hl, p2.here k2 (.str _)⟩
      · rw [if_neg hl] at p2
        exact p2.elim
    · exact p2.elim
  · exact p2.elim
theorem strsD_is {as : Wl} {G : Hp} : ∀ ys : List Str, IsDs K ca as G (ys.map V.str) (ys.map D.str)
  | [] => .nil
  | y :: ys => .cons (.str y) (strsD_is ys)
theorem je_split (ho : JE ca X W o fx) (he : JE ca X W e fe) (hs : starEach [e] X.env = [(false, eval e X.env)] := by rfl) (hbase : attributeBase o "split" X.env (eval o X.env) = eval o X.env := by rfl) (hline : (apos.endLine == pos.line) = true := by rfl) :
    JE ca X W (.Call (.Attribute o "split" apos) [e] [] pos) (fSplit fx fe) := by
  obtain ⟨to, po, so⟩ := ho
  obtain ⟨te, pe, se⟩ := he
  refine ⟨_, pe_split po pe hs hbase hline, fun as H σ env st Q hE hS hp => ?_⟩
  refine so as H σ env st _ hE hS (Post.bnd hp fun x st1 v as1 H1 s1 k1 i1 p1 => ?_)
  cases i1 <;> first | exact False.elim p1 | skip
  rename_i a
  refine ⟨⟨a, rfl⟩, se as1 H1 σ env st1 _ (hE.step s1) k1 (Post.bnd p1 fun y st2 u as2 H2 s2 k2 i2 p2 => ?_)⟩
  cases i2 <;> first | exact False.elim p2 | skip
  rename_i b
  dsimp only at p2
  by_cases hl : (b.length == 0) = false ∧ a.length + 2 ≤ 100000
  · rw [if_pos hl] at p2
    refine ⟨a, b, rfl, rfl, hl.1, sz_of hl.2, fun q hq => ?_⟩
    exact p2 _ as2 _ (Step.laid hq) (k2.laid hq) (.lst (stab_laid k2 hq) (strsD_is _))
  · rw [if_neg hl] at p2
    exact p2.elim
theorem je_strc (hm : X.mg "str" = none) (hg : Gl X "str") (h : JE ca X W e fa) (he : starEach [e] X.env = (false, eval e X.env) :: starEach [] X.env := by rfl) (hpl : (backTo pos (starEach [] X.env)).any (·.1) = false := by rfl) : JE ca X W (.Call (.Name "str" p) [e] [] pos) (fN oStr (fCons fa fNil)) :=
  je_callTy (call_str_int.or SkE.call_str_str) rn_str hg hm bb_str (ja_cons h ja_nil he) (by decide) (by decide) he hpl
theorem je_intS (hm : X.mg "int" = none) (hg : Gl X "int") (h : JE ca X W e fa) (he : starEach [e] X.env = (false, eval e X.env) :: starEach [] X.env := by rfl) (hpl : (backTo pos (starEach [] X.env)).any (·.1) = false := by rfl) : JE ca X W (.Call (.Name "int" p) [e] [] pos) (fN oIntS (fCons fa fNil)) :=
  je_callTy call_int_str rn_intS hg hm bb_int (ja_cons h ja_nil he) (by decide) (by decide) he hpl
theorem je_lenS (hm : X.mg "len" = none) (hg : Gl X "len") (h : JE ca X W e fa) (he : starEach [e] X.env = (false, eval e X.env) :: starEach [] X.env := by rfl) (hpl : (backTo pos (starEach [] X.env)).any (·.1) = false := by rfl) : JE ca X W (.Call (.Name "len" p) [e] [] pos) (fN oLenS (fCons fa fNil)) :=
  je_callB call_len_str rn_lenS hg hm bb_len (ja_cons h ja_nil he) (by decide) (by decide) he hpl
theorem je_ixS (ha : JE ca X W o fa) (hb : JE ca X W i fb) (hs : PlainIx i := by exact fun _ _ => rfl) : JE ca X W (.Subscript o i pos) (f2 oIxS fa fb) := by
  obtain ⟨ta, pa, sa⟩ := ha
  obtain ⟨tb, pb, sb⟩ := hb
  exact ⟨_, pe_ix ix_str pa pb hs, evs2 sa sb rv_ixS⟩
theorem je_inS (ha : JE ca X W o fa) (hb : JE ca X W e fb) (hm : behindInMarks .In e = false := by first | rfl | decide) : JE ca X W (.Compare o [.In] [e] pos) (f2 oInS fa fb) := je_cmp op_in_sign rv_inS ha hb hm
theorem jt_inS (ha : JE ca X W o fa) (hb : JE ca X W e fb) (hm : behindInMarks .In e = false := by first | rfl | decide) : JT ca X W (.Compare o [.In] [e] pos) (fTest (f2 oInS fa fb)) := jt_cmp op_in_sign rv_inS ha hb hm
theorem ji_s (h : JE ca X W e fa) : JI ca X W tg e (iS fa) := by
  obtain ⟨t, pt, q⟩ := h
  refine ⟨_, pi_str pt, fun as H σ env st R he hs hp => ?_⟩
  refine q as H σ env st _ he hs (Post.bnd hp fun x st1 v as1 H1 s1 k1 i1 p1 => ?_)
  cases i1 <;> first | exact False.elim p1 | skip
  rename_i z
  refine ⟨z, rfl, p1 (Its z, H1) as1 H1 (Step.refl _ _) k1 ⟨rfl, ?_⟩ rfl⟩
  intro as' H' i p e
  rw [List.getElem?_map, Array.getElem?_toList]
  cases ec : z.cps[i]? with
  | none => exact ⟨fun _ => Array.getElem?_eq_none_iff.mp ec, fun d z => nomatch z⟩
  | some c =>
    refine ⟨fun z => (nomatch z), fun d ed => ?_⟩
    simp only [Option.map_some, Option.some.injEq] at ed
    subst ed
    refine ⟨(Array.getElem?_eq_some_iff.mp ec).1, fun x H'' ⟨eH, c', y, ex⟩ => ?_⟩
    subst eH
    rw [ec] at y
    cases y
    subst ex
    exact it_same (.str _)
theorem ja_star (h1 : JE ca X W e fe) (h2 : JA ca X W es fr) (hs : starEach (.Starred e p :: es) X.env = (true, eval e X.env) :: starEach es X.env := by rfl) : JA ca X W (.Starred e p :: es) (fStar fe fr) := by
  obtain ⟨t, pt, s⟩ := h1
  obtain ⟨u, q, r⟩ := h2
  refine ⟨_, StX.pa_star pt q hs, fun as H σ env st Q he hs hp => ?_⟩
  refine s as H σ env st _ he hs (Post.bnd hp fun x st1 v as1 H1 s1 k1 i1 p1 => ?_)
  split at p1
  · rename_i ds eds
    obtain ⟨a, xs, rfl, hq, hd⟩ := seq_is k1 i1 eds
    refine ⟨a, xs, rfl, hq.symm, r as1 H1 σ env st1 _ (he.step s1) k1 (Post.bnd p1 fun y st2 u as2 H2 s2 k2 i2 p2 => ?_)⟩
    exact p2.here k2 ((hd.step s2).append i2)
  · exact p1.elim
/-- a text of the module -/
theorem je_gstr {z : Str} (h : ∃ t, X.mg x = some (.str z t)) (hg : Gl X x := by rfl) (hd : (x == ("__debug__" : Str)) = false := by decide) : JE ca X W (.Name x pos) (fC (.str z)) :=
  let ⟨t, h⟩ := h
  ⟨_, pe_glob (v := .str z) hg h ⟨t, rfl⟩ hd, evs_c fun _ _ => .str z⟩
end
end DS

namespace DS
open PySem L2 PySem.Spec PyProof.Rows
/-! ### a written table with text keys, known whole: .get(k, x) -/
structure TblW (K : PySem.W.Frag) (w : World) (a : Addr) (tbl : List (Str × Int)) : Prop where
  ex : ∃ es n, KDict K w a es n
  get : ∀ z, ∃ r, PySem.W.nsIn K a z = some r ∧ match tbl.lookup z with | some i => ∃ t, r = some (.int i t) | none => r = none
def fGetK2 (tbl : List (Str × Int)) (fa fb : F D) : F D := fun env st => bnd (fa env st) fun x st => bnd (fb env st) fun y st => match x with
  | .str z => (match tbl.lookup z with | some i => ret (.int i) st | none => ret y st)
  | _ => none
def tGetK2 (K : PySem.W.Frag) (a : Addr) (td ty tx : TE) : TE := fun σ H Q => td σ H fun x H1 => x = .ref a ∧ ty σ H1 fun y H2 => tx σ H2 fun d H3 => ∃ z r, y = .str z ∧ PySem.W.nsIn K a z = some r ∧
  ((∃ u v, r = some u ∧ RelV v u ∧ Q v H3) ∨ (r = none ∧ Q d H3))
section
variable {ca : Ca} {X : Cx} {W : WX} {e f : Expr} {fa fb : F D} {a : Addr} {tbl : List (Str × Int)} {apos cpos p : Pos} {x : Str}
theorem pe_getK2 {td ty tx : TE} {o : Expr} (D : ∃ es n, KDict X.K X.w a es n) (ho : PE X o td) (he : PE X e ty) (hf : PE X f tx) (m : M2 X o "get" apos e f cpos) : PE X (.Call (.Attribute o "get" apos) [e, f] [] cpos) (tGetK2 X.K a td ty tx) := by
  refine ⟨fun pins s σ H Q I h => ?_⟩
  obtain ⟨es, n, D⟩ := D
  refine wpAny_Call_method m.base m.few m.line PySem.F.plainAttrs_dict PySem.F.slot_dict_get PySem.F.type_dict_get (thn (ho.run pins s σ H _ I h) fun u s1 ⟨x, H1, I1, rx, ex, q1⟩ => ?_)
  subst ex
  obtain rfl : u = Value.ref a := rx
  refine ⟨kd_type D I1, fun b q => ?_, ?_⟩
  · cases q
    exact ⟨_, I1.kIn _ _ D.at_, rfl⟩
  rw [m.trees]
  refine Calls.callWith_builtin rfl (Calls.evalArgs_plain (Calls.spliced_cons (thn (he.run pins s1 σ H1 _ I1 q1) fun iv s2 ⟨y, H2, I2, ry, q2⟩ =>
    Calls.spliced_cons (thn (hf.run pins s2 σ H2 _ I2 q2) fun fv s3 ⟨d, H3, I3, rd, z, r, ey, eu, q3⟩ => Calls.spliced_nil ?_))))
  subst ey
  obtain ⟨t, rfl⟩ := ry
  have hm := PySem.W.mapOf_K (prog := X.prog) (w := X.w) I3.kIn D.at_ D.lit
  refine call_meetsIn PySem.F.slot_dict_get hm.typeIs PySem.F.entry_dict_get (PySem.F.args_dict_get_3 _ _ _) (meets_dict_get_default (strKind X.prog X.w) a (strKind_is X.prog X.w z t) D.low fv) ⟨_, hm, ?_⟩
  rw [PySem.W.find_K D.at_ eu]
  rcases q3 with ⟨u, v, rfl, rv, q⟩ | ⟨rfl, q⟩
  · exact ⟨v, H3, I3.tok _, rv, q⟩
  · exact ⟨d, H3, I3.tok _, rd, q⟩
theorem je_getK2 (T : TblW X.K X.w a tbl) (hg : Gl X x) (hm : X.mg x = some (.ref a)) (h : JE ca X W e fa) (h2 : JE ca X W f fb) (hd : (x == ("__debug__" : Str)) = false := by decide)
    (m : M2 X (.Name x p) "get" apos e f cpos := by exact ⟨rfl, rfl, rfl, rfl⟩) : JE ca X W (.Call (.Attribute (.Name x p) "get" apos) [e, f] [] cpos) (fGetK2 tbl fa fb) := by
  obtain ⟨t, pt, q⟩ := h
  obtain ⟨t2, pt2, q2⟩ := h2
  refine ⟨_, pe_getK2 T.ex (pe_glob (v := .ref a) hg hm rfl hd) pt pt2 m, fun as H σ env st Q he hs hp => ?_⟩
  refine ⟨rfl, q as H σ env st _ he hs (Post.bnd hp fun x st1 v as1 H1 s1 k1 i1 p1 => ?_)⟩
  refine q2 as1 H1 σ env st1 _ (he.step s1) k1 (Post.bnd p1 fun y st2 u as2 H2 s2 k2 i2 p2 => ?_)
  cases i1 <;> first | exact False.elim p2 | skip
  rename_i z
  dsimp only at p2
  obtain ⟨r, er, hr⟩ := T.get z
  refine ⟨z, r, rfl, er, ?_⟩
  split at p2
  · rename_i i ei
    rw [ei] at hr
    obtain ⟨t, rfl⟩ := hr
    exact .inl ⟨_, .int i, rfl, ⟨t, rfl⟩, p2.here k2 (.int i)⟩
  · rename_i ei
    rw [ei] at hr
    exact .inr ⟨hr, p2.here k2 i2⟩
theorem je_getK2E (h : ∃ a, TblW X.K X.w a tbl ∧ X.mg x = some (.ref a)) (he : JE ca X W e fa) (hf : JE ca X W f fb) (hg : Gl X x := by rfl) (hd : (x == ("__debug__" : Str)) = false := by decide)
    (m : M2 X (.Name x p) "get" apos e f cpos := by exact ⟨rfl, rfl, rfl, rfl⟩) : JE ca X W (.Call (.Attribute (.Name x p) "get" apos) [e, f] [] cpos) (fGetK2 tbl fa fb) := let ⟨_, T, h⟩ := h; je_getK2 T hg h he hf hd m
end
/-! ### a dict that is written out, with texts as keys -/
def fDisp (zs : List Str) (fs : F (List D)) : F D := fun env st => match fs env st with
  | some (.ok ys st') => some (.ok (.dic (zs.map D.str) ys) st')
  | _ => none
def PvS (K : PySem.W.Frag) (ca : Ca) (zs : List Str) (trs : List (TE × TE)) (fs : F (List D)) : Prop :=
  ∀ as H σ env st (Q : List (V × V) → Hp → Prop), EnvOk K ca as (stab as H) σ env → StOk K ca as H st →
    Post K ca W0 (fun as' G (ps : List (V × V)) ds => ∃ kvs : List (Key × V), ps = kvs.map (fun kv => (kV kv.1, kv.2)) ∧ kvs.map (·.1) = zs.map Sum.inr ∧ IsDs K ca as' G (kvs.map (·.2)) ds) as H σ (fs env st) Q → tPairs trs σ H Q
def JPs (ca : Ca) (X : Cx) (pos : Pos) (keys : List (Option Expr)) (vals : List Expr) (zs : List Str) (fs : F (List D)) : Prop := ∃ trs, PPs X pos keys vals trs ∧ PvS X.K ca zs trs fs
theorem putK_new {kvs : List (Key × V)} {k : Key} {v : V} (h : k ∉ kvs.map (·.1)) : putK kvs k v = kvs ++ [(k, v)] := by
  unfold putK
  rw [if_neg]
  intro z
  obtain ⟨q, hq, e⟩ := List.any_eq_true.mp z
  exact h (List.mem_map.mpr ⟨q, hq, of_decide_eq_true e⟩)
theorem mergeK_new : ∀ {kvs acc : List (Key × V)}, ((acc ++ kvs).map (·.1)).Nodup → mergeK acc kvs = acc ++ kvs
  | [], acc, _ => by rw [List.append_nil]; rfl
  | (k, v) :: r, acc, h => by
    have h1 : k ∉ acc.map (·.1) := by
      rw [List.map_append, List.map_cons] at h
      have := (List.nodup_append.mp h).2.2
      intro z
      exact this _ z _ List.mem_cons_self rfl
    show mergeK (putK acc k v) r = _
    rw [putK_new h1, mergeK_new (by rw [List.append_assoc]; exact h), List.append_assoc]
    rfl
section
variable {ca : Ca} {X : Cx} {W : WX} {e : Expr} {fa : F D} {fs : F (List D)} {pos p : Pos} {keys : List (Option Expr)} {vals : List Expr} {zs : List Str} {z : Str} {j : Option Str}
theorem jps_nil : JPs ca X pos [] [] [] fNil := ⟨_, pps_nil, fun as H σ env st Q he hs hp => hp.here hs ⟨[], rfl, rfl, .nil⟩⟩
theorem jps_cons {j} (h1 : JE ca X W0 e fa) (h2 : JPs ca X pos keys vals zs fs) : JPs ca X pos (some (.Constant (.str z) j p) :: keys) (e :: vals) (z :: zs) (fCons fa fs) := by
  obtain ⟨t, pt, s⟩ := h1
  obtain ⟨trs, pp, r⟩ := h2
  refine ⟨_, pps_cons pe_str pt pp, fun as H σ env st Q he hs hp => ?_⟩
  show t σ H fun y H2 => tPairs trs σ H2 fun ps H3 => Q ((V.str z, y) :: ps) H3
  refine s as H σ env st _ he hs (Post.bnd hp fun x st1 v as1 H1 s1 k1 i1 p1 => ?_)
  refine r as1 H1 σ env st1 _ (he.step s1) k1 (Post.bnd p1 fun y st2 ps as2 H2 s2 k2 i2 p2 => ?_)
  obtain ⟨kvs, rfl, e2, i2⟩ := i2
  exact p2.here k2 ⟨(Sum.inr z, v) :: kvs, rfl, by rw [List.map_cons, e2]; rfl, .cons (i1.step s2) i2⟩
theorem je_disp (h : JPs ca X pos keys vals zs fs) (hn : zs.Nodup := by decide) (h15 : keys.length ≤ 15 := by decide) (h0 : zs ≠ [] := by decide) (hk : keys.length = zs.length := by rfl) (hall : keys.all (·.isSome) = true := by rfl) (hl : keys.length = vals.length := by rfl) : JE ca X W (.Dict keys vals pos) (fDisp zs fs) := by
  obtain ⟨trs, pp, r⟩ := h
  refine ⟨_, pe_disp pp hall hl (fun e => h0 (List.eq_nil_of_length_eq_zero (by rw [← hk, e]; rfl))) h15, fun as H σ env st Q he hs hp q hq => ?_⟩
  unfold fDisp at hp
  split at hp
  · rename_i ys st' efs
    have hne : q ∉ as.as := hs.free hq
    refine r (as.hide q) _ σ env st _ (EnvOk.ext (as := as) (as' := as.hide q) (List.prefix_refl _) (hide_ext hq (Step.laid hq)) he) (hs.hideD hq) ?_
    rw [efs]
    intro ps as' H' s k i
    obtain ⟨kvs, rfl, e2, i2⟩ := i
    have hp' : H' q = some (.dK []) := s.keep q _ hne upd_same
    have hnd : (kvs.map (·.1)).Nodup := by
      rw [e2]
      exact (List.pairwise_map.mpr (hn.imp fun h z => h (Sum.inr.inj z)))
    have hlen : kvs.length = zs.length := by
      have := congrArg List.length e2
      simpa using this
    refine ⟨hp', kvs, rfl, by rw [hlen, ← hk]; exact h15, ?_⟩
    rw [mergeK_new (acc := []) hnd, List.nil_append]
    obtain ⟨l1, l2⟩ := as'
    have e3 : l2 = q :: as.hs := s.hid
    subst e3
    have k2 : StOk X.K ca (Wl.hide ⟨l1, as.hs⟩ q) H' st' := k
    have k3 := k2.grow (o := .dK kvs)
    have nq : q ∉ l1 := (k2.hid q List.mem_cons_self).1
    refine hp (.ref q) ⟨l1, as.hs⟩ _ ⟨s.pre, rfl, fun a ha hna => ?_, fun a o hna ea => ?_⟩ k3.unhide ?_
    · have e := s.new a ha hna
      by_cases ha2 : a = q
      · exact absurd (ha2 ▸ ha) nq
      · rw [upd_ne ha2] at e
        exact e
    · have ha2 : a ≠ q := fun z => by rw [z, hq] at ea; cases ea
      rw [upd_ne ha2]
      exact s.keep a o hna (by rw [upd_ne ha2]; exact ea)
    · refine .dic (kvs := kvs) (by rw [stab_out (as := ⟨l1, as.hs⟩) nq (hs.freeH hq), upd_same]) rfl rfl ?_ (IsDs.ext (as := Wl.hide ⟨l1, as.hs⟩ q) (as' := ⟨l1, as.hs⟩) (List.prefix_refl _) unhide_ext (IsDs.ext (as := Wl.hide ⟨l1, as.hs⟩ q) (as' := Wl.hide ⟨l1, as.hs⟩ q) (List.prefix_refl _) grow_ext i2))
      have e4 : kvs.map (fun x => kV x.1) = zs.map V.str := by
        have := congrArg (List.map kV) e2
        rw [List.map_map, List.map_map] at this
        exact this
      rw [e4]
      exact strsD_is zs
  · exact hp.elim
end
/-- d[text], d a dict that stands still -/
def getQ : List D → List D → Str → Option D
  | .str k :: ks, d :: ds, z => if k = z then some d else getQ ks ds z
  | _, _, _ => none
def oQIx (x i : D) (st : Sta) : Option (R D) := match x, i with
  | .dic ks ds, .str z => (match getQ ks ds z with | some d => ret d st | none => none)
  | _, _ => none
section
variable {K : PySem.W.Frag} {ca : Ca} {as : Wl} {G : Hp}
theorem getQ_is : ∀ {kvs : List (Key × V)} {ks ds : List D} {z : Str} {d : D}, IsDs K ca as G (kvs.map fun x => kV x.1) ks → IsDs K ca as G (kvs.map (·.2)) ds → getQ ks ds z = some d → ∃ v, valV kvs (Sum.inr z) = some v ∧ IsD K ca as G v d
  | [], _, _, _, _, h, _, e => by
    cases h
    unfold getQ at e
    cases e
  | (k, v) :: r, _, _, z, d, h, h', e => by
    cases h with
    | cons h1 h2 =>
      cases h' with
      | cons h3 h4 =>
        cases k with
        | inl i =>
          have h1 : IsD K ca as G (.int i) _ := h1
          cases h1
          unfold getQ at e
          cases e
        | inr x =>
          have h1 : IsD K ca as G (.str x) _ := h1
          cases h1
          unfold getQ at e
          by_cases hz : x = z
          · rw [if_pos hz] at e
            cases e
            subst hz
            exact ⟨v, valV_pos rfl, h3⟩
          · rw [if_neg hz] at e
            rw [valV_neg (show ¬ (Sum.inr x : Key) = Sum.inr z from fun q => hz (Sum.inr.inj q))]
            exact getQ_is h2 h4 e
end
section
variable {ca : Ca} {X : Cx} {W : WX} {o i : Expr} {fo fi : F D} {pos : Pos}
theorem je_qget (hu : X.A.units + 1 < cLine) (ho : JE ca X W o fo) (hi : JE ca X W i fi) (hs : NoSl i := by exact fun _ _ => rfl) : JE ca X W (.Subscript o i pos) (f2 oQIx fo fi) := by
  obtain ⟨t1, p1, q1⟩ := ho
  obtain ⟨t2, p2, q2⟩ := hi
  refine ⟨_, pe_dget hu p1 p2 hs, fun as H σ env st Q he hs hp => ?_⟩
  refine q1 as H σ env st _ he hs (Post.bnd hp fun x st1 v as1 H1 s1 k1 i1 r1 => ?_)
  refine q2 as1 H1 σ env st1 _ (he.step s1) k1 (Post.bnd r1 fun y st2 u as2 H2 s2 k2 i2 r2 => ?_)
  have i1' := i1.step s2
  unfold oQIx at r2
  split at r2
  · rename_i ks ds z
    cases i2
    cases i1' with
    | dic h1 h2 h3 h4 h5 =>
      rename_i a kvs kv vs
      subst h2 h3
      cases eg : getQ ks ds z with
      | none => rw [eg] at r2; exact r2.elim
      | some d =>
        rw [eg] at r2
        obtain ⟨w, ew, iw⟩ := getQ_is h4 h5 eg
        exact ⟨a, w, rfl, .inl ⟨kvs, Sum.inr z, .inl (stab_some h1).2.2, rfl, ew.symm⟩, r2.here k2 iw⟩
  · exact r2.elim
end
/-! ### an expression whose value is dropped, a changed list looked at as it stands -/
def sFrzD (i : Nat) (fe : F D) : FS := fun env st => match env[i]? with
  | some (some (.cell k)) => (match st[k]? with
    | some (.lst ds) => if pls 0 ds = true then (match fe ((envShut env).set i (some (.lst ds))) [] with
        | some (.ok _ []) => some (.nx env, st)
        | _ => none) else none
    | _ => none)
  | _ => none
section
variable {ca : Ca} {X : Cx} {W : WX} {e : Expr} {fe : F D} {pos : Pos}
theorem js_frzD (i : Nat) (h : JE ca X W e fe) (hs : swapsWith e none pos.line X.env = pure false := by rfl) : JS ca X W (.Expr e pos) (sFrzD i fe) := by
  obtain ⟨te, pe, qe⟩ := h
  refine ⟨_, ps_expr pe hs, fun as H σ env st E henv hst hp => ?_⟩
  unfold sFrzD at hp
  split at hp
  · rename_i k ei
    split at hp
    · rename_i ds ek
      split at hp
      · rename_i hpl
        obtain ⟨v, ev, iv⟩ := henv.at_ i _ ei
        cases iv with
        | @cell a _ ha =>
          have ham : a ∈ as.as := List.mem_of_getElem? ha
          have hah : a ∉ as.hs := fun z => (hst.hid a z).1 ham
          have c := hst.at_ k a _ ha ek
          cases hq : H a with
          | none => rw [hq] at c; exact c.elim
          | some u =>
            rw [hq] at c
            cases u <;> first | exact False.elim c | skip
            rename_i xs
            have c' : IsDs X.K ca as (stab as H) xs ds := c
            have ex1 : Ext (stab as H) (stab (shut as a) H) := fun b u h => by
              obtain ⟨h1, h2, h3⟩ := stab_some h
              rw [stab_out (as := shut as a) (List.not_mem_nil) (shut_nm (.inl h1) h2)]
              exact h3
            have vis : stab (shut as a) H a = some (.lst xs) := by
              rw [stab_out (as := shut as a) (List.not_mem_nil) (shut_nm (.inr rfl) hah)]
              exact hq
            have kst : StOk X.K ca (shut as a) H [] := by
              refine ⟨List.nodup_nil, rfl, fun b hb => ⟨List.not_mem_nil, ?_⟩, fun k b c e1 e2 => by simp at e2⟩
              rcases List.mem_append.mp hb with hb | hb
              · exact hst.alloc (List.mem_filter.mp hb).1
              · exact (hst.hid b hb).2
            have en0 : EnvOk X.K ca (shut as a) (stab (shut as a) H) σ (envShut env) := by
              refine ⟨by unfold envShut; rw [List.length_map]; exact henv.len, fun j d e => ?_⟩
              unfold envShut at e
              rw [List.getElem?_map] at e
              cases q : env[j]? with
              | none => rw [q] at e; cases e
              | some o =>
                rw [q] at e
                cases o with
                | none => cases e
                | some d' =>
                  simp only [Option.map_some, Option.bind_some, Option.some.injEq] at e
                  split at e
                  · rename_i hpl
                    cases e
                    obtain ⟨v, e1, i1⟩ := henv.at_ j _ q
                    exact ⟨v, e1, i1.any (Sub.of_ext ex1) hpl⟩
                  · cases e
            have en1 : EnvOk X.K ca (shut as a) (stab (shut as a) H) σ ((envShut env).set i (some (.lst ds))) := by
              refine ⟨by rw [List.length_set]; exact en0.len, fun j d e => ?_⟩
              by_cases hj : i = j
              · subst hj
                have hl : i < (envShut env).length := by
                  have := (List.getElem?_eq_some_iff.mp ei).1
                  unfold envShut
                  rw [List.length_map]
                  exact this
                rw [List.getElem?_set_self hl] at e
                cases e
                exact ⟨_, ev, .lst vis (c'.any (Sub.of_ext ex1) hpl)⟩
              · rw [List.getElem?_set_ne hj] at e
                exact en0.at_ j d e
            have stepF : ∀ {H' : Hp}, (∀ b o, b ∉ ([] : List Addr) → H b = some o → H' b = some o) → Step as H as H' := fun k => ⟨List.prefix_refl _, rfl, fun _ h n => (n h).elim, fun b o _ e => k b o List.not_mem_nil e⟩
            have kF : ∀ {H' : Hp}, (∀ b o, b ∉ ([] : List Addr) → H b = some o → H' b = some o) → Step as H as H' → StOk X.K ca as H' st := fun {H'} kk sH => by
              refine ⟨hst.nd, hst.len, hst.hidS sH, fun j b c e1 e2 => ?_⟩
              obtain ⟨o, e⟩ := hst.alloc (List.mem_of_getElem? e1)
              rw [kk b o List.not_mem_nil e, ← e]
              exact (hst.at_ j b c e1 e2).ext (List.prefix_refl _) sH.ext
            split at hp
            · rename_i d er
              refine qe (shut as a) H σ _ [] _ en1 kst ?_
              rw [er]
              intro v' as' H' s' k' i'
              have sH := stepF s'.keep
              exact hp σ as H' sH (kF s'.keep sH) (henv.step sH)
            · exact hp.elim
      · exact hp.elim
    · exact hp.elim
  · exact hp.elim
end
end DS
namespace HK
open PySem PySem.Spec PyProof.Rows L2 He DS
/-! ### a table known whole, from the head -/
def entsB (es : List DictEntry) (kvs : List (Str × Int)) : Bool := match es, kvs with
  | [], [] => true
  | e :: es, (k, i) :: kvs => (match e.key, e.val with
    | .str x _, .int j _ => decide (x = k) && decide (j = i)
    | _, _ => false) && entsB es kvs
  | _, _ => false
def tblB (K : PySem.W.Frag) (a : Addr) (kvs : List (Str × Int)) : Bool := match K.lookup a with
  | some ⟨_, _, .dict es _, _⟩ => entsB es.toList kvs
  | _ => false
theorem ents_ok : ∀ {es : List DictEntry} {kvs : List (Str × Int)}, entsB es kvs = true → ∀ z, (es.any (·.refKey) = false) ∧ match kvs.lookup z with
    | some i => ∃ t e, es.find? (·.key.isStr z) = some e ∧ e.val = .int i t
    | none => es.find? (·.key.isStr z) = none
  | [], [], _, _ => ⟨rfl, rfl⟩
  | [], _ :: _, h, _ => by cases h
  | _ :: _, [], h, _ => by cases h
  | e :: es, (k, i) :: kvs, h, z => by
    unfold entsB at h
    obtain ⟨h1, h2⟩ := ba h
    obtain ⟨g1, g2⟩ := ents_ok h2 z
    obtain ⟨eh, ek, ev⟩ := e
    cases ek with
    | str x t =>
      cases ev with
      | int j t' =>
        obtain ⟨h3, h4⟩ := ba (show (decide (x = k) && decide (j = i)) = true from h1)
        have h3 := of_decide_eq_true h3
        have h4 := of_decide_eq_true h4
        subst h3 h4
        refine ⟨by rw [List.any_cons, g1]; rfl, ?_⟩
        rw [List.lookup_cons, List.find?_cons]
        by_cases hz : z = x
        · subst hz
          have e3 : (Value.str z t).isStr z = true := beq_self_eq_true z
          simp only [e3, beq_self_eq_true]
          exact ⟨t', _, rfl, rfl⟩
        · have e3 : (Value.str x t).isStr z = false := beq_false_of_ne (fun q => hz q.symm)
          have e4 : (z == x) = false := beq_false_of_ne hz
          simp only [e3, e4]
          exact g2
      | _ => cases h1
    | _ => cases h1
theorem tblB_ok {K : PySem.W.Frag} {a : Addr} {kvs : List (Str × Int)} (h : tblB K a kvs = true) (z : Str) : ∃ r, PySem.W.nsIn K a z = some r ∧ match kvs.lookup z with | some i => ∃ t, r = some (.int i t) | none => r = none := by
  unfold tblB at h
  split at h
  · rename_i c d es n sl q
    obtain ⟨g1, g2⟩ := ents_ok h z
    unfold PySem.W.nsIn
    rw [q]
    cases e : kvs.lookup z with
    | some i =>
      rw [e] at g2
      obtain ⟨t, en, h1, h2⟩ := g2
      dsimp only
      rw [h1]
      exact ⟨_, rfl, t, by rw [h2]⟩
    | none =>
      rw [e] at g2
      dsimp only at g2 ⊢
      rw [g2, g1]
      exact ⟨none, rfl, rfl⟩
  · cases h
end HK

/-! exceptions whose context is known to be None: a clause of two classes, whose suite raises .. from None -/
namespace DS
open PySem L2 PySem.Spec PyProof.Rows
/-! ### heaps that only grow under a landed exception -/
theorem fly_keep {h h' B : Heap} {l : List Env} {a : Addr} {Z : Obj → Prop} (k : ∀ b o, h.get? b = some o → h'.get? b = some o) (x : HandSPX.FlyingZ B l a Z h) : HandSPX.FlyingZ B l a Z h' := by
  obtain ⟨f1, f2, f3, oe, vs, T, oT, ts, he, hz, hd, h1, hnT, hTe, hT, hdT, h3⟩ := x
  exact ⟨fun b o e => k b o (f1 b o e), f2, Heap.FunFrames.of_keeps (fun b o e _ => ⟨o, k b o e, rfl⟩) f3, oe, vs, T, oT, ts, k _ _ he, hz, hd, h1, hnT, hTe, k _ _ hT, hdT, h3⟩
/-- the test of a clause: which of the classes cs it takes, where nothing but new things is laid -/
def TstOk (X : Cx) (t : Expr) (cs : List Value) : Prop := ∀ (a : Addr) (oe : Obj) (pn : List (Addr × Obj)) (σ : L2.St) (H : Hp) (s : Shared) (cls : Value) (b : Bool) (Q : Bool → Shared → Prop) (E : Value → Shared → Prop),
  Inv (X.suite a ((a, oe) :: pn)) [] σ H s → PySem.W.Looks (model X.prog X.w) s.heap (typeOf (.ref a)) cls → PySem.W.exmAny X.K cls cs = some b → (∀ h', (∀ q o, s.heap.get? q = some o → h'.get? q = some o) → Q b { s with heap := h' }) →
  wpAny (model X.prog X.w) (X.A.mark (some (.ref a))) (eval t X.env) (fun c s₁ => wpAny (model X.prog X.w) (X.A.mark (some (.ref a))) (excMatches (.ref a) c) Q E s₁) E s
theorem tst_two {X : Cx} {x1 x2 : Str} {u1 u2 : Addr} {p1 p2 tpos : Pos} {kk : Nat} (m1 : X.mg x1 = some (.ref u1)) (m2 : X.mg x2 = some (.ref u2)) (g1 : Gl X x1 := by rfl) (g2 : Gl X x2 := by rfl) (d1 : (x1 == ("__debug__" : Str)) = false := by decide) (d2 : (x2 == ("__debug__" : Str)) = false := by decide)
    (e1 : starEach [.Name x1 p1, .Name x2 p2] X.env = (false, eval (.Name x1 p1) X.env) :: starEach [.Name x2 p2] X.env := by rfl) (e2 : starEach [.Name x2 p2] X.env = (false, eval (.Name x2 p2) X.env) :: starEach [] X.env := by rfl) :
    TstOk X (.Tuple [.Name x1 p1, .Name x2 p2] kk tpos) [.ref u1, .ref u2] := fun a oe pn σ H s cls b Q E I LT he q => by
  refine wpAny_Tuple ?_
  refine wpAny_items_cons (ld_glob (X := X.suite a ((a, oe) :: pn)) I g1 m1 ?_ d1) e1
  refine wpAny_items_cons (ld_glob (X := X.suite a ((a, oe) :: pn)) I g2 m2 ?_ d2) e2
  refine wpAny_items_nil ⟨by show 2 ≤ sizeLine; rw [sizeLine_eq]; omega, ?_⟩
  have kp : ∀ q o, s.heap.get? q = some o → (s.heap.push { cls := .type "tuple", data := .seq [Value.ref u1, Value.ref u2].toArray }).get? q = some o := fun _ _ z => Heap.get?_push_of_some _ z
  exact (PySem.W.exm_tup2 (I.kIn.keeps kp) (LT.keeps kp) (Heap.get?_push_size s.heap rfl) he).here (q _ kp)
/-- what the clause wishes of an exception of the body -/
def wOf (K : PySem.W.Frag) (cs : List Value) (ts : Addr → Value → Option Addr → TS) (Wout : WX) (D : Ends) : WX := fun cls d σ H =>
  ∃ b, PySem.W.exmAny K cls cs = some b ∧ (b = true → ∀ a, H a = none → ts a cls d D σ H) ∧ (b = false → Wout cls d σ H)
section
variable {X : Cx} {t : Expr} {cs : List Value} {body suite : List Stmt} {b₀ : Stmt} {pos pos' : Pos} {tb : WX → TS} {ts : Addr → Value → Option Addr → TS} {Wout : WX}
/-- one clause without a name, whose suite may raise; the body's exceptions bear no context -/
theorem ps_tryN (hs : X.stack = X.env :: X.outer) (hf : X.env.frame = some X.env.locals) (ht : TstOk X t cs) (hpa : ∀ hd : Option Value, PassesOwnAt (model X.prog X.w) (X.A.mark hd) X.A X.env X.xe) (tk : L2.Takes X Wout)
    (hb : ∀ (W : WX) (pn : List (Addr × Obj)) (xe : Value → Shared → Prop), L2N.Takes (X.tr pn xe) W → PassesOwn (model X.prog X.w) X.A X.env xe → PSs (X.tr pn xe) body (tb W))
    (hsu : ∀ (a : Addr) (oe : Obj) (cls : Value) (d : Option Addr) (pn : List (Addr × Obj)), L2N.Zn cls d oe → L2.Takes (L2H.suiteX X a ((a, oe) :: pn)) Wout → L2H.HotC (L2H.suiteX X a ((a, oe) :: pn)) →
      PSs (L2H.suiteX X a ((a, oe) :: pn)) (b₀ :: suite) (ts a cls d)) :
    PS X (.Try body [.ExceptHandler (some t) none (b₀ :: suite) pos'] [] [] pos) (fun D σ H => tb (wOf X.K cs ts Wout D) D σ H) := by
  refine ⟨fun pins s σ H D I h => ?_⟩
  have ok := I.ok
  have hfr : X.A.frames = some (X.env :: X.outer) := by rw [ok.frames, hs]
  refine wpAny_Try_except ?_
  refine wpAny_mono ((hb (wOf X.K cs ts Wout D) (X.pn ++ pins) (fun e s₁ => wpAny (model X.prog X.w) X.A (noteFrame e X.env) (fun _ s₂ => wpAny (model X.prog X.w) X.A (setFlight e none) (fun _ s₃ =>
    wpAny (model X.prog X.w) X.A (handleBy e X.env [.ExceptHandler (some t) none (b₀ :: suite) pos']) (SP X pins D) X.xe s₃) X.xe s₂) X.xe s₁) ?_ PassesOwn.looking).run [] s σ H D (I.toTry _) h) ?_ fun e s1 he => he
  · rintro u s' ⟨a, B, sI, pins', σ', H', cls, d, rfl, J', nb, up, sky, na, os, ag, b, hb1, hyes, hno⟩
    have J : Inv X pins σ' H' sI := J'.ofTry ok
    refine L2N.Sky.land (L := X.env.locals) (Z := L2N.Zn cls d) L2N.Zn.steady hfr hf (by rw [← hs]; exact sky) fun h3 fl3 up3 => ?_
    have u3 := up.trans up3
    have J3 : Inv X pins σ' H' { s' with heap := h3 } := J.landed nb fl3.1 u3 os ag
    obtain ⟨oe3, vs3, he3, hz3, hd3⟩ := fl3.there
    have nfr : a ∉ frs (X.env :: X.outer) := fun hm => by
      obtain ⟨_, o', e', hnf⟩ := fl3.2.2.1.mem hm
      rw [he3] at e'
      cases e'
      exact hnf _ hd3
    have nL : a ≠ X.env.locals := fun z => nfr (List.mem_filterMap.mpr ⟨X.env, List.mem_cons_self, by rw [hf, z]⟩)
    have nF : a ∉ X.fs := fun hm => by
      obtain ⟨e, he, q⟩ := List.mem_filterMap.mp hm
      exact nfr (List.mem_filterMap.mpr ⟨e, List.mem_cons_of_mem _ he, q⟩)
    refine wpAny_handleBy_cons (codeAny_handlers_test ?_) (by intro q; cases q)
    refine ht a oe3 (X.pn ++ pins) σ' H' { s' with heap := h3 } cls b _ _ (J3.suite he3 hd3 na nL nF) (fun A Q E s k q => wpAny_typeOf_ref (k _ _ he3) (by rw [hz3.1]; exact q)) hb1 fun h5 kp => ?_
    have fl5 := fly_keep kp fl3
    have u5 := u3.trans (Heap.UpToSlots.of_keeps kp)
    cases b with
    | true =>
      refine codeAny_handlers_suite ?_
      refine HandSPX.lands_againZ (s := { s' with heap := h5 }) fl5 fun h4 fl4 up4 => ?_
      have J4 : Inv X pins σ' H' { s' with heap := h4 } := J.landed nb fl4.1 (u5.trans up4) os ag
      obtain ⟨oe4, vs4, he4, hz4, hd4⟩ := fl4.there
      have S4 := J4.suite he4 hd4 na nL nF
      have tkS : L2.Takes (L2H.suiteX X a ((a, oe4) :: (X.pn ++ pins))) Wout := fun u2 s2 x2 => by
        obtain ⟨a2, B2, sI2, pn2, σ2, H2, cls2, d2, e2, I2, r2⟩ := x2
        exact tk u2 s2 ⟨a2, B2, sI2, pins, σ2, H2, cls2, d2, e2, L2H.unsuiteX I2 ok, r2⟩
      have hot : L2H.HotC (L2H.suiteX X a ((a, oe4) :: (X.pn ++ pins))) := ⟨(a, oe4), ⟨rfl, vs4, hd4, hz4.2.2 vs4 hd4⟩, List.mem_cons_self⟩
      refine wpAny_mono ((hsu a oe4 cls d (X.pn ++ pins) hz4 tkS hot).run [] _ _ H' _ (L2H.suiteX_of S4) (hyes rfl a na)) ?_ fun e6 s6 z => hpa (some (.ref a)) e6 s6 z
      intro f s6 hsp
      cases f with
      | next => exact hsp.imp fun σ6 hsp => hsp.imp fun H6 hsp => ⟨L2H.unsuiteX hsp.1 ok, hsp.2⟩
      | brk => exact hsp.imp fun σ6 hsp => hsp.imp fun H6 hsp => ⟨L2H.unsuiteX hsp.1 ok, hsp.2⟩
      | cont => exact hsp.imp fun σ6 hsp => hsp.imp fun H6 hsp => ⟨L2H.unsuiteX hsp.1 ok, hsp.2⟩
      | ret u => exact hsp.imp fun v6 hsp => hsp.imp fun σ6 hsp => hsp.imp fun H6 hsp => ⟨L2H.unsuiteX hsp.1 ok, hsp.2⟩
    | false =>
      show wpAny _ X.A (handleBy (.ref a) X.env []) _ _ _
      refine wpAny_handleBy_nil ?_
      obtain ⟨k1, k2, k3, oe, vs, T, oT, ts', he, hz, hd, h1, hr⟩ := id fl5
      unfold PySem.passOn
      refine wpAny_bind (wpAny_field he hd h1 ?_)
      rw [if_neg (show ¬ ((Value.ref T == Value.none) = true) from by simp)]
      have fin : wpAny (model X.prog X.w) X.A (setFlight (.ref a) X.env.frame) (fun _ s4 => wpAny (model X.prog X.w) X.A (throw (.ref a) : Sem Flow) (SP X pins D) X.xe s4) X.xe { s' with heap := h5 } := by
        rw [hf]
        refine HandSPX.setFlight_upZ (s := { s' with heap := h5 }) (L2H.flyingZ_imp (fun o z => z.zc) fl5) fun h4 hh4 up4 => wpAny_throw (tk _ _ ?_)
        exact ⟨a, B, sI, pins, σ', H', cls, d, rfl, J, nb, u5.trans up4, .inr (.inr (by rw [hs]; exact hh4)), na, os, ag, hno rfl⟩
      first
        | exact wpAny_bind (wpAny_pure (wpAny_bind fin))
        | exact wpAny_bind fin
  · intro f s1 hsp
    cases f with
    | next => obtain ⟨σ', H', J', q⟩ := hsp; exact wpAny_execs_nil ⟨σ', H', J'.ofTry ok, q⟩
    | brk => exact hsp.imp fun σ6 hsp => hsp.imp fun H6 hsp => ⟨hsp.1.ofTry ok, hsp.2⟩
    | cont => exact hsp.imp fun σ6 hsp => hsp.imp fun H6 hsp => ⟨hsp.1.ofTry ok, hsp.2⟩
    | ret u => exact hsp.imp fun v6 hsp => hsp.imp fun σ6 hsp => hsp.imp fun H6 hsp => ⟨hsp.1.ofTry ok, hsp.2⟩
end
/-! ### a def whose exceptions bear no context -/
structure DefOkN (P : Program) (w : World) (K : PySem.W.Frag) (mg : Str → Option Value) (base : Heap) (ca : Ca) (k : Nat) (x : Str) (ps : List Str) (Fm : List D → Sta → Option (R D)) : Prop where
  ex : ∃ f fd, FnOk P w K mg base (L2N.CX P w) k f fd ps (spD K ca ps.length Fm) ∧ mg x = some (.ref f) ∧ PySem.W.keepIn K (.ref f) = true ∧ Binds K fd ps []
section
variable {P : Program} {w : World} {K : PySem.W.Frag} {mg : Str → Option Value} {base : Heap} {ca : Ca}
theorem fn_bodyN {x qual : Str} {st : Stmt} {f : Addr} {fd : FuncData} {N ps : List Str} {k : Nat} {fb : FS} (Fn : L2.Fun K x qual st f fd) (S : FnScope N ps (defScope st))
    (hb : ∀ (cdv : Value) (A : Around) (outer : List Env) (s : Shared) (H : Hp) (E : XK), Room k (A.deeper (envOfC qual (defScope st) s.heap.objs.size f cdv)) → L2N.Takes (cxOf (L2N.CX P w) P w K mg base N qual (defScope st) f cdv A outer s H E) (fun c d _ H => E c d H) →
      PassesOwn (model P w) (A.deeper (envOfC qual (defScope st) s.heap.objs.size f cdv)) (envOfC qual (defScope st) s.heap.objs.size f cdv) (cxOf (L2N.CX P w) P w K mg base N qual (defScope st) f cdv A outer s H E).xe →
      JB ca (cxOf (L2N.CX P w) P w K mg base N qual (defScope st) f cdv A outer s H E) (fun c d _ H => E c d H) (defBody st) fb) :
    FnOk P w K mg base (L2N.CX P w) (k + 1) f fd ps (spD K ca ps.length (fnF N.length fb)) := by
  obtain ⟨oc, od, kV, doc, pm, an, cdv, ct, osl, rfl, lk, hcd⟩ := Fn.ex
  refine fn_of lk hcd S (fun vs H Q E ⟨as, st, ds, h1, _, h2, _⟩ => h1.len.trans h2) fun A outer s H vs Q E hr ⟨as, sta, ds, h1, h2, h3, h4⟩ => ?_
  obtain ⟨t, p, q⟩ := hb cdv A outer s H E hr (L2N.takes_of rfl rfl rfl rfl) (passes_of rfl)
  exact ⟨t, p, q as H _ _ sta _ (env_start h1) h2 (end_is h2 (fun _ _ _ _ z => z) h4)⟩
end
section
variable {ca : Ca} {X : Cx} {W : WX} {e : Expr} {es : List Expr} {fs : F (List D)} {fa : F D} {pos p : Pos} {x : Str} {k j : Nat} {ps : List Str} {Fm : List D → Sta → Option (R D)}
theorem je_callN {n : Nat} (Fn : DefOkN X.prog X.w X.K X.mg X.base ca k x ps Fm) (hr : Room j X.A) (hk : k ≤ j) (tk : L2N.Takes X W) (ha : JA ca X W (e :: es) fs) (hn : ps.length = n := by rfl) (hg : Gl X x := by rfl) (hd : (x == ("__debug__" : Str)) = false := by decide) (h1 : starEach (e :: es) X.env = (false, eval e X.env) :: starEach es X.env := by rfl)
    (h2 : ((backTo pos (starEach es X.env)).any fun x => x.1) = false := by rfl) : JE ca X W (.Call (.Name x p) (e :: es) [] pos) (fN (oCall n Fm) fs) := by
  subst hn
  obtain ⟨f, fd, F, hm, hkp, hb⟩ := Fn.ex
  obtain ⟨ta, pa, sa⟩ := ha
  refine ⟨_, pe_callS F (hr.mono hk) hg hm hkp hb (fun σ => L2N.passAt tk σ) pa hd h1 h2, fun as H σ env st Q he hs hp => ?_⟩
  refine sa as H σ env st _ he hs (Post.bnd hp fun xs st1 vs as1 H1 s1 k1 i1 p1 => ?_)
  unfold oCall at p1
  by_cases hl : xs.length = ps.length
  · rw [if_pos hl] at p1
    exact ⟨as1, st1, xs, i1, k1, hl, post_fn p1⟩
  · rw [if_neg hl] at p1
    exact p1.elim
/-- an expression that raises nothing -/
def fCalm (fa : F D) : F D := fun env st => match fa env st with
  | some (.ok d st') => some (.ok d st')
  | _ => none
theorem je_calm (h : JE ca X W0 e fa) : JE ca X W e (fCalm fa) := by
  obtain ⟨t, pt, q⟩ := h
  refine ⟨t, pt, fun as H σ env st Q he hs hp => q as H σ env st Q he hs ?_⟩
  unfold fCalm at hp
  cases r : fa env st with
  | none => rw [r] at hp; exact hp.elim
  | some o =>
    rw [r] at hp
    cases o with
    | ok d st' => exact hp
    | err c fs st' => exact hp.elim
theorem js_raise0N {c : Nat} {m : Str} {j : Nat} {p2 pos' : Pos} (T : HK.Rao X.K X.mg (ca c) x) (hc : X.calm = true) (tk : L2N.Takes X W) (hg : Gl X x := by rfl) (hdb : (x == ("__debug__" : Str)) = false := by decide) :
    JS ca X W (.Raise (some (.Call (.Name x p) [.Constant (.str m) j p2] [] pos)) none pos') (sRaise c) :=
  ⟨_, L2N.ps_raise hc tk (L2N.pmk_own F.excBase_ValueError T.ei T.mg T.kp (raises_own T.sb T.ty) hg hdb), fun as H σ env st E henv hst hp => hp _ _ σ as H (Step.refl _ _) hst henv ⟨rfl, .inl ⟨rfl, rfl⟩⟩⟩
end
/-! ### raise C(..) from None in a suite -/
structure RaiHOk (P : Program) (w : World) (K : PySem.W.Frag) (mg : Str → Option Value) (base : Heap) (ca : Ca) (c : Nat) (x : Str) (ns : List Str) : Prop where
  ex : ∃ fi fd ps, OexC K (ca c) ∧ PySem.W.findIn K (.ref (ca c)) "__init__" = some (some (.ref fi)) ∧ PySem.W.typeIn K (.ref fi) = some (.type "function") ∧ L2H.FnH P w K mg base (L2.CX P w) 1 fi fd ps (spI K ns) ∧ mg x = some (.ref (ca c)) ∧ Binds K fd ps [] ∧ ∀ f ∈ ns, PySem.W.findIn K (.ref (ca c)) f = some none
section
variable {P : Program} {w : World} {K : PySem.W.Frag} {mg : Str → Option Value} {base : Heap}
theorem init1H {x qual p g : Str} {st : Stmt} {f : Addr} {fd : FuncData} {p1 p2 p3 p4 : Pos} (Fn : L2.Fun K x qual st f fd) (S : FnScope ["self", p] ["self", p] (defScope st)) (hb : defBody st = [.Assign [.Attribute (.Name "self" p1) g p2] (.Name p p3) p4])
    (hd : (p == ("__debug__" : Str)) = false := by decide) (hcd : (p == ("__classdict__" : Str)) = false := by decide)
    (hs : ∀ (cdv : Value) (a : Addr) (L : Addr), swapsWith (.Name p p3) (some (.Attribute (.Name "self" p1) g p2)) p4.line (envOfC qual (defScope st) L a cdv) = pure false := by intros; rfl) (hv : Vis (defScope st) p := by first | exact Or.inl rfl | exact Or.inr (Or.inl rfl)) (hv0 : Vis (defScope st) "self" := by first | exact Or.inl rfl | exact Or.inr (Or.inl rfl)) :
    L2H.FnH P w K mg base (L2.CX P w) 1 f fd ["self", p] (spI K [g]) := by
  obtain ⟨oc, od, kV, doc, pm, an, cdv, ct, osl, rfl, lk, hcd'⟩ := Fn.ex
  refine L2H.fn_ofH lk hcd' S (fun vs H Q E ⟨a, C, ws, e, l, _⟩ => by subst e; simpa using l) fun A outer s H vs Q E pp hot hr ⟨a, C, ws, e, l, T, hno, ha, q⟩ => ?_
  subst e
  obtain ⟨v, rfl⟩ : ∃ v, ws = [v] := by
    cases ws with
    | nil => cases l
    | cons v r =>
      cases r with
      | nil => exact ⟨v, rfl⟩
      | cons _ _ => cases l
  rw [hb]
  refine ⟨_, pss_one (ps_ost (pe_var (i := 0) rfl hv0) (pe_var (i := 1) rfl hv hd hcd) (hs _ _ _)), ?_⟩
  exact ⟨v, rfl, .ref a, rfl, a, C, rfl, T, hno g (by simp), .inl ⟨ha, fun dx n ne => q dx n ne⟩⟩
end
section
variable {ca : Ca} {X : Cx} {W : WX} {e : Expr} {es : List Expr} {fs : F (List D)} {p pos pos' cpos : Pos} {c j : Nat} {x : Str} {ns : List Str}
theorem js_raiseFN {jj} (T : RaiHOk X.prog X.w X.K X.mg X.base ca c x ns) (hr : L2H.RoomH 2 X.A) (hc : L2H.HotC X) (tk : L2.Takes X W) (ha : JA ca X W (e :: es) fs) (hn : ns.length ≤ 1000 := by decide) (hg : Gl X x := by rfl) (hdb : (x == ("__debug__" : Str)) = false := by decide) (he : starEach (e :: es) X.env = (false, eval e X.env) :: starEach es X.env := by rfl) (hpl : (backTo pos (starEach es X.env)).any (·.1) = false := by rfl) :
    JS ca X W (.Raise (some (.Call (.Name x p) (e :: es) [] pos)) (some (.Constant .none jj cpos)) pos') (sRaiseI c ns fs) := by
  obtain ⟨ta, pa, sa⟩ := ha
  obtain ⟨fi, fd, ps, T1, T2, T3, T4, T5, T6, T7⟩ := T.ex
  refine ⟨_, L2H.ps_raiseHN hc tk (L2H.pmk5_oexH T1 T2 T3 T4 hr hc T6 (passes_call (E := fun _ _ _ => False) (W := fun _ _ _ _ => False) takes0 (fun _ _ _ _ z => z)) hg T5 pa hdb he hpl), fun as H σ env st E henv hst hp => ?_⟩
  refine sa as H σ env st _ henv hst (PostS.bnd hp henv fun xs st1 vs as1 H1 s1 k1 i1 p1 => ?_)
  by_cases hl : xs.length = ns.length
  · rw [if_pos hl] at p1
    have hv : vs.length = ns.length := i1.len.trans hl
    refine ⟨by omega, fun a na => ?_⟩
    refine ⟨a, ca c, vs, by rw [List.append_nil], hv, T1, T7, upd_same, fun dx n ne => ?_⟩
    have nd : H1 dx = none := by rw [upd_ne ne] at n; exact n
    refine ⟨rfl, dx, _, upd_same, by rw [upd_ne ne, upd_same], nd, ?_⟩
    have e : upd (del (upd (upd (upd H1 a (exo a (ca c) none)) dx (exd dx (ns.zip vs).reverse)) a (exo a (ca c) (some dx))) a) dx (.xd (ns.zip vs).reverse) = upd H1 dx (.xd (ns.zip vs).reverse) := by
      funext b
      by_cases h1 : b = dx
      · subst h1; rw [upd_same, upd_same]
      · rw [upd_ne h1, upd_ne h1]
        by_cases h2 : b = a
        · subst h2; rw [del_same, na]
        · rw [del_ne h2, upd_ne h2, upd_ne h1, upd_ne h2]
    rw [e]
    exact p1 _ _ σ as1 _ (Step.laid nd) (k1.laid nd) ((henv.step s1).step (Step.laid nd)) ⟨rfl, .inr ⟨dx, _, rfl, stab_laid k1 nd, isFs_rev (isFs_zip (i1.step (Step.laid nd)))⟩⟩
  · rw [if_neg hl] at p1
    exact p1.elim
/-- try: .. / except (A, B): .. -/
theorem js_tryN {cc1 cc2 : Nat → Option Bool} {f g : FS} {x1 x2 : Str} {body suite : List Stmt} {b₀ : Stmt} {p1 p2 tpos : Pos} {kk : Nat} (hs : X.stack = X.env :: X.outer) (hf : X.env.frame = some X.env.locals)
    (h1 : ∃ u, X.mg x1 = some (.ref u) ∧ ∀ c b, cc1 c = some b → PySem.W.exmOne X.K (.ref (ca c)) (.ref u) = some b) (h2 : ∃ u, X.mg x2 = some (.ref u) ∧ ∀ c b, cc2 c = some b → PySem.W.exmOne X.K (.ref (ca c)) (.ref u) = some b)
    (hpa : ∀ hd : Option Value, PassesOwnAt (model X.prog X.w) (X.A.mark hd) X.A X.env X.xe) (tk : L2.Takes X W)
    (hb : ∀ (W : WX) (pn : List (Addr × Obj)) (xe : Value → Shared → Prop), L2N.Takes (X.tr pn xe) W → PassesOwn (model X.prog X.w) X.A X.env xe → JB ca (X.tr pn xe) W body f)
    (hsu : ∀ (a : Addr) (oe : Obj) (pn : List (Addr × Obj)), L2.Takes (L2H.suiteX X a ((a, oe) :: pn)) W → L2H.HotC (L2H.suiteX X a ((a, oe) :: pn)) → JB ca (L2H.suiteX X a ((a, oe) :: pn)) W (b₀ :: suite) g)
    (g1 : Gl X x1 := by rfl) (g2 : Gl X x2 := by rfl) (d1 : (x1 == ("__debug__" : Str)) = false := by decide) (d2 : (x2 == ("__debug__" : Str)) = false := by decide)
    (e1 : starEach [.Name x1 p1, .Name x2 p2] X.env = (false, eval (.Name x1 p1) X.env) :: starEach [.Name x2 p2] X.env := by rfl) (e2 : starEach [.Name x2 p2] X.env = (false, eval (.Name x2 p2) X.env) :: starEach [] X.env := by rfl) :
    JS ca X W (.Try body [.ExceptHandler (some (.Tuple [.Name x1 p1, .Name x2 p2] kk tpos)) none (b₀ :: suite) pos'] [] [] pos) (sTry (fun c => (cc1 c).bind fun b => (cc2 c).map fun d => b || d) f g) := by
  obtain ⟨u1, m1, q1⟩ := h1
  obtain ⟨u2, m2, q2⟩ := h2
  refine ⟨_, ps_tryN (tb := fun W => tsF X.K ca W f) (ts := fun _ _ _ => tsF X.K ca W g) hs hf (tst_two m1 m2 g1 g2 d1 d2 e1 e2) hpa tk (fun W pn xe t p => jb_canon (hb W pn xe t p)) (fun a oe cls d pn z t h => jb_canon (hsu a oe pn t h)), fun as H σ env st E henv hst hp => ⟨as, env, st, henv, hst, ?_⟩⟩
  unfold sTry at hp
  cases r : f env st with
  | none => rw [r] at hp; exact hp
  | some o =>
    obtain ⟨o, st'⟩ := o
    rw [r] at hp
    cases o with
    | nx env' => exact hp
    | rt d => exact hp
    | bk env' => exact hp
    | ct env' => exact hp
    | er c fs env' =>
      dsimp only at hp
      intro cls dd σ' as' H' s' k' i' j'
      cases e1 : cc1 c with
      | none => rw [e1] at hp; exact hp.elim
      | some b1 =>
        cases e2 : cc2 c with
        | none => rw [e1, e2] at hp; exact hp.elim
        | some b2 =>
          rw [e1, e2] at hp
          have ex : PySem.W.exmAny X.K cls [.ref u1, .ref u2] = some (b1 || b2) := by
            rw [j'.1]
            unfold PySem.W.exmAny PySem.W.exmAny PySem.W.exmAny
            rw [q1 c b1 e1, q2 c b2 e2]
            simp
          dsimp only [Option.bind_some, Option.map_some] at hp
          refine ⟨b1 || b2, ex, fun hb a _ => ?_, fun hb => ?_⟩
          · rw [hb] at hp
            exact ⟨as', env', st', i', k', PostS.step hp s'⟩
          · rw [hb] at hp
            exact hp cls dd σ' as' H' s' k' i' j'
end
end DS
namespace HK
open PySem PySem.Spec PyProof.Rows L2 He DS
theorem initHB_ok {P : Program} {w : World} {K : PySem.W.Frag} {mg : Str → Option Value} {base : Heap} {ca : Ca} {c : Nat} {x : Str} {ns ps : List Str} {fd : FuncData} (h : initB K x ns = true) (hc : ca c = ga K x) (F : L2H.FnH P w K mg base (L2.CX P w) 1 (ma K (ga K x) "__init__") fd ps (spI K ns)) (hm : mg x = some (.ref (ga K x))) (hb : Binds K fd ps []) : RaiHOk P w K mg base ca c x ns := by
  obtain ⟨h1, h⟩ := ba h
  obtain ⟨h2, h⟩ := ba h
  obtain ⟨h3, h4⟩ := ba h
  refine ⟨_, fd, ps, ?_, ?_, of_decide_eq_true h3, F, by rw [hc]; exact hm, hb, ?_⟩
  · rw [hc]; exact oexB_ok h1
  · rw [hc]; exact eqO_ok h2
  · intro f hf
    rw [hc]
    exact eqO_ok (List.all_eq_true.mp h4 f hf)
end HK

/-! several clauses with names -/
namespace DS
open PySem L2 PySem.Spec PyProof.Rows
abbrev ClT := Value × (Addr → Value → Option Addr → TS)
def cutE (D : Ends) (i : Nat) : Ends := { nx := fun σ' H' => D.nx (σ'.set i none) H', rt := D.rt, bk := fun σ' H' => D.bk (σ'.set i none) H', ct := fun σ' H' => D.ct (σ'.set i none) H' }
def wNm (K : PySem.W.Frag) (Wout : WX) (i : Nat) (D : Ends) : List ClT → WX
  | [] => Wout
  | q :: r => fun cls d σ H => ∃ b, PySem.W.exmOne K cls q.1 = some b ∧ (b = true → ∀ a, H a = none → q.2 a cls d (cutE D i) (σ.set i (some (.ref a))) H) ∧ (b = false → wNm K Wout i D r cls d σ H)
inductive ClsOk (X : Cx) (n : Str) : List ExceptHandler → List ClT → Prop
  | nil : ClsOk X n [] []
  | cons {x : Str} {c : Value} {ts : Addr → Value → Option Addr → TS} {b₀ : Stmt} {suite : List Stmt} {np pos' : Pos} {hds : List ExceptHandler} {l : List ClT} (hc : Names X x c)
      (hsu : ∀ (a : Addr) (oe : Obj) (cls : Value) (d : Option Addr) (pn : List (Addr × Obj)), Zc cls d oe → (∃ vs, oe.data = .fields vs) → PSs (X.suite a ((a, oe) :: pn)) (b₀ :: suite) (ts a cls d)) (r : ClsOk X n hds l) :
      ClsOk X n (.ExceptHandler (some (.Name x np)) (some n) (b₀ :: suite) pos' :: hds) ((c, ts) :: l)
section
variable {X : Cx} {n : Str} {i : Nat} {body : List Stmt} {h₀ : ExceptHandler} {hds : List ExceptHandler} {l : List ClT} {pos : Pos} {tb : WX → TS} {Wout : WX}
theorem ps_tryM (hs : X.stack = X.env :: X.outer) (hf : X.env.frame = some X.env.locals) (hN : X.N.Nodup) (hi : X.N[i]? = some n) (hln : X.env.kindOf n = some .local) (tk : Takes X Wout)
    (hb : ∀ (W : WX) (pn : List (Addr × Obj)) (xe : Value → Shared → Prop), Takes (X.tr pn xe) W → PassesOwn (model X.prog X.w) X.A X.env xe → PSs (X.tr pn xe) body (tb W))
    (hh : ClsOk X n (h₀ :: hds) l) : PS X (.Try body (h₀ :: hds) [] [] pos) (fun D σ H => tb (wNm X.K Wout i D l) D σ H) := by
  refine ⟨fun pins s σ H D I h => ?_⟩
  have ok := I.ok
  have hfr : X.A.frames = some (X.env :: X.outer) := by rw [ok.frames, hs]
  refine wpAny_Try_except ?_
  refine wpAny_mono ((hb (wNm X.K Wout i D l) (X.pn ++ pins) (fun e s₁ => wpAny (model X.prog X.w) X.A (noteFrame e X.env) (fun _ s₂ => wpAny (model X.prog X.w) X.A (setFlight e none) (fun _ s₃ =>
    wpAny (model X.prog X.w) X.A (handleBy e X.env (h₀ :: hds)) (SP X pins D) X.xe s₃) X.xe s₂) X.xe s₁) ?_ PassesOwn.looking).run [] s σ H D (I.toTry _) h) ?_ fun e s1 he => he
  · rintro u s' ⟨a, B, sI, pins', σ', H', cls, d, rfl, J', nb, up, sky, na, os, ag, w⟩
    have J : Inv X pins σ' H' sI := J'.ofTry ok
    refine Sky.land (L := X.env.locals) (Z := Zc cls d) Zc.steady hfr hf (by rw [← hs]; exact sky) fun h3 fl3 up3 => ?_
    have u3 := up.trans up3
    have J3 : Inv X pins σ' H' { s' with heap := h3 } := J.landed nb fl3.1 u3 os ag
    obtain ⟨oe3, vs3, he3, hz3, hd3⟩ := fl3.there
    have nfr : a ∉ frs (X.env :: X.outer) := fun hm => by
      obtain ⟨_, o', e', hnf⟩ := fl3.2.2.1.mem hm
      rw [he3] at e'
      cases e'
      exact hnf _ hd3
    have nL : a ≠ X.env.locals := fun z => nfr (List.mem_filterMap.mpr ⟨X.env, List.mem_cons_self, by rw [hf, z]⟩)
    have nF : a ∉ X.fs := fun hm => by
      obtain ⟨e, he, q⟩ := List.mem_filterMap.mp hm
      exact nfr (List.mem_filterMap.mpr ⟨e, List.mem_cons_of_mem _ he, q⟩)
    have S3 := J3.suite he3 hd3 na nL nF
    have go : ∀ {hds' : List ExceptHandler} {l' : List ClT}, ClsOk X n hds' l' → wNm X.K Wout i D l' cls d σ' H' →
        wpAny (model X.prog X.w) X.A (handleBy (.ref a) X.env hds') (SP X pins D) X.xe { s' with heap := h3 } := by
      intro hds' l' hk
      induction hk with
      | nil =>
        intro w
        refine wpAny_handleBy_nil ?_
        obtain ⟨k1, k2, k3, oe, vs, T, oT, ts', he, hz, hd, h1, hr⟩ := id fl3
        unfold PySem.passOn
        refine wpAny_bind (wpAny_field he hd h1 ?_)
        rw [if_neg (show ¬ ((Value.ref T == Value.none) = true) from by simp)]
        have fin : wpAny (model X.prog X.w) X.A (setFlight (.ref a) X.env.frame) (fun _ s4 => wpAny (model X.prog X.w) X.A (throw (.ref a) : Sem Flow) (SP X pins D) X.xe s4) X.xe { s' with heap := h3 } := by
          rw [hf]
          refine HandSPX.setFlight_upZ (s := { s' with heap := h3 }) fl3 fun h4 hh4 up4 => wpAny_throw (tk _ _ ?_)
          exact ⟨a, B, sI, pins, σ', H', cls, d, rfl, J, nb, u3.trans up4, .inr (.inr (by rw [hs]; exact hh4)), na, os, ag, w⟩
        first
          | exact wpAny_bind (wpAny_pure (wpAny_bind fin))
          | exact wpAny_bind fin
      | @cons x c ts b₀ suite np pos' hds2 l2 hc hsu r ih =>
        rintro ⟨b, hb1, hyes, hno⟩
        refine wpAny_handleBy_cons (codeAny_handlers_test ?_) (by intro q; cases q)
        have LM := PySem.W.exm_one (M := model X.prog X.w) J3.kIn (fun A Q E s k q => wpAny_typeOf_ref (k _ _ he3) (by rw [hz3.1]; exact q)) hb1
        have test : ∀ {Q : Value → Shared → Prop} {E : Value → Shared → Prop}, Q c { s' with heap := h3 } → wpAny (model X.prog X.w) (X.A.mark (some (.ref a))) (eval (.Name x np) X.env) Q E { s' with heap := h3 } := fun {Q E} q => by
          obtain ⟨hg, hdbg, hm | ⟨hm, hv, hnn⟩⟩ := hc
          · exact ld_glob (X := X.suite a ((a, oe3) :: (X.pn ++ pins))) S3 hg hm q hdbg
          · exact ld_blt (X := X.suite a ((a, oe3) :: (X.pn ++ pins))) S3 hg hm hv q hnn hdbg
        refine test (LM.here ?_)
        cases b with
        | false => exact ih (hno rfl)
        | true =>
          refine codeAny_handlers_suite_as ?_
          refine HandSPX.lands_againZ (s := { s' with heap := h3 }) fl3 fun h4 fl4 up4 => ?_
          have J4 : Inv X pins σ' H' { s' with heap := h4 } := J.landed nb fl4.1 (u3.trans up4) os ag
          obtain ⟨oe4, vs4, he4, hz4, hd4⟩ := fl4.there
          have S4 := J4.suite he4 hd4 na nL nF
          refine store_ok (X := X.suite a ((a, oe4) :: (X.pn ++ pins))) (v := .ref a) S4 hN hi (.inl hln) rfl (fun s5 S5 => ?_) (.inr hln)
          refine wpAny_mono ((hsu a oe4 cls d (X.pn ++ pins) hz4 ⟨_, hd4⟩).run [] s5 _ H' _ S5 (hyes rfl a na)) ?_ fun _ _ z => False.elim z
          intro f s6 hsp
          have end_ : ∀ {σ6 : L2.St} {H6 : Hp} {Q : Shared → Prop}, Inv (X.suite a ((a, oe4) :: (X.pn ++ pins))) [] σ6 H6 s6 → (∀ s7, Inv X pins (σ6.set i none) H6 s7 → Q s7) →
              wpAny (model X.prog X.w) X.A (do bindName X.env n .none; unbindBehindTheSuite X.env n pos') (fun _ s7 => Q s7) X.xe s6 := fun {σ6 H6 Q} S6 hq => gone_ok (S6.unsuite ok) hN hi hln hq
          cases f with
          | next => obtain ⟨σ6, H6, S6, q6⟩ := hsp; exact end_ S6 fun s7 J7 => ⟨_, _, J7, q6⟩
          | brk => obtain ⟨σ6, H6, S6, q6⟩ := hsp; exact end_ S6 fun s7 J7 => ⟨_, _, J7, q6⟩
          | cont => obtain ⟨σ6, H6, S6, q6⟩ := hsp; exact end_ S6 fun s7 J7 => ⟨_, _, J7, q6⟩
          | ret u => obtain ⟨v6, σ6, H6, S6, r6, q6⟩ := hsp; exact end_ S6 fun s7 J7 => ⟨_, _, _, J7, r6, q6⟩
    exact go hh w
  · intro f s1 hsp
    cases f with
    | next => obtain ⟨σ', H', J', q⟩ := hsp; exact wpAny_execs_nil ⟨σ', H', J'.ofTry ok, q⟩
    | brk => exact hsp.imp fun σ6 hsp => hsp.imp fun H6 hsp => ⟨hsp.1.ofTry ok, hsp.2⟩
    | cont => exact hsp.imp fun σ6 hsp => hsp.imp fun H6 hsp => ⟨hsp.1.ofTry ok, hsp.2⟩
    | ret u => exact hsp.imp fun v6 hsp => hsp.imp fun σ6 hsp => hsp.imp fun H6 hsp => ⟨hsp.1.ofTry ok, hsp.2⟩
end
/-! ### the rule -/
abbrev ClF := (Nat → Option Bool) × FS
def handM (i : Nat) (c : Nat) (fs : List (Str × D)) (env' : Evn) (st' : Sta) : List ClF → Option (O × Sta)
  | [] => some (.er c fs env', st')
  | q :: r => match q.1 c with
    | some true => shutO i (q.2 (env'.set i (some (.opq c fs))) st')
    | some false => handM i c fs env' st' r
    | none => none
def sTryM (i : Nat) (f : FS) (l : List ClF) : FS := fun env st => match f env st with
  | some (.er c fs env', st') => handM i c fs env' st' l
  | r => r
inductive JHs (ca : Ca) (X : Cx) (W : WX) (n : Str) : List ExceptHandler → List ClF → Prop
  | nil : JHs ca X W n [] []
  | cons {x : Str} {cc : Nat → Option Bool} {g : FS} {b₀ : Stmt} {suite : List Stmt} {np pos' : Pos} {hds : List ExceptHandler} {l : List ClF} (hc : ∃ u, X.mg x = some (.ref u) ∧ ∀ c b, cc c = some b → PySem.W.exmOne X.K (.ref (ca c)) (.ref u) = some b)
      (hg : Gl X x) (hd : (x == ("__debug__" : Str)) = false)
      (hsu : ∀ (a : Addr) (oe : Obj) (c : Nat) (d : Option Addr) (pn : List (Addr × Obj)), cc c = some true → Zc (.ref (ca c)) d oe → (∃ vs, oe.data = .fields vs) → JB (ca.hold c a d) (X.suite a ((a, oe) :: pn)) W (b₀ :: suite) g) (r : JHs ca X W n hds l) :
      JHs ca X W n (.ExceptHandler (some (.Name x np)) (some n) (b₀ :: suite) pos' :: hds) ((cc, g) :: l)
section
variable {ca : Ca} {X : Cx} {W : WX} {n : Str} {i : Nat}
theorem jhs_cls (h0 : ca.opq = fun _ => none) {hds : List ExceptHandler} {l : List ClF} (h : JHs ca X W n hds l) : ∃ pl : List ClT, ClsOk X n hds pl ∧ ∀ (c : Nat) (fs : List (Str × D)) (env' : Evn) (st' : Sta) (as' : Wl) (σ' : L2.St) (H' : Hp) (cls : Value) (dd : Option Addr) (E : Ends),
    EnvOk X.K ca as' (stab as' H') σ' env' → StOk X.K ca as' H' st' → ErrOk X.K ca as' (stab as' H') cls dd c fs → PostS X.K ca W as' H' (handM i c fs env' st' l) E → wNm X.K W i E pl cls dd σ' H' := by
  induction h with
  | nil => exact ⟨[], .nil, fun c fs env' st' as' σ' H' cls dd E i' k' j' p => p cls dd σ' as' H' (Step.refl _ _) k' i' j'⟩
  | @cons x cc g b₀ suite np pos' hds l hc hg hd hsu r ih =>
    obtain ⟨pl, h1, h2⟩ := ih
    obtain ⟨u, hm, hx⟩ := hc
    refine ⟨(.ref u, fun a cls d E σ H => ∃ c as env st, cc c = some true ∧ cls = .ref (ca c) ∧ EnvOk X.K (ca.hold c a d) as (stab as H) σ env ∧ StOk X.K (ca.hold c a d) as H st ∧ PostS X.K (ca.hold c a d) W as H (g env st) E) :: pl,
      .cons ⟨hg, hd, .inl hm⟩ (fun a oe cls d pn z v => ⟨fun pins s σ H E I ⟨c, as, env, st, hcc, ecls, he, hst, hp⟩ => ?_⟩) h1, fun c fs env' st' as' σ' H' cls dd E i' k' j' p => ?_⟩
    · subst ecls
      obtain ⟨t, p, q⟩ := hsu a oe c d pn hcc z v
      exact p.run pins s σ H E I (q as H σ env st E he hst hp)
    · unfold handM at p
      dsimp only at p
      cases q : cc c with
      | none => rw [q] at p; exact p.elim
      | some b =>
        rw [q] at p
        refine ⟨b, by rw [j'.1]; exact hx c b q, fun hb a _ => ?_, fun hb => ?_⟩
        · subst hb
          have hop : ∀ j q, ca.opq j = some q → (ca.hold c a dd).opq j = some q := fun j q z => by rw [h0] at z; cases z
          have he2 : EnvOk X.K (ca.hold c a dd) as' (stab as' H') σ' env' := EnvOk.toC (ca := ca) (ca' := ca.hold c a dd) rfl rfl hop i'
          have hs2 : StOk X.K (ca.hold c a dd) as' H' st' := StOk.toC (ca := ca) (ca' := ca.hold c a dd) rfl rfl hop k'
          refine ⟨c, as', env'.set i (some (.opq c fs)), st', q, j'.1, he2.put (v := .ref a) (d := .opq c fs) ?_, hs2, PostS.shut (ca := ca) (ca' := ca.hold c a dd) rfl rfl p⟩
          rcases j'.2 with ⟨rfl, rfl⟩ | ⟨p, vs, rfl, e2, e3⟩
          · exact .opq0 hold_at
          · exact .opq1 hold_at e2 (IsFs.toC (ca := ca) (ca' := ca.hold c a (some p)) rfl rfl hop e3)
        · subst hb
          exact h2 c fs env' st' as' σ' H' cls dd E i' k' j' p
theorem js_tryM {f : FS} {l : List ClF} {body : List Stmt} {h₁ : ExceptHandler} {hds : List ExceptHandler} {pos : Pos} (i : Nat) (h0 : ca.opq = fun _ => none) (hs : X.stack = X.env :: X.outer) (hf : X.env.frame = some X.env.locals) (hN : X.N.Nodup) (tk : Takes X W)
    (hb : ∀ (W : WX) (pn : List (Addr × Obj)) (xe : Value → Shared → Prop), Takes (X.tr pn xe) W → PassesOwn (model X.prog X.w) X.A X.env xe → JB ca (X.tr pn xe) W body f)
    (hh : JHs ca X W n (h₁ :: hds) l) (hi : X.N[i]? = some n := by rfl) (hln : X.env.kindOf n = some .local := by rfl) :
    JS ca X W (.Try body (h₁ :: hds) [] [] pos) (sTryM i f l) := by
  obtain ⟨pl, c1, c2⟩ := jhs_cls (i := i) h0 hh
  refine ⟨_, ps_tryM (i := i) (tb := fun W => tsF X.K ca W f) hs hf hN hi hln tk (fun W pn xe t p => jb_canon (hb W pn xe t p)) c1, fun as H σ env st E henv hst hp => ⟨as, env, st, henv, hst, ?_⟩⟩
  unfold sTryM at hp
  cases r : f env st with
  | none => rw [r] at hp; exact hp
  | some o =>
    obtain ⟨o, st'⟩ := o
    rw [r] at hp
    cases o with
    | nx env' => exact hp
    | rt d => exact hp
    | bk env' => exact hp
    | ct env' => exact hp
    | er c fs env' =>
      intro cls dd σ' as' H' s' k' i' j'
      exact c2 c fs env' st' as' σ' H' cls dd E i' k' j' (PostS.step hp s')
end
end DS

/-! a call whose answer is dropped, with a list that is changed standing still, which may raise -/
namespace DS
open PySem L2 PySem.Spec PyProof.Rows
def sFrzX (i : Nat) (fe : F D) : FS := fun env st => match env[i]? with
  | some (some (.cell k)) => (match st[k]? with
    | some (.lst ds) => if pls 0 ds = true then (match fe ((envShut env).set i (some (.lst ds))) [] with
        | some (.ok _ []) => some (.nx env, st)
        | some (.err c fs []) => if (fs.all fun p => flatD p.2) = true then some (.er c fs env, st) else none
        | _ => none) else none
    | _ => none)
  | _ => none
section
variable {ca : Ca} {X : Cx} {W : WX} {e : Expr} {fe : F D} {pos : Pos}
theorem js_frzX (i : Nat) (h : JE ca X W e fe) (hs : swapsWith e none pos.line X.env = pure false := by rfl) : JS ca X W (.Expr e pos) (sFrzX i fe) := by
  obtain ⟨te, pe, qe⟩ := h
  refine ⟨_, ps_expr pe hs, fun as H σ env st E henv hst hp => ?_⟩
  unfold sFrzX at hp
  split at hp
  · rename_i k ei
    split at hp
    · rename_i ds ek
      split at hp
      · rename_i hpl
        obtain ⟨v, ev, iv⟩ := henv.at_ i _ ei
        cases iv with
        | @cell a _ ha =>
          have ham : a ∈ as.as := List.mem_of_getElem? ha
          have hah : a ∉ as.hs := fun z => (hst.hid a z).1 ham
          have c := hst.at_ k a _ ha ek
          cases hq : H a with
          | none => rw [hq] at c; exact c.elim
          | some u =>
            rw [hq] at c
            cases u <;> first | exact False.elim c | skip
            rename_i xs
            have c' : IsDs X.K ca as (stab as H) xs ds := c
            have ex1 : Ext (stab as H) (stab (shut as a) H) := fun b u h => by
              obtain ⟨h1, h2, h3⟩ := stab_some h
              rw [stab_out (as := shut as a) (List.not_mem_nil) (shut_nm (.inl h1) h2)]
              exact h3
            have vis : stab (shut as a) H a = some (.lst xs) := by
              rw [stab_out (as := shut as a) (List.not_mem_nil) (shut_nm (.inr rfl) hah)]
              exact hq
            have kst : StOk X.K ca (shut as a) H [] := by
              refine ⟨List.nodup_nil, rfl, fun b hb => ⟨List.not_mem_nil, ?_⟩, fun k b c e1 e2 => by simp at e2⟩
              rcases List.mem_append.mp hb with hb | hb
              · exact hst.alloc (List.mem_filter.mp hb).1
              · exact (hst.hid b hb).2
            have en0 : EnvOk X.K ca (shut as a) (stab (shut as a) H) σ (envShut env) := by
              refine ⟨by unfold envShut; rw [List.length_map]; exact henv.len, fun j d e => ?_⟩
              unfold envShut at e
              rw [List.getElem?_map] at e
              cases q : env[j]? with
              | none => rw [q] at e; cases e
              | some o =>
                rw [q] at e
                cases o with
                | none => cases e
                | some d' =>
                  simp only [Option.map_some, Option.bind_some, Option.some.injEq] at e
                  split at e
                  · rename_i hpl
                    cases e
                    obtain ⟨v, e1, i1⟩ := henv.at_ j _ q
                    exact ⟨v, e1, i1.any (Sub.of_ext ex1) hpl⟩
                  · cases e
            have en1 : EnvOk X.K ca (shut as a) (stab (shut as a) H) σ ((envShut env).set i (some (.lst ds))) := by
              refine ⟨by rw [List.length_set]; exact en0.len, fun j d e => ?_⟩
              by_cases hj : i = j
              · subst hj
                have hl : i < (envShut env).length := by
                  have := (List.getElem?_eq_some_iff.mp ei).1
                  unfold envShut
                  rw [List.length_map]
                  exact this
                rw [List.getElem?_set_self hl] at e
                cases e
                exact ⟨_, ev, .lst vis (c'.any (Sub.of_ext ex1) hpl)⟩
              · rw [List.getElem?_set_ne hj] at e
                exact en0.at_ j d e
            have stepF : ∀ {H' : Hp}, (∀ b o, b ∉ ([] : List Addr) → H b = some o → H' b = some o) → Step as H as H' := fun k => ⟨List.prefix_refl _, rfl, fun _ h n => (n h).elim, fun b o _ e => k b o List.not_mem_nil e⟩
            have kF : ∀ {H' : Hp}, (∀ b o, b ∉ ([] : List Addr) → H b = some o → H' b = some o) → Step as H as H' → StOk X.K ca as H' st := fun {H'} kk sH => by
              refine ⟨hst.nd, hst.len, hst.hidS sH, fun j b c e1 e2 => ?_⟩
              obtain ⟨o, e⟩ := hst.alloc (List.mem_of_getElem? e1)
              rw [kk b o List.not_mem_nil e, ← e]
              exact (hst.at_ j b c e1 e2).ext (List.prefix_refl _) sH.ext
            split at hp
            · rename_i d er
              refine qe (shut as a) H σ _ [] _ en1 kst ?_
              rw [er]
              intro v' as' H' s' k' i'
              have sH := stepF s'.keep
              exact hp σ as H' sH (kF s'.keep sH) (henv.step sH)
            · rename_i c fs er
              split at hp
              · rename_i hf
                refine qe (shut as a) H σ _ [] _ en1 kst ?_
                rw [er]
                intro cls dd as' H' s' k' e'
                have sH := stepF s'.keep
                refine hp cls dd σ as H' sH (kF s'.keep sH) (henv.step sH) ⟨e'.1, ?_⟩
                rcases e'.2 with z | ⟨p, vs, z1, z2, z3⟩
                · exact .inl z
                · refine .inr ⟨p, vs, z1, ?_, flat_fs (List.all_eq_true.mp hf) z3⟩
                  obtain ⟨y1, y2, y3⟩ := stab_some z2
                  rw [s'.hid] at y2
                  have hpa : p ≠ a := fun z => by
                    rw [z, s'.keep a _ List.not_mem_nil hq] at y3
                    cases y3
                  rw [stab_out (fun z => y2 (List.mem_append_left _ (List.mem_filter.mpr ⟨z, by simpa using hpa⟩))) (fun z => y2 (List.mem_append_right _ z))]
                  exact y3
              · exact hp.elim
            · exact hp.elim
      · exact hp.elim
    · exact hp.elim
  · exact hp.elim
end
/-! ### a call that sees only the first n things that are changed -/
def oCallU (n m : Nat) (Fm : List D → Sta → Option (R D)) : List D → Sta → Option (R D) := fun ds st => if ds.length = m ∧ pls 0 ds = true ∧ pls_st 0 (st.take n) = true then subR n (pl 0) st (Fm ds (st.take n)) else none
section
variable {ca : Ca} {X : Cx} {W : WX} {e : Expr} {es : List Expr} {fs : F (List D)} {pos p : Pos} {x : Str} {k j : Nat} {ps : List Str} {Fm : List D → Sta → Option (R D)}
theorem je_callU {n : Nat} (m : Nat) (Fn : DefOk X.prog X.w X.K X.mg X.base ca k x ps Fm) (hr : Room j X.A) (hk : k ≤ j) (tk : Takes X W) (ha : JA ca X W (e :: es) fs) (hn : ps.length = n := by rfl) (hg : Gl X x := by rfl) (hd : (x == ("__debug__" : Str)) = false := by decide) (h1 : starEach (e :: es) X.env = (false, eval e X.env) :: starEach es X.env := by rfl)
    (h2 : ((backTo pos (starEach es X.env)).any fun x => x.1) = false := by rfl) : JE ca X W (.Call (.Name x p) (e :: es) [] pos) (fN (oCallU m n Fm) fs) := by
  subst hn
  obtain ⟨f, fd, F, hm, hkp, hb⟩ := Fn.ex
  obtain ⟨ta, pa, sa⟩ := ha
  refine ⟨_, pe_callS F (hr.mono hk) hg hm hkp hb (fun σ => passAt tk σ) pa hd h1 h2, fun as H σ env st Q he hs hp => ?_⟩
  refine sa as H σ env st _ he hs (Post.bnd hp fun xs st1 vs as1 H1 s1 k1 i1 p1 => ?_)
  unfold oCallU at p1
  split at p1
  · rename_i c
    exact ⟨as1.upto m, st1.take m, xs, by rw [stab_upto]; exact i1.any (Sub.of_ext (Ext.refl _)) c.2.1, upto_st k1 c.2.2, c.1, post_fn (post_sub (fun d v G p i => i.any (Sub.of_ext (Ext.refl _)) p) k1 p1)⟩
  · exact p1.elim
end
end DS

namespace HK
open PySem PySem.Spec PyProof.Rows L2 He DS
/-! ### a classmethod, from the head -/
def cmA (c f : Str) (K : PySem.W.Frag) : Addr := match PySem.W.recIn K (prA K c f) "classmethod" with
  | some (.ref g :: _) => g
  | _ => 0
def cmB (K : PySem.W.Frag) (c f : Str) : Bool := PySem.W.readsIn K (ga K c) (.type "type") && (eqO (PySem.W.specialIn K (.ref (ga K c)) "__getattribute__") (some (some (.builtin "type.__getattribute__"))) &&
  ((match PySem.W.findCls K (.ref (ga K c)) (.type "type") f with
    | some (.get (.builtin n) (.ref p) .none (.ref C)) => decide (n = "classmethod.__get__") && decide (p = prA K c f) && decide (C = ga K c)
    | _ => false) && ((match PySem.W.recIn K (prA K c f) "classmethod" with
    | some (.ref _ :: _) => true
    | _ => false) && PySem.W.fnIn K (cmA c f K))))
theorem cmB_ok {K : PySem.W.Frag} {c f : Str} (h : cmB K c f = true) : ClX.CRead K (ga K c) (.type "type") ∧ ClX.CMet K (ga K c) (.type "type") f (prA K c f) (cmA c f K) := by
  obtain ⟨h1, h⟩ := ba h
  obtain ⟨h2, h⟩ := ba h
  obtain ⟨h3, h⟩ := ba h
  obtain ⟨h4, h5⟩ := ba h
  refine ⟨⟨h1, eqO_ok h2⟩, ⟨?_, ?_, h5⟩⟩
  · split at h3
    · rename_i n p C e
      rw [Bool.and_eq_true, Bool.and_eq_true] at h3
      rw [e, of_decide_eq_true h3.1.1, of_decide_eq_true h3.1.2, of_decide_eq_true h3.2]
    · cases h3
  · unfold cmA
    split at h4
    · rename_i g rest e
      rw [e]
      exact ⟨rest, rfl⟩
    · cases h4
/-! ### the hook that sees the interpreter's own statics too (a class's attributes are read past them) -/
def obsGS (n : Nat) (fa : List Fa) (ex : PySem.W.Frag → Bool) (fn : List FD) (ts : List Tab) (g : Addr → Option Obj) : Al := obsK fa ex fn ts (frG g (asD g n ++ [cStatics]))
def hookS (n : Nat) (fa : List Fa) (ex : PySem.W.Frag → Bool) (fn : List FD) (ts : List Tab) : PySem.W.Hook where
  α := Al
  obs := fun s => obsGS n fa ex fn ts s.heap.get?
  val := fun w => valK fn ts w
  says := fun w h => ∃ K : PySem.W.Frag, K.In h ∧ Says fa ex fn ts w K
  of := fun _ _ e => ⟨_, frG_in, e⟩
  keeps := fun _ _ _ ⟨K, hK, c⟩ k => ⟨K, PySem.W.Frag.In.keeps hK k, c⟩
theorem obsGS_eq {n : Nat} {fa : List Fa} {ex : PySem.W.Frag → Bool} {fn : List FD} {ts : List Tab} {g : Addr → Option Obj} {s : Shared} (h : ∀ a, g a = s.heap.get? a) : obsGS n fa ex fn ts g = (hookS n fa ex fn ts).obs s := by
  have e : g = s.heap.get? := funext h
  rw [e] <;> rfl
/-! ### the head's run, in three parts -/
def kS (n : Nat) (s : PySem.W.SharedT) : PySem.W.Frag := frG (HandSHeadRun.getT s) (asD (HandSHeadRun.getT s) n ++ [cStatics])
section
open PySem.W HandSHeadRun
theorem run_split {r : OpenRow} {q : Program} {fa : List Fa} {ex : Frag → Bool} {fn : List FD} {ts : List Tab} {n M : Nat} {loose : List Str} {w : World}
    (h1 : ∀ os : OsState, (endF (stepQ (denQ tabQ) r.prog w) M r.prog w os).map (fun s => (looksF r.prog (boot_heap w.params) s.abs, seenQ q loose (importedModules r.prog.main.body) (fun s => xlAt q [] s && recOk r.toRowW.records s) s.abs)) = some (true, openGood q loose))
    (h2 : ∀ os : OsState, (endF (stepQ (denQ tabQ) r.prog w) M r.prog w os).map (fun s => fa.all fun f => f.ok (kS n s)) = some true)
    (h4 : ∀ os : OsState, (endF (stepQ (denQ tabQ) r.prog w) M r.prog w os).map (fun s => ex (kS n s)) = some true)
    (h3 : ∀ os : OsState, (endF (stepQ (denQ tabQ) r.prog w) M r.prog w os).map (fun s => (((fn.all fun d => d.ok (kS n s)), fn.map fun d => d.obs (kS n s)), ts.map fun t => dicW (kS n s) (t.1 (kS n s)))) = some ((true, fn.map FD.val), ts.map fun t => some (keysIn w.params t.2))) :
    RunEq r q (hookS n fa ex fn ts) (fun s => obsGS n fa ex fn ts (getT s)) M loose w := by
  intro os
  have a1 := h1 os
  have a2 := h2 os
  have a3 := h3 os
  have a4 := h4 os
  cases e : endF (stepQ (denQ tabQ) r.prog w) M r.prog w os with
  | none => rw [e] at a1; cases a1
  | some s =>
    rw [e] at a1 a2 a3 a4
    have b1 := Option.some.inj a1
    have b2 := Option.some.inj a2
    have b3 := Option.some.inj a3
    have c2 : ex (kS n s) = true := Option.some.inj a4
    refine congrArg some (Prod.ext (congrArg (fun z => z.1) b1) (Prod.ext (congrArg (fun z => z.2) b1) ?_))
    have c1 : (fa.all fun f => f.ok (kS n s)) = true := b2
    have c3 : (fn.all fun d => d.ok (kS n s)) = true := congrArg (fun z => z.1.1) b3
    have c4 : (fn.map fun d => d.obs (kS n s)) = fn.map FD.val := congrArg (fun z => z.1.2) b3
    have c5 : (ts.map fun t => dicW (kS n s) (t.1 (kS n s))) = ts.map fun t => some (keysIn w.params t.2) := congrArg (fun z => z.2) b3
    show (((fa.all fun f => f.ok (kS n s)) && (ex (kS n s) && fn.all fun d => d.ok (kS n s)), fn.map fun d => d.obs (kS n s)), ts.map fun t => dicW (kS n s) (t.1 (kS n s))) = ((true, fn.map FD.val), ts.map fun t => some (keysIn w.params t.2))
    rw [c1, c2, c3, c4, c5]
    rfl
end
end HK

namespace Len
/-! ### tables -/
abbrev Tab := List (Int × (Int × Int))
def get : Tab → Int → Option (Int × Int)
  | [], _ => none
  | (j, d) :: r, i => if j = i then some d else get r i
def rep (i : Int) (d : Int × Int) : Tab → Tab
  | [] => []
  | (j, e) :: r => (if j = i then (j, d) else (j, e)) :: rep i d r
def put (t : Tab) (i : Int) (d : Int × Int) : Tab := if (get t i).isSome = true then rep i d t else t ++ [(i, d)]
def keys (t : Tab) : List Int := t.map (·.1)
theorem get_rep (i j : Int) (d : Int × Int) : ∀ t : Tab, get (rep i d t) j = if j = i then (get t i).map (fun _ => d) else get t j
  | [] => by simp [rep, get]
  | (k, e) :: r => by
    have ih := get_rep i j d r
    unfold rep
    by_cases h : k = i
    · subst h
      rw [if_pos rfl]
      by_cases h2 : j = k
      · subst h2; simp [get]
      · have h3 : ¬ k = j := fun z => h2 z.symm
        rw [if_neg h2]
        simp only [get, if_neg h3]
        rw [ih, if_neg h2]
    · rw [if_neg h]
      by_cases h2 : j = i
      · subst h2
        rw [if_pos rfl] at ih ⊢
        simp only [get, if_neg h]
        exact ih
      · rw [if_neg h2] at ih ⊢
        simp only [get]
        rw [ih]
theorem get_app (t : Tab) (i j : Int) (d : Int × Int) (h : get t i = none) : get (t ++ [(i, d)]) j = if j = i then some d else get t j := by
  induction t with
  | nil =>
    by_cases e : j = i
    · subst e; simp [get]
    · have : ¬ i = j := fun z => e z.symm
      simp [get, e, this]
  | cons p r ih =>
    obtain ⟨k, e⟩ := p
    simp only [get] at h
    split at h
    · cases h
    · rename_i hk
      have ih := ih h
      rw [List.cons_append]
      simp only [get]
      by_cases e1 : k = j
      · subst e1; simp [hk]
      · rw [if_neg e1, if_neg e1, ih]
theorem get_put (t : Tab) (i j : Int) (d : Int × Int) : get (put t i d) j = if j = i then some d else get t j := by
  unfold put
  cases h : get t i with
  | none => rw [if_neg (by simp)]; exact get_app t i j d h
  | some e => rw [if_pos (by simp), get_rep, h]; rfl
theorem keys_rep (i : Int) (d : Int × Int) : ∀ t : Tab, keys (rep i d t) = keys t
  | [] => rfl
  | (k, e) :: r => by
    have ih := keys_rep i d r
    unfold keys at ih ⊢
    unfold rep
    rw [List.map_cons, List.map_cons, ih]
    by_cases h : k = i
    · rw [if_pos h]
    · rw [if_neg h]
theorem mem_keys {i : Int} : ∀ {t : Tab}, i ∈ keys t ↔ ∃ d, get t i = some d
  | [] => by simp [keys, get]
  | (k, e) :: r => by
    have ih := mem_keys (i := i) (t := r)
    unfold keys at ih ⊢
    rw [List.map_cons, List.mem_cons, ih]
    by_cases h : k = i
    · subst h; simp [get]
    · have : ¬ i = k := fun z => h z.symm
      simp [get, h, this]
theorem keys_put {t : Tab} {i : Int} {d : Int × Int} (h : (keys t).Nodup) : (keys (put t i d)).Nodup := by
  unfold put
  cases e : get t i with
  | some d' => rw [if_pos (by simp), keys_rep]; exact h
  | none =>
    rw [if_neg (by simp)]
    unfold keys
    rw [List.map_append]
    refine List.nodup_append.mpr ⟨h, by simp, fun a ha b hb => ?_⟩
    simp at hb
    subst hb
    rintro rfl
    obtain ⟨d', h'⟩ := mem_keys.mp (show a ∈ keys t from ha)
    rw [e] at h'
    cases h'
theorem len_rep (i : Int) (d : Int × Int) : ∀ t : Tab, (rep i d t).length = t.length
  | [] => rfl
  | (k, e) :: r => by unfold rep; simp [len_rep i d r]
theorem len_put (t : Tab) (i : Int) (d : Int × Int) : (put t i d).length ≤ t.length + 1 := by
  unfold put
  split
  · rw [len_rep]; omega
  · simp
theorem get_of_mem {t : Tab} (h : (keys t).Nodup) {i : Int} {d : Int × Int} (hm : (i, d) ∈ t) : get t i = some d := by
  induction t with
  | nil => cases hm
  | cons p r ih =>
    obtain ⟨k, e⟩ := p
    unfold keys at h
    rw [List.map_cons, List.nodup_cons] at h
    rcases List.mem_cons.mp hm with z | z
    · cases z; simp [get]
    · have hk : ¬ k = i := by
        rintro rfl
        exact h.1 (List.mem_map.mpr ⟨_, z, rfl⟩)
      simp only [get, if_neg hk]
      exact ih h.2 z
theorem mem_of_get {t : Tab} {i : Int} {d : Int × Int} (h : get t i = some d) : (i, d) ∈ t := by
  induction t with
  | nil => cases h
  | cons p r ih =>
    obtain ⟨k, e⟩ := p
    simp only [get] at h
    split at h
    · rename_i hk; subst hk; cases h; exact List.mem_cons_self
    · exact List.mem_cons_of_mem _ (ih h)
/-! ### the marks, by makers and by marks -/
def takL (h : Tab) (t : Int) : List Int := (h.filter fun p => decide (t < p.2.2)).map (·.2.1)
def zs (n : Int) : List Int := (List.range n.toNat).map fun (i : Nat) => (0 : Int) + (i : Int)
def freeL (n : Int) (tk : List Int) : List Int := (zs n).filter fun z => !(tk.contains z)
def markFor (h : Tab) (n t m : Int) : Option Int := match get h m with
  | some (k, e) => if t < e then some k else (freeL n (takL h t)).head?
  | none => (freeL n (takL h t)).head?
def step (n len : Int) (s : Tab × List (Option Int)) (a : Int × Int) : Tab × List (Option Int) := match markFor s.1 n a.1 a.2 with
  | some k => (put s.1 a.2 (k, a.1 + len), s.2 ++ [some k])
  | none => (s.1, s.2 ++ [none])
def act (r : Tab) (len t k : Int) : Bool := match get r k with | some (_, s) => decide (t < s + len) | none => false
def isM (r : Tab) (m k : Int) : Bool := match get r k with | some (m', _) => decide (m' = m) | none => false
def sortK (r : Tab) : List Int := (keys r).mergeSort DS.ltI
def there (r : Tab) (len t : Int) : List Int := (sortK r).filter (act r len t)
def own (r : Tab) (len t m : Int) : List Int := (there r len t).filter (isM r m)
def lmark (r : Tab) (n len t m : Int) : Option Int := match own r len t m with
  | k :: _ => some k
  | [] => (freeL n (there r len t)).head?
def lstep (n len : Int) (s : Tab × List (Option Int)) (a : Int × Int) : Tab × List (Option Int) := match lmark s.1 n len a.1 a.2 with
  | some k => (put s.1 k (a.2, a.1), s.2 ++ [some k])
  | none => (s.1, s.2 ++ [none])
structure Rel (len t : Int) (h r : Tab) : Prop where
  a1 : ∀ m k e, get h m = some (k, e) → t < e → get r k = some (m, e - len)
  a2 : ∀ k m s, get r k = some (m, s) → t < s + len → get h m = some (k, s + len)
  n1 : (keys h).Nodup
  n2 : (keys r).Nodup
theorem Rel.mono {len t t' : Int} {h r : Tab} (R : Rel len t h r) (ht : t ≤ t') : Rel len t' h r :=
  ⟨fun m k e h1 h2 => R.a1 m k e h1 (by omega), fun k m s h1 h2 => R.a2 k m s h1 (by omega), R.n1, R.n2⟩
theorem mem_takL {h : Tab} (n1 : (keys h).Nodup) {t z : Int} : z ∈ takL h t ↔ ∃ m e, get h m = some (z, e) ∧ t < e := by
  unfold takL
  simp only [List.mem_map, List.mem_filter, decide_eq_true_eq]
  constructor
  · rintro ⟨⟨m, k, e⟩, ⟨h1, h2⟩, rfl⟩
    exact ⟨m, e, get_of_mem n1 h1, h2⟩
  · rintro ⟨m, e, h1, h2⟩
    exact ⟨(m, z, e), ⟨mem_of_get h1, h2⟩, rfl⟩
theorem mem_there {r : Tab} {len t z : Int} : z ∈ there r len t ↔ ∃ m s, get r z = some (m, s) ∧ t < s + len := by
  unfold there sortK
  rw [List.mem_filter, (List.mergeSort_perm _ _).mem_iff, mem_keys]
  unfold act
  constructor
  · rintro ⟨⟨d, h1⟩, h2⟩
    rw [h1] at h2
    exact ⟨d.1, d.2, h1, of_decide_eq_true h2⟩
  · rintro ⟨m, s, h1, h2⟩
    rw [h1]
    exact ⟨⟨_, rfl⟩, decide_eq_true h2⟩
theorem mem_own {r : Tab} {len t m z : Int} : z ∈ own r len t m ↔ ∃ s, get r z = some (m, s) ∧ t < s + len := by
  unfold own
  rw [List.mem_filter, mem_there]
  unfold isM
  constructor
  · rintro ⟨⟨m', s, h1, h2⟩, h3⟩
    rw [h1] at h3
    have : m' = m := of_decide_eq_true h3
    subst this
    exact ⟨s, h1, h2⟩
  · rintro ⟨s, h1, h2⟩
    exact ⟨⟨m, s, h1, h2⟩, by rw [h1]; exact decide_eq_true rfl⟩
theorem free_eq {len t n : Int} {h r : Tab} (R : Rel len t h r) : freeL n (takL h t) = freeL n (there r len t) := by
  unfold freeL
  refine List.filter_congr fun z _ => ?_
  have : (takL h t).contains z = (there r len t).contains z := by
    rw [Bool.eq_iff_iff, List.contains_iff_mem, List.contains_iff_mem, mem_takL R.n1, mem_there]
    constructor
    · rintro ⟨m, e, h1, h2⟩
      exact ⟨m, e - len, R.a1 m z e h1 h2, by omega⟩
    · rintro ⟨m, s, h1, h2⟩
      exact ⟨m, s + len, R.a2 z m s h1 h2, h2⟩
  rw [this]
theorem free_not {n : Int} {tk : List Int} {k : Int} (h : (freeL n tk).head? = some k) : k ∉ tk := by
  have hm : k ∈ freeL n tk := List.mem_of_head? h
  unfold freeL at hm
  rw [List.mem_filter] at hm
  intro z
  have := hm.2
  simp [z] at this
theorem mark_eq {len t n m : Int} {h r : Tab} (R : Rel len t h r) : markFor h n t m = lmark r n len t m := by
  have key : ∀ z, z ∈ own r len t m → ∃ e, get h m = some (z, e) ∧ t < e := fun z hz => by
    obtain ⟨s, h1, h2⟩ := mem_own.mp hz
    exact ⟨s + len, R.a2 z m s h1 h2, h2⟩
  unfold markFor lmark
  cases hg : get h m with
  | none =>
    cases ho : own r len t m with
    | nil => rw [free_eq R]
    | cons k ks =>
      obtain ⟨e, h1, _⟩ := key k (by rw [ho]; exact List.mem_cons_self)
      rw [hg] at h1; cases h1
  | some ke =>
    obtain ⟨k, e⟩ := ke
    dsimp only
    by_cases ht : t < e
    · rw [if_pos ht]
      have hk : k ∈ own r len t m := mem_own.mpr ⟨e - len, R.a1 m k e hg ht, by omega⟩
      cases ho : own r len t m with
      | nil => rw [ho] at hk; cases hk
      | cons k' ks =>
        obtain ⟨e', h1, _⟩ := key k' (by rw [ho]; exact List.mem_cons_self)
        rw [hg] at h1; cases h1; rfl
    · rw [if_neg ht]
      cases ho : own r len t m with
      | nil => rw [free_eq R]
      | cons k' ks =>
        obtain ⟨e', h1, h2⟩ := key k' (by rw [ho]; exact List.mem_cons_self)
        rw [hg] at h1; cases h1; exact absurd h2 ht
/-- the mark that is taken: nobody else has it -/
theorem mark_new {len t n m k : Int} {h r : Tab} (R : Rel len t h r) (e : markFor h n t m = some k) : ∀ m' e', get h m' = some (k, e') → t < e' → m' = m := fun m' e' h1 h2 => by
  unfold markFor at e
  have hr := R.a1 m' k e' h1 h2
  have hnot : k ∈ takL h t := (mem_takL R.n1).mpr ⟨m', e', h1, h2⟩
  cases hg : get h m with
  | none => rw [hg] at e; exact absurd hnot (free_not e)
  | some ke =>
    obtain ⟨k', e2⟩ := ke
    rw [hg] at e
    dsimp only at e
    split at e
    · rename_i ht
      cases e
      have := R.a1 m k e2 hg ht
      rw [hr] at this
      exact congrArg Prod.fst (Option.some.inj this)
    · exact absurd hnot (free_not e)
theorem rel_put {len t m k n : Int} {h r : Tab} (R : Rel len t h r) (e : markFor h n t m = some k) : Rel len t (put h m (k, t + len)) (put r k (m, t)) := by
  have nw := mark_new R e
  refine ⟨fun m' k' e' h1 h2 => ?_, fun k' m' s h1 h2 => ?_, keys_put R.n1, keys_put R.n2⟩
  · rw [get_put] at h1 ⊢
    by_cases hm : m' = m
    · subst hm
      rw [if_pos rfl] at h1
      cases h1
      rw [if_pos rfl]
      congr 2
      omega
    · rw [if_neg hm] at h1
      have hk : ¬ k' = k := by
        rintro rfl
        exact hm (nw m' e' h1 h2)
      rw [if_neg hk]
      exact R.a1 m' k' e' h1 h2
  · rw [get_put] at h1 ⊢
    by_cases hk : k' = k
    · subst hk
      rw [if_pos rfl] at h1
      cases h1
      rw [if_pos rfl]
    · rw [if_neg hk] at h1
      have h3 := R.a2 k' m' s h1 h2
      have hm : ¬ m' = m := by
        rintro rfl
        -- m has k' and takes k: then k' = k, by its own mark
        unfold markFor at e
        rw [h3] at e
        dsimp only at e
        rw [if_pos h2] at e
        exact hk (Option.some.inj e)
      rw [if_neg hm]
      exact h3
theorem step_eq {n len t : Int} {h r : Tab} {ms : List (Option Int)} (R : Rel len t h r) (m : Int) : (step n len (h, ms) (t, m)).2 = (lstep n len (r, ms) (t, m)).2 ∧ Rel len t (step n len (h, ms) (t, m)).1 (lstep n len (r, ms) (t, m)).1 := by
  have e := mark_eq (n := n) (m := m) R
  unfold step lstep
  dsimp only
  rw [← e]
  cases hm : markFor h n t m with
  | none => exact ⟨rfl, R⟩
  | some k => exact ⟨rfl, rel_put R hm⟩
theorem fold_eq {n len : Int} : ∀ (asks : List (Int × Int)) {t : Int} {h r : Tab} {ms : List (Option Int)}, Rel len t h r → (∀ a ∈ asks, t ≤ a.1) → asks.Pairwise (fun a b => a.1 ≤ b.1) →
    (asks.foldl (step n len) (h, ms)).2 = (asks.foldl (lstep n len) (r, ms)).2 ∧ ∀ u, (∀ a ∈ asks, a.1 ≤ u) → t ≤ u → Rel len u (asks.foldl (step n len) (h, ms)).1 (asks.foldl (lstep n len) (r, ms)).1
  | [], t, h, r, ms, R, _, _ => ⟨rfl, fun u _ hu => R.mono hu⟩
  | (t', m) :: as, t, h, r, ms, R, ht, hp => by
    rw [List.foldl_cons, List.foldl_cons]
    have R' := R.mono (ht _ List.mem_cons_self)
    obtain ⟨e1, e2⟩ := step_eq (n := n) (ms := ms) R' m
    rw [List.pairwise_cons] at hp
    have q1 : step n len (h, ms) (t', m) = ((step n len (h, ms) (t', m)).1, (step n len (h, ms) (t', m)).2) := rfl
    have q2 : lstep n len (r, ms) (t', m) = ((lstep n len (r, ms) (t', m)).1, (step n len (h, ms) (t', m)).2) := by rw [e1]
    rw [q1, q2]
    obtain ⟨f1, f2⟩ := fold_eq as (ms := (step n len (h, ms) (t', m)).2) e2 (fun a ha => hp.1 a ha) hp.2
    exact ⟨f1, fun u hu htu => f2 u (fun a ha => hu a (List.mem_cons_of_mem _ ha)) (hu _ List.mem_cons_self)⟩
theorem rel_nil (len t : Int) : Rel len t [] [] := ⟨fun _ _ _ h => (nomatch h), fun _ _ _ h => (nomatch h), by simp [keys], by simp [keys]⟩
/-! ### who has which at a time -/
def dueH (h : Tab) (u : Int) : List (Int × Int) := (h.filter fun p => decide (u < p.2.2)).map fun p => (p.2.1, p.1)
def mkr (r : Tab) (k : Int) : Int := match get r k with | some (m, _) => m | none => 0
def dueR (r : Tab) (len u : Int) : List (Int × Int) := (there r len u).map fun k => (k, mkr r k)
theorem mem_dueH {h : Tab} (n1 : (keys h).Nodup) {u k m : Int} : (k, m) ∈ dueH h u ↔ ∃ e, get h m = some (k, e) ∧ u < e := by
  unfold dueH
  simp only [List.mem_map, List.mem_filter, decide_eq_true_eq]
  constructor
  · rintro ⟨⟨m', k', e⟩, ⟨h1, h2⟩, h3⟩
    cases h3
    exact ⟨e, get_of_mem n1 h1, h2⟩
  · rintro ⟨e, h1, h2⟩
    exact ⟨(m, k, e), ⟨mem_of_get h1, h2⟩, rfl⟩
theorem mem_dueR {r : Tab} {len u k m : Int} : (k, m) ∈ dueR r len u ↔ ∃ s, get r k = some (m, s) ∧ u < s + len := by
  unfold dueR
  rw [List.mem_map]
  constructor
  · rintro ⟨k', h1, h2⟩
    obtain ⟨m', s, h3, h4⟩ := mem_there.mp h1
    unfold mkr at h2
    rw [h3] at h2
    cases h2
    exact ⟨s, h3, h4⟩
  · rintro ⟨s, h1, h2⟩
    exact ⟨k, mem_there.mpr ⟨m, s, h1, h2⟩, by unfold mkr; rw [h1]⟩
theorem nodup_sortK {r : Tab} (n2 : (keys r).Nodup) : (sortK r).Nodup := (List.mergeSort_perm _ _).symm.nodup n2
theorem nodup_of_map {α β : Type} (f : α → β) : ∀ {l : List α}, (l.map f).Nodup → l.Nodup
  | [], _ => List.nodup_nil
  | a :: l, h => by
    rw [List.map_cons, List.nodup_cons] at h
    exact List.nodup_cons.mpr ⟨fun z => h.1 (List.mem_map.mpr ⟨a, z, rfl⟩), nodup_of_map f h.2⟩
theorem nodup_dueH {h : Tab} (n1 : (keys h).Nodup) (u : Int) : (dueH h u).Nodup := by
  refine nodup_of_map Prod.snd ?_
  unfold dueH
  rw [List.map_map]
  have e : (Prod.snd ∘ fun p : Int × (Int × Int) => (p.2.1, p.1)) = Prod.fst := rfl
  rw [e]
  exact List.Nodup.sublist (List.Sublist.map _ (List.filter_sublist)) n1
theorem sorted_sortK (r : Tab) : (sortK r).Pairwise fun a b => a ≤ b := by
  have h : (sortK r).Pairwise fun a b => DS.ltI a b = true := by
    refine List.pairwise_mergeSort ?_ ?_ _
    · intro a b c h1 h2
      have h1' := of_decide_eq_true h1
      have h2' := of_decide_eq_true h2
      exact decide_eq_true (by omega)
    · intro a b
      rcases Int.le_total a b with z | z
      · simp [DS.ltI, z]
      · simp [DS.ltI, z]
  exact h.imp fun h => of_decide_eq_true h
/-- ascending, as tuples are -/
def leP (a b : Int × Int) : Prop := a.1 < b.1 ∨ a.1 = b.1 ∧ a.2 ≤ b.2
theorem sorted_dueR {r : Tab} (n2 : (keys r).Nodup) (len u : Int) : (dueR r len u).Pairwise leP := by
  unfold dueR
  rw [List.pairwise_map]
  have h1 : (there r len u).Pairwise fun a b => a ≤ b := (sorted_sortK r).sublist List.filter_sublist
  have h2 : (there r len u).Nodup := (nodup_sortK n2).sublist List.filter_sublist
  refine (h1.and h2).imp fun {a b} h => ?_
  exact .inl (by have := h.1; have := h.2; omega)
theorem due_perm {len u : Int} {h r : Tab} (R : Rel len u h r) : (dueR r len u).Perm (dueH h u) := by
  refine (List.perm_ext_iff_of_nodup ?_ (nodup_dueH R.n1 u)).mpr fun ⟨k, m⟩ => ?_
  · refine nodup_of_map Prod.fst ?_
    unfold dueR
    rw [List.map_map]
    have e : (Prod.fst ∘ fun k => (k, mkr r k)) = id := rfl
    rw [e, List.map_id]
    exact (nodup_sortK R.n2).sublist List.filter_sublist
  · rw [mem_dueR, mem_dueH R.n1]
    constructor
    · rintro ⟨s, h1, h2⟩
      exact ⟨s + len, R.a2 k m s h1 h2, h2⟩
    · rintro ⟨e, h1, h2⟩
      exact ⟨e - len, R.a1 m k e h1 h2, by omega⟩
/-! ### sizes -/
theorem takL_len (h : Tab) (t : Int) : (takL h t).length ≤ h.length := by
  unfold takL
  rw [List.length_map]
  exact List.length_filter_le _ _
theorem step_len (n len : Int) (s : Tab × List (Option Int)) (a : Int × Int) : (step n len s a).1.length ≤ s.1.length + 1 ∧ (step n len s a).2.length = s.2.length + 1 := by
  unfold step
  split
  · exact ⟨len_put _ _ _, by simp⟩
  · exact ⟨Nat.le_succ _, by simp⟩
theorem lstep_len (n len : Int) (s : Tab × List (Option Int)) (a : Int × Int) : (lstep n len s a).1.length ≤ s.1.length + 1 ∧ (lstep n len s a).2.length = s.2.length + 1 := by
  unfold lstep
  split
  · exact ⟨len_put _ _ _, by simp⟩
  · exact ⟨Nat.le_succ _, by simp⟩
end Len

namespace DS
open L2
/-! ### putting meanings together -/
theorem seq_nx {f g : FS} {env env' : Evn} {st st' : Sta} (h : f env st = some (.nx env', st')) : sSeq f g env st = g env' st' := by
  unfold sSeq
  rw [h]
theorem seq_rt {f g : FS} {env : Evn} {st st' : Sta} {d : D} (h : f env st = some (.rt d, st')) : sSeq f g env st = some (.rt d, st') := by
  unfold sSeq
  rw [h]
theorem fn_end {m : Nat} {fb : FS} {ds : List D} {st : Sta} {env : Evn} {r : Option (O × Sta)} (he : ds.map some ++ List.replicate (m - ds.length) none = env) (h : fb env st = r) : fnF m fb ds st = endF st.length r := by
  unfold fnF
  rw [he, h]
theorem fnO_end {m : Nat} {fb : FS} {ds : List D} {st : Sta} {env : Evn} {r : Option (O × Sta)} (he : ds.map some ++ List.replicate (m - ds.length) none = env) (h : fb env st = r) : fnO m fb ds st = endO r := by
  unfold fnO
  rw [he, h]
theorem f2_ok {op : D → D → Sta → Option (R D)} {fa fb : F D} {env : Evn} {st st1 st2 : Sta} {x y : D} (h1 : fa env st = some (.ok x st1)) (h2 : fb env st1 = some (.ok y st2)) : f2 op fa fb env st = op x y st2 := by
  unfold f2
  rw [h1]
  unfold bnd
  dsimp only
  rw [h2]
theorem cons_ok {fa : F D} {fr : F (List D)} {env : Evn} {st st1 st2 : Sta} {x : D} {xs : List D} (h1 : fa env st = some (.ok x st1)) (h2 : fr env st1 = some (.ok xs st2)) : fCons fa fr env st = some (.ok (x :: xs) st2) := by
  unfold fCons
  rw [h1]
  unfold bnd
  dsimp only
  rw [h2]
theorem fN_ok {op : List D → Sta → Option (R D)} {fa : F (List D)} {env : Evn} {st st1 : Sta} {xs : List D} (h1 : fa env st = some (.ok xs st1)) : fN op fa env st = op xs st1 := by
  unfold fN
  rw [h1]
  rfl
theorem nil_ok {env : Evn} {st : Sta} : fNil env st = some (.ok [] st) := rfl
theorem call_ok {n : Nat} {Fm : List D → Sta → Option (R D)} {ds : List D} {st : Sta} (h : ds.length = n) : oCall n Fm ds st = Fm ds st := by
  unfold oCall
  rw [if_pos h]
theorem callO_ok {n : Nat} {Fm : List D → Sta → Option (R D)} {ds : List D} {st st' : Sta} {d : D} (h : ds.length = n) (e : Fm ds st = some (.ok d st')) : oCallO n Fm ds st = some (.ok d st') := by
  unfold oCallO
  rw [if_pos h, e]
theorem asg_ok {i : Nat} {fa : F D} {env : Evn} {st st1 : Sta} {d : D} (h : fa env st = some (.ok d st1)) : sAsg i fa env st = some (.nx (env.set i (some d)), st1) := by
  unfold sAsg
  rw [h]
  rfl
theorem lst_ok {fa : F (List D)} {env : Evn} {st st1 : Sta} {xs : List D} (h : fa env st = some (.ok xs st1)) (hl : xs.length ≤ 100000) : fLst fa env st = some (.ok (.lst xs) st1) := by
  unfold fLst
  rw [h]
  unfold bnd
  dsimp only
  rw [if_pos hl]
theorem tup_ok {fa : F (List D)} {env : Evn} {st st1 : Sta} {xs : List D} (h : fa env st = some (.ok xs st1)) (hl : xs.length ≤ 100000) : fTup fa env st = some (.ok (.tup xs) st1) := by
  unfold fTup
  rw [h]
  unfold bnd
  dsimp only
  rw [if_pos hl]
theorem asgG_ok {fa : F D} {g : FG} {env env' : Evn} {st st1 st2 : Sta} {d : D} (h : fa env st = some (.ok d st1)) (h2 : g d env st1 = some (env', st2)) : sAsgG fa g env st = some (.nx env', st2) := by
  unfold sAsgG
  rw [h]
  unfold bndS
  dsimp only
  rw [h2]
theorem test_ok {fa : F D} {env : Evn} {st st1 : Sta} {b : Bool} (h : fa env st = some (.ok (.bl b) st1)) : fTest fa env st = some (.ok b st1) := by
  unfold fTest
  rw [h]
  rfl
theorem not_ok {t : F Bool} {env : Evn} {st st1 : Sta} {b : Bool} (h : t env st = some (.ok b st1)) : fNot t env st = some (.ok (!b) st1) := by
  unfold fNot
  rw [h]
  rfl
theorem if_t {t : F Bool} {f g : FS} {env : Evn} {st st1 : Sta} (h : t env st = some (.ok true st1)) : sIf t f g env st = f env st1 := by
  unfold sIf
  rw [h]
  rfl
theorem if_f {t : F Bool} {f g : FS} {env : Evn} {st st1 : Sta} (h : t env st = some (.ok false st1)) : sIf t f g env st = g env st1 := by
  unfold sIf
  rw [h]
  rfl
theorem fIf_t {t : F Bool} {f g : F D} {env : Evn} {st st1 : Sta} (h : t env st = some (.ok true st1)) : fIf t f g env st = f env st1 := by
  unfold fIf
  rw [h]
  rfl
theorem fIf_f {t : F Bool} {f g : F D} {env : Evn} {st st1 : Sta} (h : t env st = some (.ok false st1)) : fIf t f g env st = g env st1 := by
  unfold fIf
  rw [h]
  rfl
theorem forI_ok {fi : F (List D)} {g : FG} {body : FS} {env : Evn} {st st1 : Sta} {ds : List D} (h : fi env st = some (.ok ds st1)) : sForI fi g body env st = forF g body ds env st1 := by
  unfold sForI
  rw [h]
  rfl
theorem ret_ok {fa : F D} {env : Evn} {st st1 : Sta} {d : D} (h : fa env st = some (.ok d st1)) : sRet fa env st = some (.rt d, st1) := by
  unfold sRet
  rw [h]
  rfl
theorem drop_ok {fa : F D} {env : Evn} {st st1 : Sta} {d : D} (h : fa env st = some (.ok d st1)) : sDrop fa env st = some (.nx env, st1) := by
  unfold sDrop
  rw [h]
  rfl
theorem for_cons {g : FG} {body : FS} {d : D} {ds : List D} {env env1 env2 : Evn} {st st1 st2 : Sta} (h1 : g d env st = some (env1, st1)) (h2 : body env1 st1 = some (.nx env2, st2)) : forF g body (d :: ds) env st = forF g body ds env2 st2 := by
  rw [forF, h1]
  dsimp only
  rw [h2]
theorem call1 {Fm : List D → Sta → Option (R D)} {fa : F D} {env : Evn} {st st1 st2 : Sta} {a r : D} (h1 : fa env st = some (.ok a st1)) (k : Fm [a] st1 = some (.ok r st2)) : fN (oCall 1 Fm) (fCons fa fNil) env st = some (.ok r st2) :=
  (fN_ok (cons_ok h1 nil_ok)).trans ((call_ok rfl).trans k)
theorem call2 {Fm : List D → Sta → Option (R D)} {fa fb : F D} {env : Evn} {st st1 st2 st3 : Sta} {a b r : D} (h1 : fa env st = some (.ok a st1)) (h2 : fb env st1 = some (.ok b st2)) (k : Fm [a, b] st2 = some (.ok r st3)) : fN (oCall 2 Fm) (fCons fa (fCons fb fNil)) env st = some (.ok r st3) :=
  (fN_ok (cons_ok h1 (cons_ok h2 nil_ok))).trans ((call_ok rfl).trans k)
theorem call3 {Fm : List D → Sta → Option (R D)} {fa fb fc : F D} {env : Evn} {st st1 st2 st3 st4 : Sta} {a b c r : D} (h1 : fa env st = some (.ok a st1)) (h2 : fb env st1 = some (.ok b st2)) (h3 : fc env st2 = some (.ok c st3)) (k : Fm [a, b, c] st3 = some (.ok r st4)) : fN (oCall 3 Fm) (fCons fa (fCons fb (fCons fc fNil))) env st = some (.ok r st4) :=
  (fN_ok (cons_ok h1 (cons_ok h2 (cons_ok h3 nil_ok)))).trans ((call_ok rfl).trans k)
theorem call4 {Fm : List D → Sta → Option (R D)} {fa fb fc fd : F D} {env : Evn} {st st1 st2 st3 st4 st5 : Sta} {a b c d r : D} (h1 : fa env st = some (.ok a st1)) (h2 : fb env st1 = some (.ok b st2)) (h3 : fc env st2 = some (.ok c st3)) (h4 : fd env st3 = some (.ok d st4)) (k : Fm [a, b, c, d] st4 = some (.ok r st5)) : fN (oCall 4 Fm) (fCons fa (fCons fb (fCons fc (fCons fd fNil)))) env st = some (.ok r st5) :=
  (fN_ok (cons_ok h1 (cons_ok h2 (cons_ok h3 (cons_ok h4 nil_ok))))).trans ((call_ok rfl).trans k)
theorem callO3 {Fm : List D → Sta → Option (R D)} {fa fb fc : F D} {env : Evn} {st st1 st2 st3 st4 : Sta} {a b c r : D} (h1 : fa env st = some (.ok a st1)) (h2 : fb env st1 = some (.ok b st2)) (h3 : fc env st2 = some (.ok c st3)) (k : Fm [a, b, c] st3 = some (.ok r st4)) : fN (oCallO 3 Fm) (fCons fa (fCons fb (fCons fc fNil))) env st = some (.ok r st4) :=
  (fN_ok (cons_ok h1 (cons_ok h2 (cons_ok h3 nil_ok)))).trans (callO_ok rfl k)
theorem app_ok {fo fa : F D} {env : Evn} {st st1 st2 : Sta} {k : Nat} {ds0 ds : List D} {d : D} (h1 : fo env st = some (.ok (.cell k) st1)) (h2 : st1[k]? = some (.lst ds0)) (h3 : fa env st1 = some (.ok d st2)) (h4 : st2[k]? = some (.lst ds)) (hl : ds.length < 100000) : fApp fo fa env st = some (.ok .non (st2.set k (.lst (ds ++ [d])))) := by
  unfold fApp
  rw [h1]
  unfold bnd
  dsimp only
  rw [h2]
  simp only [isLst, if_true]
  rw [h3]
  dsimp only
  unfold oApp
  rw [h4]
  dsimp only
  rw [if_pos hl]
theorem putD_ok {fa fo fi : F D} {env : Evn} {st st1 st2 st3 : Sta} {k : Nat} {i : Int} {ks : List (Int × D)} {d : D} (h1 : fa env st = some (.ok d st1)) (h2 : fo env st1 = some (.ok (.cell k) st2)) (h3 : fi env st2 = some (.ok (.int i) st3)) (h4 : st3[k]? = some (.dct ks)) (hl : ks.length < 100000) : sPutD fa fo fi env st = some (.nx env, st3.set k (.dct (putD' ks i d))) := by
  unfold sPutD
  rw [h1]
  unfold bndS
  dsimp only
  rw [h2]
  dsimp only
  rw [h3]
  dsimp only
  rw [h4]
  dsimp only
  rw [if_pos hl]
/-- a comprehension that chooses -/
theorem lc_filter {α : Type} (f : α → D) (p : α → Bool) (o : α → D) {g : FG} {t : F Bool} {fe : F D} {env : Evn} {st : Sta} : ∀ (xs : List α) (acc : List D), (∀ x ∈ xs, ∃ e1, g (f x) env st = some (e1, st) ∧ t e1 st = some (.ok (p x) st) ∧ (p x = true → fe e1 st = some (.ok (o x) st))) → acc.length + xs.length < 100000 →
    lcF g t fe env (xs.map f) acc st = some (.ok (acc ++ (xs.filter p).map o) st)
  | [], acc, _, _ => by simp [lcF]
  | x :: xs, acc, h, hl => by
    simp only [List.length_cons] at hl
    have hl2 : acc.length < 100000 := by omega
    obtain ⟨e1, k1, k2, k3⟩ := h x List.mem_cons_self
    cases hp : p x with
    | false =>
      rw [hp] at k2
      have h2 := lc_filter f p o xs acc (fun x hx => h x (List.mem_cons_of_mem _ hx)) (by omega)
      simp only [List.map_cons, lcF, k1, bnd0, k2, h2, List.filter_cons, hp, Bool.false_eq_true, if_false]
    | true =>
      rw [hp] at k2
      have h2 := lc_filter f p o xs (acc ++ [o x]) (fun x hx => h x (List.mem_cons_of_mem _ hx)) (by simp; omega)
      simp only [List.map_cons, lcF, k1, bnd0, k2, k3 hp, hl2, if_true, h2, List.filter_cons, hp, List.append_assoc, List.cons_append, List.nil_append]
theorem fLc_ok {fi : F (List D)} {g : FG} {t : F Bool} {fe : F D} {vs : List Nat} {env env1 : Evn} {st st1 st2 : Sta} {ds ys : List D} (h1 : fi env st = some (.ok ds st1)) (hw : wipeE env vs = env1) (h2 : lcF g t fe env1 ds [] st1 = some (.ok ys st2)) : fLc fi g t fe vs env st = some (.ok (.lst ys) st2) := by
  unfold fLc
  rw [h1]
  unfold bnd
  dsimp only
  rw [hw, h2]
theorem fLcV_ok {i : Nat} {wk : List (Int × D) → List D} {g : FG} {t : F Bool} {fe : F D} {vs : List Nat} {env env1 : Evn} {st : Sta} {k : Nat} {ks : List (Int × D)} {ys : List D} (h1 : env[i]? = some (some (.cell k))) (h2 : st[k]? = some (.dct ks)) (h3 : plk 0 ks = true) (hw : wipeE (envShut env) vs = env1) (h4 : lcF g t fe env1 (wk ks) [] [] = some (.ok ys [])) (h5 : pls 0 ys = true) :
    fLcV i wk g t fe vs env st = some (.ok (.lst ys) st) := by
  unfold fLcV
  rw [h1]
  dsimp only [dctOf]
  rw [h2]
  dsimp only
  rw [if_pos h3, hw, h4]
  dsimp only
  rw [if_pos h5]
theorem at0 (st : Sta) (a b : Cell) : (st ++ [a, b])[st.length]? = some a := by rw [List.getElem?_append_right (Nat.le_refl _), Nat.sub_self]; rfl
theorem at1 (st : Sta) (a b : Cell) : (st ++ [a, b])[st.length + 1]? = some b := by
  rw [List.getElem?_append_right (Nat.le_succ _)]
  show [a, b][st.length + 1 - st.length]? = _
  rw [Nat.add_sub_cancel_left]
  rfl
theorem set0 (st : Sta) (a b c : Cell) : (st ++ [a, b]).set st.length c = st ++ [c, b] := by rw [List.set_append_right _ _ (Nat.le_refl _), Nat.sub_self]; rfl
theorem set1 (st : Sta) (a b c : Cell) : (st ++ [a, b]).set (st.length + 1) c = st ++ [a, c] := by
  rw [List.set_append_right _ _ (Nat.le_succ _)]
  show st ++ [a, b].set (st.length + 1 - st.length) c = _
  rw [Nat.add_sub_cancel_left]
  rfl
/-! ### the tables as data -/
open Len
def prD (d : Int × Int) : D := .tup [.int d.1, .int d.2]
def encD (h : Tab) : List (Int × D) := h.map fun p => (p.1, prD p.2)
def optD : Option Int → D
  | some k => .int k
  | none => .non
theorem getK_enc (i : Int) : ∀ h : Tab, getK (encD h) i = (Len.get h i).map prD
  | [] => rfl
  | (j, d) :: r => by
    have ih := getK_enc i r
    unfold encD at ih ⊢
    rw [List.map_cons]
    simp only [getK, Len.get]
    by_cases e : j = i
    · rw [if_pos e, if_pos e]; rfl
    · rw [if_neg e, if_neg e]; exact ih
theorem repK_enc (i : Int) (d : Int × Int) : ∀ h : Tab, repK i (prD d) (encD h) = encD (rep i d h)
  | [] => rfl
  | (j, e) :: r => by
    have ih := repK_enc i d r
    unfold encD at ih ⊢
    rw [List.map_cons]
    simp only [repK, rep]
    rw [List.map_cons, ih]
    by_cases e : j = i
    · rw [if_pos e, if_pos e]
    · rw [if_neg e, if_neg e]
theorem put_enc (h : Tab) (i : Int) (d : Int × Int) : putD' (encD h) i (prD d) = encD (put h i d) := by
  unfold putD' put
  rw [getK_enc, repK_enc]
  cases Len.get h i with
  | none => simp [encD]
  | some e => simp
theorem plk_enc (n : Nat) : ∀ h : Tab, plk n (encD h) = true
  | [] => rfl
  | (j, d) :: r => by
    have ih := plk_enc n r
    unfold encD at ih ⊢
    rw [List.map_cons]
    unfold plk
    rw [ih]
    rfl
theorem pls_int (n : Nat) : ∀ zs : List Int, pls n (zs.map .int) = true
  | [] => rfl
  | z :: zs => by
    rw [List.map_cons]
    unfold pls
    rw [pls_int n zs]
    rfl
theorem pls_opt (n : Nat) : ∀ zs : List (Option Int), pls n (zs.map optD) = true
  | [] => rfl
  | z :: zs => by
    rw [List.map_cons]
    unfold pls
    rw [pls_opt n zs]
    cases z <;> rfl
theorem pls_pr (n : Nat) : ∀ zs : List (Int × Int), pls n (zs.map prD) = true
  | [] => rfl
  | z :: zs => by
    rw [List.map_cons]
    unfold pls
    rw [pls_pr n zs]
    rfl
theorem notIn_int (z : Int) (tk : List Int) (st : Sta) : oNotIn (.int z) (.lst (tk.map .int)) st = some (.ok (.bl (!(tk.contains z))) st) := by
  have ha : (tk.map D.int).all flatD = true := by
    rw [List.all_map]
    exact List.all_eq_true.mpr fun _ _ => rfl
  have he : ((tk.map D.int).any fun y => eqF y (.int z)) = tk.contains z := by
    rw [List.any_map, Bool.eq_iff_iff, List.contains_iff_mem, List.any_eq_true]
    constructor
    · rintro ⟨y, h1, h2⟩
      have : (y == z) = true := h2
      rw [eq_of_beq this] at h1
      exact h1
    · intro h
      exact ⟨z, h, (beq_self_eq_true z : (z == z) = true)⟩
  unfold oNotIn seqOf
  dsimp only
  rw [ha, he]
  rfl
theorem rng_zs (n : Int) : rng 0 n.toNat = (zs n).map .int := by
  unfold rng zs
  rw [List.map_map]
  rfl
end DS

namespace DS
open L2 Len
/-! ### data that is equal to itself -/
def Fine (n : Nat) (x : D) : Prop := ∃ p, toP x = some p ∧ p.canLay0 = true ∧ p.depth ≤ n ∧ PySem.PyData.eqv p p = true
def FineL (n : Nat) (xs : List D) : Prop := ∃ ps, toPs xs = some ps ∧ PySem.PyData.canLayAll0 ps = true ∧ PySem.PyData.depthAll ps ≤ n ∧ PySem.PyData.eqvAll ps ps = true
theorem fine_int (i : Int) : Fine 0 (.int i) := ⟨.int i, rfl, rfl, Nat.le_refl _, by simp [PySem.PyData.eqv]⟩
theorem fine_non : Fine 0 .non := ⟨.none, rfl, rfl, Nat.le_refl _, rfl⟩
theorem Fine.le {n m : Nat} {x : D} (h : Fine n x) (l : n ≤ m) : Fine m x := by
  obtain ⟨p, a, b, c, d⟩ := h
  exact ⟨p, a, b, by omega, d⟩
theorem fineL_nil (n : Nat) : FineL n [] := ⟨[], rfl, rfl, Nat.zero_le _, rfl⟩
theorem fineL_cons {n : Nat} {x : D} {xs : List D} (h : Fine n x) (h2 : FineL n xs) : FineL n (x :: xs) := by
  obtain ⟨p, a, b, c, d⟩ := h
  obtain ⟨ps, a2, b2, c2, d2⟩ := h2
  refine ⟨p :: ps, by unfold toPs; rw [a]; simp [a2], ?_, ?_, ?_⟩
  · unfold PySem.PyData.canLayAll0; rw [b, b2]; rfl
  · unfold PySem.PyData.depthAll; omega
  · unfold PySem.PyData.eqvAll; rw [d, d2]; rfl
theorem fineL_of {n : Nat} : ∀ {xs : List D}, (∀ x ∈ xs, Fine n x) → FineL n xs
  | [], _ => fineL_nil n
  | x :: xs, h => fineL_cons (h x List.mem_cons_self) (fineL_of fun y hy => h y (List.mem_cons_of_mem _ hy))
theorem fine_tup {n : Nat} {xs : List D} (h : FineL n xs) : Fine (n + 1) (.tup xs) := by
  obtain ⟨ps, a, b, c, d⟩ := h
  refine ⟨.tuple ps, by unfold toP; rw [a]; rfl, ?_, ?_, ?_⟩
  · unfold PySem.PyData.canLay0; exact b
  · unfold PySem.PyData.depth; omega
  · unfold PySem.PyData.eqv; exact d
theorem fine_lst {n : Nat} {xs : List D} (h : FineL n xs) : Fine (n + 1) (.lst xs) := by
  obtain ⟨ps, a, b, c, d⟩ := h
  refine ⟨.list ps, by unfold toP; rw [a]; rfl, ?_, ?_, ?_⟩
  · unfold PySem.PyData.canLay0; exact b
  · unfold PySem.PyData.depth; omega
  · unfold PySem.PyData.eqv; exact d
theorem fine_eq {n : Nat} {x : D} (h : Fine n x) (hn : n ≤ 64) : eqD x x = some true := by
  obtain ⟨p, a, b, c, d⟩ := h
  have s : PySem.SeqAt.shaped p = true := Bool.and_eq_true_iff.mpr ⟨b, decide_eq_true (by omega)⟩
  unfold eqD
  rw [a]
  dsimp only
  rw [if_pos ⟨s, s⟩, d]
theorem fine_ints (zs : List Int) : FineL 0 (zs.map .int) := fineL_of fun x hx => by
  obtain ⟨z, _, rfl⟩ := List.mem_map.mp hx
  exact fine_int z
theorem fine_opts (zs : List (Option Int)) : FineL 0 (zs.map optD) := fineL_of fun x hx => by
  obtain ⟨z, _, rfl⟩ := List.mem_map.mp hx
  cases z with
  | none => exact fine_non
  | some k => exact fine_int k
theorem fine_prs (zs : List (Int × Int)) : FineL 1 (zs.map prD) := fineL_of fun x hx => by
  obtain ⟨z, _, rfl⟩ := List.mem_map.mp hx
  exact fine_tup (fineL_cons (fine_int _) (fineL_cons (fine_int _) (fineL_nil _)))
theorem eq_nil (zs : List Int) : eqD (.lst (zs.map .int)) (.lst []) = some (zs.isEmpty) := by
  cases zs with
  | nil => exact fine_eq (fine_lst (fineL_nil 0)) (by omega)
  | cons z zs =>
    obtain ⟨ps, a, b, c, d⟩ := fine_ints (z :: zs)
    have s : PySem.SeqAt.shaped (.list ps) = true := Bool.and_eq_true_iff.mpr ⟨b, decide_eq_true (by unfold PySem.PyData.depth; omega)⟩
    have s2 : PySem.SeqAt.shaped (.list []) = true := rfl
    have e1 : toP (.lst ((z :: zs).map .int)) = some (.list ps) := by unfold toP; rw [a]; rfl
    have e2 : toP (.lst []) = some (.list []) := rfl
    unfold eqD
    rw [e1, e2]
    dsimp only
    rw [if_pos ⟨s, s2⟩]
    cases ps with
    | nil =>
      exfalso
      rw [List.map_cons] at a
      unfold toPs at a
      obtain ⟨q, _, h2⟩ := Option.bind_eq_some_iff.mp a
      obtain ⟨q2, _, h3⟩ := Option.map_eq_some_iff.mp h2
      cases h3
    | cons p ps =>
      unfold PySem.PyData.eqv PySem.PyData.eqvAll
      rfl
theorem neS_nil (zs : List Int) (st : Sta) : oNeS (.lst (zs.map .int)) (.lst []) st = some (.ok (.bl (!zs.isEmpty)) st) := by
  have e : eqD (rs st (.lst (zs.map .int))) (rs st (.lst [])) = some (zs.isEmpty) := eq_nil zs
  unfold oNeS
  rw [e]
  rfl
theorem neS_same {x y : D} {st : Sta} {d : D} {n : Nat} (h1 : rs st x = d) (h2 : rs st y = d) (h : Fine n d) (hn : n ≤ 64) : oNeS x y st = some (.ok (.bl false) st) := by
  unfold oNeS
  rw [h1, h2, fine_eq h hn]
  rfl
theorem eqS_same {x y : D} {st : Sta} {d : D} {n : Nat} (h1 : rs st x = d) (h2 : rs st y = d) (h : Fine n d) (hn : n ≤ 64) : oEqS x y st = some (.ok (.bl true) st) := by
  unfold oEqS
  rw [h1, h2, fine_eq h hn]
  rfl
theorem eqS_int (i j : Int) (st : Sta) : oEqS (.int i) (.int j) st = some (.ok (.bl (decide (i = j))) st) := by
  have h1 : PySem.SeqAt.shaped (.int i) = true := rfl
  have h2 : PySem.SeqAt.shaped (.int j) = true := rfl
  have e : eqD (.int i) (.int j) = some (decide (i = j)) := by
    simp only [eqD, toP, h1, h2]
    rfl
  show (match eqD (.int i) (.int j) with | some b => ret (.bl b) st | none => none) = _
  rw [e]
  rfl
theorem sortK_enc {st : Sta} {k : Nat} {r : Tab} (hk : st[k]? = some (.dct (encD r))) (hl : r.length < 64) : oSortK [.cell k] st = some (.ok (.lst ((sortK r).map .int)) st) := by
  have hd : dctOf (.cell k) st = some (encD r) := by unfold dctOf; dsimp only; rw [hk]
  have e : (encD r).map (·.1) = keys r := by unfold encD keys; rw [List.map_map]; rfl
  have l : (encD r).length < 64 := by unfold encD; rw [List.length_map]; exact hl
  unfold oSortK
  dsimp only
  rw [hd]
  dsimp only
  rw [if_pos l, e]
  rfl
theorem dix_enc {st : Sta} {k : Nat} {r : Tab} (hk : st[k]? = some (.dct (encD r))) {i : Int} {d : Int × Int} (hg : Len.get r i = some d) : oDIx (.cell k) (.int i) st = some (.ok (prD d) st) := by
  have hd : dctOf (.cell k) st = some (encD r) := by unfold dctOf; dsimp only; rw [hk]
  unfold oDIx
  rw [hd]
  dsimp only
  rw [getK_enc, hg]
  rfl
end DS

namespace Law
open L2 DS Len
/-! ### the ends of defs -/
theorem end_cut {st0 st1 rest : Sta} {d d' : D} (hl : st1.length = st0.length) (hr : 0 < rest.length) (hp : pls_st st0.length st1 = true) (hz : fz2 st0.length (st1 ++ rest) d = some d') : endF st0.length (some (.rt d, st1 ++ rest)) = some (.ok d' st1) := by
  have h1 : ¬ (st1 ++ rest).length = st0.length := by simp; omega
  have h2 : (st1 ++ rest).take st0.length = st1 := by rw [← hl, List.take_left]
  show (if (st1 ++ rest).length = st0.length then _ else if pls_st st0.length ((st1 ++ rest).take st0.length) = true then _ else _) = _
  rw [if_neg h1, h2, if_pos hp, hz]
  rfl
theorem end_same {st0 st1 : Sta} {d : D} (hl : st1.length = st0.length) : endF st0.length (some (.rt d, st1)) = some (.ok d st1) := by
  show (if st1.length = st0.length then _ else _) = _
  rw [if_pos hl]
theorem endN_same {st0 st1 : Sta} {env : Evn} (hl : st1.length = st0.length) : endF st0.length (some (.nx env, st1)) = some (.ok .non st1) := by
  show (if st1.length = st0.length then _ else _) = _
  rw [if_pos hl]
theorem endE_same {st0 st1 : Sta} {env : Evn} {c : Nat} {fs : List (PySem.Str × D)} (hl : st1.length = st0.length) : endF st0.length (some (.er c fs env, st1)) = some (.err c fs st1) := by
  show (if st1.length = st0.length then _ else _) = _
  rw [if_pos hl]
theorem endE_cut {st0 st1 rest : Sta} {env : Evn} {c : Nat} {fs : List (PySem.Str × D)} (hl : st1.length = st0.length) (hr : 0 < rest.length) (hp : pls_st st0.length st1 = true) (hz : plf st0.length fs = true) : endF st0.length (some (.er c fs env, st1 ++ rest)) = some (.err c fs st1) := by
  have h1 : ¬ (st1 ++ rest).length = st0.length := by simp; omega
  have h2 : (st1 ++ rest).take st0.length = st1 := by rw [← hl, List.take_left]
  show (if (st1 ++ rest).length = st0.length then _ else if pls_st st0.length ((st1 ++ rest).take st0.length) = true ∧ plf st0.length fs = true then _ else _) = _
  rw [if_neg h1, h2, if_pos ⟨hp, hz⟩]
theorem fz2_ins {n : Nat} {st : Sta} {c : Nat} {fs : List (PySem.Str × D)} (h : pl n (.ins c fs) = true) : fz2 n st (.ins c fs) = some (.ins c fs) := by
  show (if pl n (.ins c fs) = true then _ else _) = _
  rw [if_pos h]
theorem fz2_lst {n : Nat} {st : Sta} {ds : List D} (h : pls n ds = true) : fz2 n st (.lst ds) = some (.lst ds) := by
  show (if pl n (.lst ds) = true then _ else _) = _
  rw [if_pos (show pl n (.lst ds) = true from by unfold pl; exact h)]
/-- a list of one's own is handed out -/
theorem fz2_own {n k : Nat} {st : Sta} {ds : List D} (hk : n ≤ k) (e : st[k]? = some (.lst ds)) (h : pls n ds = true) : fz2 n st (.cell k) = some (.lst ds) := by
  show (if k < n then _ else match st[k]? with | some (.lst ds) => _ | some (.dct ks) => _ | some (.dcs ks) => _ | some (.dck ks ds) => _ | _ => none) = _
  rw [if_neg (by omega), e]
  show (if pls n ds = true then _ else _) = _
  rw [if_pos h]
theorem fz_own {n k : Nat} {st : Sta} {ds : List D} (hk : n ≤ k) (e : st[k]? = some (.lst ds)) (h : pls n ds = true) : fz n st (.cell k) = some (.lst ds) := fz2_own hk e h
theorem for_nil {g : FG} {body : FS} {env : Evn} {st : Sta} : forF g body [] env st = some (.nx env, st) := rfl
theorem new_ok {fa : F (List D)} {env : Evn} {st st1 : Sta} {xs : List D} (h : fa env st = some (.ok xs st1)) (hl : xs.length ≤ 100000) : fNew fa env st = some (.ok (.cell st1.length) (st1 ++ [.lst xs])) := by
  unfold fNew
  rw [h]
  show (if xs.length ≤ 100000 then _ else _) = _
  rw [if_pos hl]
theorem f1_ok {op : D → Sta → Option (R D)} {fa : F D} {env : Evn} {st st1 : Sta} {x : D} (h1 : fa env st = some (.ok x st1)) : f1 op fa env st = op x st1 := by
  unfold f1
  rw [h1]
  rfl
theorem ext_ok {fo fa : F D} {env : Evn} {st st1 st2 : Sta} {k : Nat} {ds0 ds es : List D} {d : D} (h1 : fo env st = some (.ok (.cell k) st1)) (h2 : st1[k]? = some (.lst ds0)) (h3 : fa env st1 = some (.ok d st2)) (h4 : st2[k]? = some (.lst ds)) (he : lsOf d st2 = some es) (hl : ds.length + es.length ≤ 100000) :
    fExt fo fa env st = some (.ok .non (st2.set k (.lst (ds ++ es)))) := by
  unfold fExt
  rw [h1]
  unfold bnd
  dsimp only
  rw [if_pos (show isLst st1[k]? = true by rw [h2]; rfl), h3]
  dsimp only
  unfold oExt
  rw [h4, he]
  dsimp only
  rw [if_pos hl]
theorem lenO_ok {c : Nat} {Fl : List D → Sta → Option (R D)} {fa : F D} {env : Evn} {st st1 st2 : Sta} {x : D} {fs : List (PySem.Str × D)} {n : Int} (h : fa env st = some (.ok x st1)) (hi : insOf x st1 = some (c, fs)) (hf : Fl [x] st1 = some (.ok (.int n) st2)) (hn : 0 ≤ n ∧ n < 2 ^ 63) : fN (oLenO c Fl) (fCons fa fNil) env st = some (.ok (.int n) st2) := by
  rw [fN_ok (cons_ok h nil_ok)]
  unfold oLenO
  dsimp only
  rw [hi]
  dsimp only
  rw [if_pos rfl, hf]
  dsimp only
  rw [if_pos hn]
theorem prop_ok {c : Nat} {Fg : List D → Sta → Option (R D)} {fa : F D} {env : Evn} {st st1 st2 : Sta} {x d : D} {fs : List (PySem.Str × D)} (h : fa env st = some (.ok x st1)) (hi : insOf x st1 = some (c, fs)) (hf : Fg [x] st1 = some (.ok d st2)) : fProp c Fg fa env st = some (.ok d st2) := by
  unfold fProp
  rw [h]
  unfold bnd
  dsimp only
  rw [hi]
  dsimp only
  rw [if_pos rfl, hf]
theorem sl_ok {fa : F D} {fl fh : F (Option Int)} {env : Evn} {st st1 st2 st3 : Sta} {x : D} {l h : Option Int} (h1 : fa env st = some (.ok x st1)) (h2 : fl env st1 = some (.ok l st2)) (h3 : fh env st2 = some (.ok h st3)) : fSl fa fl fh env st = oSl x l h st3 := by
  unfold fSl bnd
  rw [h1]
  dsimp only
  rw [h2]
  dsimp only
  rw [h3]
theorem part_ok {fa : F D} {env : Evn} {st st1 : Sta} {i : Int} (h : fa env st = some (.ok (.int i) st1)) : fPart fa env st = some (.ok (some i) st1) := by
  unfold fPart bnd
  rw [h]
theorem cut_take (xs : List D) (k : Nat) : cutD xs none (some (k : Int)) = xs.take k := by
  unfold cutD
  rw [HT.sIx_nat, HT.sIx_none, Nat.sub_zero, List.drop_zero]
  by_cases h : k ≤ xs.length
  · rw [Nat.min_eq_left h]
  · rw [Nat.min_eq_right (by omega), List.take_length, List.take_of_length_le (by omega)]
end Law

namespace Law
open PySem L2 PySem.Spec PyProof.Rows DS
def top (i : Nat) : Stmt := PySem.Challenge.pw_manymakers_k43_texts_rejected.main.body.getD i (.Pass ⟨0, 0, 0, 0⟩)
structure Tx (K : PySem.W.Frag) (w : World) (mg : Str → Option Value) (ca : Ca) : Prop where
  n_all : mg "all" = none
  n_bool : mg "bool" = none
  n_enumerate : mg "enumerate" = none
  n_int : mg "int" = none
  n_isinstance : mg "isinstance" = none
  n_len : mg "len" = none
  n_max : mg "max" = none
  n_min : mg "min" = none
  n_range : mg "range" = none
  n_str : mg "str" = none
  n_tuple : mg "tuple" = none
  k_BACK_WORDS : ∃ a, TupK K a ["trust", "hold", "refuse"] ∧ mg "BACK_WORDS" = some (.ref a)
  k_DIGITS : ∃ t, mg "DIGITS" = some (.str "0123456789" t)
  k_EVENT_PARTS : ∃ a, TblK K w a [("clock", 3), ("restart", 2), ("give", 2)] ∧ mg "EVENT_PARTS" = some (.ref a)
  k_FULL_WORDS : ∃ a, TupK K a ["wrap", "borrow", "refuse"] ∧ mg "FULL_WORDS" = some (.ref a)
  k_HISTORY_DIGITS : ∃ t, mg "HISTORY_DIGITS" = some (.int (1) t)
  k_NO_READING : ∃ t, mg "NO_READING" = some (.int (-1) t)
  k_RESTART_WORDS : ∃ a, TupK K a ["forget", "saved", "wait"] ∧ mg "RESTART_WORDS" = some (.ref a)
  k2_EVENT_PARTS : ∃ a, TblW K w a [("clock", 3), ("restart", 2), ("give", 2)] ∧ mg "EVENT_PARTS" = some (.ref a)
  c_Plan : ClsI K (ca 0) ∧ mg "Plan" = some (.ref (ca 0))
  c_Setup : ClsI K (ca 1) ∧ mg "Setup" = some (.ref (ca 1))
  a_Plan__on_back : NoAttr K (ca 0) "_on_back"
  a_Plan__on_full : NoAttr K (ca 0) "_on_full"
  a_Plan__on_restart : NoAttr K (ca 0) "_on_restart"
  a_Setup__ahead : NoAttr K (ca 1) "_ahead"
  a_Setup__back : NoAttr K (ca 1) "_back"
  a_Setup__limit : NoAttr K (ca 1) "_limit"
  a_Setup__marks : NoAttr K (ca 1) "_marks"
  a_Setup__plans : NoAttr K (ca 1) "_plans"
  a_Setup__top : NoAttr K (ca 1) "_top"
  cw : ca.w = w
  co : ca.opq = fun _ => none
  r_InvalidLine : ∀ (P : Program) (base : Heap), RaiOk P w K mg base ca 5 "InvalidLine" ["row", "word"]
  r_InvalidEvent : HK.Rao K mg (ca 2) "InvalidEvent"
  r_UnknownMaker : HK.Rao K mg (ca 3) "UnknownMaker"
  rh_InvalidHistory : ∀ (P : Program) (base : Heap), RaiHOk P w K mg base ca 4 "InvalidHistory" ["index"]
  hc_0 : ∃ u, mg "InvalidLine" = some (.ref u) ∧ (∀ c b, HK.ccL [(2, "InvalidEvent", false), (3, "UnknownMaker", false), (4, "InvalidHistory", false), (5, "InvalidLine", true)] c = some b → PySem.W.exmOne K (.ref (ca c)) (.ref u) = some b)
  xf_0_row : ∀ c, HK.ccL [(2, "InvalidEvent", false), (3, "UnknownMaker", false), (4, "InvalidHistory", false), (5, "InvalidLine", true)] c = some true → XfC K (ca c) ∧ PySem.W.findIn K (.ref (ca c)) "row" = some none
  xf_0_word : ∀ c, HK.ccL [(2, "InvalidEvent", false), (3, "UnknownMaker", false), (4, "InvalidHistory", false), (5, "InvalidLine", true)] c = some true → XfC K (ca c) ∧ PySem.W.findIn K (.ref (ca c)) "word" = some none
  hc_1 : ∃ u, mg "InvalidHistory" = some (.ref u) ∧ (∀ c b, HK.ccL [(2, "InvalidEvent", false), (3, "UnknownMaker", false), (4, "InvalidHistory", true), (5, "InvalidLine", false)] c = some b → PySem.W.exmOne K (.ref (ca c)) (.ref u) = some b)
  xf_1_index : ∀ c, HK.ccL [(2, "InvalidEvent", false), (3, "UnknownMaker", false), (4, "InvalidHistory", true), (5, "InvalidLine", false)] c = some true → XfC K (ca c) ∧ PySem.W.findIn K (.ref (ca c)) "index" = some none
  hc_2 : ∃ u, mg "InvalidEvent" = some (.ref u) ∧ (∀ c b, HK.ccL [(2, "InvalidEvent", true), (3, "UnknownMaker", false), (4, "InvalidHistory", false), (5, "InvalidLine", false)] c = some b → PySem.W.exmOne K (.ref (ca c)) (.ref u) = some b)
  hc_3 : ∃ u, mg "UnknownMaker" = some (.ref u) ∧ (∀ c b, HK.ccL [(2, "InvalidEvent", false), (3, "UnknownMaker", true), (4, "InvalidHistory", false), (5, "InvalidLine", false)] c = some b → PySem.W.exmOne K (.ref (ca c)) (.ref u) = some b)
/-! ### the meanings -/
def b_is_word : FS := (sRet (fAndV (fIsTy "str" (fVar 0)) (f2 oIn (fVar 0) (fVar 1))))
def F_is_word : List D → Sta → Option (R D) := fnF 2 b_is_word
def b_Plan__init : FS := (sSeq (sForI (iT (fTup (fCons (fTup (fCons (fC (.str "on_back")) (fCons (fVar 1) (fCons (fC (.tup [.str "trust", .str "hold", .str "refuse"])) fNil)))) (fCons (fTup (fCons (fC (.str "on_full")) (fCons (fVar 2) (fCons (fC (.tup [.str "wrap", .str "borrow", .str "refuse"])) fNil)))) (fCons (fTup (fCons (fC (.str "on_restart")) (fCons (fVar 3) (fCons (fC (.tup [.str "forget", .str "saved", .str "wait"])) fNil)))) fNil))))) (gTp 3 (gCn (gN 4) (gCn (gN 5) (gCn (gN 6) gNl))))
  (sIf (fNot (fTest (fN (oCall 2 F_is_word) (fCons (fVar 5) (fCons (fVar 6) fNil)))))
  sNever
  sNx))
  (sSeq (sFldS 0 "_on_back" (fVar 0) (fVar 1))
  (sSeq (sFldS 0 "_on_full" (fVar 0) (fVar 2))
  (sFldS 0 "_on_restart" (fVar 0) (fVar 3)))))
def F_Plan__init : List D → Sta → Option (R D) := fnF 7 b_Plan__init
def b_is_integer : FS := (sRet (fAndV (fIsTy "int" (fVar 0)) (fNotV (fIsTy "bool" (fVar 0)))))
def F_is_integer : List D → Sta → Option (R D) := fnF 1 b_is_integer
def b_is_between : FS := (sRet (fAndV (fN (oCall 1 F_is_integer) (fCons (fVar 0) fNil)) (fChain oLe oLe (fVar 1) (fVar 0) (fVar 2))))
def F_is_between : List D → Sta → Option (R D) := fnF 3 b_is_between
def b_are_marks : FS := (sSeq (sIf (fOr (fNot (fTest (fIsTy "tuple" (fVar 0)))) (fTest (f2 oNeS (fN oLen (fCons (fVar 0) fNil)) (fVar 1))))
  (sRet (fC (.bl false)))
  sNx)
  (sRet (fN oAll (fCons (fLc (iT (fVar 0)) (gN 2) fYes (fN (oCall 3 F_is_between) (fCons (fVar 2) (fCons (fC (.int 0)) (fCons (fC (.int 3)) fNil)))) [2]) fNil))))
def F_are_marks : List D → Sta → Option (R D) := fnF 3 b_are_marks
def b_are_plans : FS := (sSeq (sIf (fOr (fNot (fTest (fIsTy "tuple" (fVar 0)))) (fNot (fTest (fChain oLe oLe (fC (.int 1)) (fN oLen (fCons (fVar 0) fNil)) (fC (.int 2))))))
  (sRet (fC (.bl false)))
  sNx)
  (sRet (fN oAll (fCons (fLc (iT (fVar 0)) (gN 1) fYes (fIsOwn 0 (fVar 1)) [1]) fNil))))
def F_are_plans : List D → Sta → Option (R D) := fnF 2 b_are_plans
def b_Setup__init : FS := (sSeq (sIf (fNot (fTest (fN (oCall 1 F_are_plans) (fCons (fVar 1) fNil))))
  sNever
  sNx)
  (sSeq (sIf (fNot (fTest (fN (oCall 2 F_are_marks) (fCons (fVar 2) (fCons (fN oLen (fCons (fVar 1) fNil)) fNil)))))
  sNever
  sNx)
  (sSeq (sForI (iT (fTup (fCons (fTup (fCons (fC (.str "top")) (fCons (fVar 3) (fCons (fC (.int 1)) (fCons (fC (.int 2)) fNil))))) (fCons (fTup (fCons (fC (.str "limit")) (fCons (fVar 4) (fCons (fC (.int 0)) (fCons (fC (.int 1)) fNil))))) (fCons (fTup (fCons (fC (.str "back")) (fCons (fVar 5) (fCons (fC (.int 0)) (fCons (fC (.int 2)) fNil))))) (fCons (fTup (fCons (fC (.str "ahead")) (fCons (fVar 6) (fCons (fC (.int 1)) (fCons (fC (.int 2)) fNil))))) fNil)))))) (gTp 4 (gCn (gN 7) (gCn (gN 8) (gCn (gN 9) (gCn (gN 10) gNl)))))
  (sIf (fNot (fTest (fN (oCall 3 F_is_between) (fCons (fVar 8) (fCons (fVar 9) (fCons (fVar 10) fNil))))))
  sNever
  sNx))
  (sSeq (sFldS 1 "_plans" (fVar 0) (fVar 1))
  (sSeq (sFldS 1 "_marks" (fVar 0) (fVar 2))
  (sSeq (sFldS 1 "_top" (fVar 0) (fVar 3))
  (sSeq (sFldS 1 "_limit" (fVar 0) (fVar 4))
  (sSeq (sFldS 1 "_back" (fVar 0) (fVar 5))
  (sFldS 1 "_ahead" (fVar 0) (fVar 6))))))))))
def F_Setup__init : List D → Sta → Option (R D) := fnF 11 b_Setup__init
def b_row_read : FS := (sRet (fTup (fCons (f2 oIx (fVar 0) (fC (.int 0))) (fStar (fLc (iL (fSl (fVar 0) (fPart (fC (.int 1))) fNo)) (gN 1) fYes (fN oIntS (fCons (fVar 1) fNil)) [1]) fNil))))
def F_row_read : List D → Sta → Option (R D) := fnF 2 b_row_read
def b_rows_of : FS := (sSeq (sIf (fTest (f2 oEqS (fVar 0) (fC (.str ""))))
  (sRet (fLst fNil))
  sNx)
  (sRet (fLc (iL (fSplit (fVar 0) (fC (.str "
")))) (gN 1) fYes (fSplit (fVar 1) (fC (.str " "))) [1])))
def F_rows_of : List D → Sta → Option (R D) := fnF 2 b_rows_of
def b_Setup__len : FS := (sRet (fN oLen (fCons (fFld 1 "_plans" (fVar 0)) fNil)))
def F_Setup__len : List D → Sta → Option (R D) := fnF 1 b_Setup__len
def b_begin : FS := (sRet (f2 oMul (fTup (fCons (fTup (fCons (fC (.int 0)) (fCons (fC (.int (-1))) (fCons (fC (.int 0)) (fCons (fC (.int (-1))) fNil))))) fNil)) (fN (oLenO 1 F_Setup__len) (fCons (fVar 0) fNil))))
def F_begin : List D → Sta → Option (R D) := fnF 1 b_begin
def b_Setup_ahead : FS := (sRet (fFld 1 "_ahead" (fVar 0)))
def F_Setup_ahead : List D → Sta → Option (R D) := fnF 1 b_Setup_ahead
def b_Setup_back : FS := (sRet (fFld 1 "_back" (fVar 0)))
def F_Setup_back : List D → Sta → Option (R D) := fnF 1 b_Setup_back
def b_Setup_top : FS := (sRet (fFld 1 "_top" (fVar 0)))
def F_Setup_top : List D → Sta → Option (R D) := fnF 1 b_Setup_top
def b_can_jump : FS := (sSeq (sAsg 3 (fN oMax (fCons (fC (.int 0)) (fCons (f2 oSub (fVar 1) (fProp 1 F_Setup_back (fVar 0))) fNil))))
  (sSeq (sAsg 4 (fN oMin (fCons (fProp 1 F_Setup_top (fVar 0)) (fCons (f2 oAdd (fVar 1) (fProp 1 F_Setup_ahead (fVar 0))) fNil))))
  (sRet (fAndV (fN (oCall 3 F_is_between) (fCons (fVar 2) (fCons (fVar 3) (fCons (fVar 4) fNil)))) (f2 oNeS (fVar 2) (fVar 1))))))
def F_can_jump : List D → Sta → Option (R D) := fnF 5 b_can_jump
def b_is_formed : FS := (sSeq (sIf (fOr (fNot (fTest (fIsTy "tuple" (fVar 0)))) (fOr (fTest (f2 oEqS (fN oLen (fCons (fVar 0) fNil)) (fC (.int 0)))) (fNot (fTest (fIsTy "str" (f2 oIx (fVar 0) (fC (.int 0))))))))
  (sRet (fC (.bl false)))
  sNx)
  (sRet (f2 oEqS (fGetK [("clock", 3), ("restart", 2), ("give", 2)] (f2 oIx (fVar 0) (fC (.int 0)))) (fN oLen (fCons (fVar 0) fNil)))))
def F_is_formed : List D → Sta → Option (R D) := fnF 1 b_is_formed
def b_check_event : FS := (sSeq (sIf (fNot (fTest (fCalm (fN (oCall 1 F_is_formed) (fCons (fVar 2) fNil)))))
  (sRaise 2)
  sNx)
  (sSeq (sAsg 3 (f2 oIx (fVar 2) (fC (.int 1))))
  (sSeq (sIf (fNot (fTest (fCalm (fN (oCall 3 F_is_between) (fCons (fVar 3) (fCons (fC (.int 0)) (fCons (f2 oSub (fN (oLenO 1 F_Setup__len) (fCons (fVar 0) fNil)) (fC (.int 1))) fNil)))))))
  (sRaise 3)
  sNx)
  (sIf (fAnd (fTest (f2 oEqS (f2 oIx (fVar 2) (fC (.int 0))) (fC (.str "clock")))) (fNot (fTest (fCalm (fN (oCall 3 F_can_jump) (fCons (fVar 0) (fCons (f2 oIx (f2 oIx (fVar 1) (fVar 3)) (fC (.int 0))) (fCons (f2 oIx (fVar 2) (fC (.int 2))) fNil))))))))
  (sRaise 2)
  sNx))))
def F_check_event : List D → Sta → Option (R D) := fnF 4 b_check_event
def b_Plan_on_restart : FS := (sRet (fFld 0 "_on_restart" (fVar 0)))
def F_Plan_on_restart : List D → Sta → Option (R D) := fnF 1 b_Plan_on_restart
def b_Setup_marks : FS := (sRet (fFld 1 "_marks" (fVar 0)))
def F_Setup_marks : List D → Sta → Option (R D) := fnF 1 b_Setup_marks
def b_Setup_plans : FS := (sRet (fFld 1 "_plans" (fVar 0)))
def F_Setup_plans : List D → Sta → Option (R D) := fnF 1 b_Setup_plans
def b_Setup_limit : FS := (sRet (fFld 1 "_limit" (fVar 0)))
def F_Setup_limit : List D → Sta → Option (R D) := fnF 1 b_Setup_limit
def b_restarted : FS := (sSeq (sIf (fAnd (fTest (f2 oEqS (fProp 0 F_Plan_on_restart (f2 oIx (fProp 1 F_Setup_plans (fVar 0)) (fVar 1))) (fC (.str "saved")))) (fTest (f2 oNeS (fVar 3) (fC (.int (-1))))))
  (sRet (fTup (fCons (fVar 2) (fCons (fVar 3) (fCons (fProp 1 F_Setup_limit (fVar 0)) (fCons (fVar 3) fNil))))))
  sNx)
  (sRet (fTup (fCons (fVar 2) (fCons (fC (.int (-1))) (fCons (fC (.int 0)) (fCons (fVar 3) fNil)))))))
def F_restarted : List D → Sta → Option (R D) := fnF 4 b_restarted
def b_Plan_on_back : FS := (sRet (fFld 0 "_on_back" (fVar 0)))
def F_Plan_on_back : List D → Sta → Option (R D) := fnF 1 b_Plan_on_back
def b_Plan_on_full : FS := (sRet (fFld 0 "_on_full" (fVar 0)))
def F_Plan_on_full : List D → Sta → Option (R D) := fnF 1 b_Plan_on_full
def b_told_at_last : FS := (sSeq (sIf (fTest (f2 oLt (fVar 3) (fProp 1 F_Setup_limit (fVar 0))))
  (sRet (fTup (fCons (fVar 2) (fCons (f2 oAdd (fVar 3) (fC (.int 1))) fNil))))
  sNx)
  (sSeq (sIf (fTest (f2 oEqS (fProp 0 F_Plan_on_full (fVar 1)) (fC (.str "wrap"))))
  (sRet (fTup (fCons (fVar 2) (fCons (fC (.int 0)) fNil))))
  sNx)
  (sSeq (sIf (fAnd (fTest (f2 oEqS (fProp 0 F_Plan_on_full (fVar 1)) (fC (.str "borrow")))) (fTest (f2 oLt (fVar 2) (fProp 1 F_Setup_top (fVar 0)))))
  (sRet (fTup (fCons (f2 oAdd (fVar 2) (fC (.int 1))) (fCons (fC (.int 0)) fNil))))
  sNx)
  (sRet (fC .non)))))
def F_told_at_last : List D → Sta → Option (R D) := fnF 4 b_told_at_last
def b_told : FS := (sSeq (sAsgG (fVar 2) (gTp 4 (gCn (gN 3) (gCn (gN 4) (gCn (gN 5) (gCn (gN 6) gNl))))))
  (sSeq (sIf (fTest (f2 oEqS (fVar 4) (fC (.int (-1)))))
  (sSeq (sAsg 7 (fAndV (f2 oEqS (fProp 0 F_Plan_on_restart (fVar 1)) (fC (.str "wait"))) (fAndV (f2 oNeS (fVar 6) (fC (.int (-1)))) (f2 oLe (fVar 3) (fVar 6)))))
  (sRet (fIf (fTest (fVar 7)) (fC .non) (fTup (fCons (fVar 3) (fCons (fC (.int 0)) fNil))))))
  sNx)
  (sSeq (sIf (fTest (f2 oGt (fVar 3) (fVar 4)))
  (sRet (fTup (fCons (fVar 3) (fCons (fC (.int 0)) fNil))))
  sNx)
  (sSeq (sIf (fAnd (fTest (f2 oLt (fVar 3) (fVar 4))) (fTest (f2 oEqS (fProp 0 F_Plan_on_back (fVar 1)) (fC (.str "trust")))))
  (sRet (fTup (fCons (fVar 3) (fCons (fC (.int 0)) fNil))))
  sNx)
  (sSeq (sIf (fAnd (fTest (f2 oLt (fVar 3) (fVar 4))) (fTest (f2 oEqS (fProp 0 F_Plan_on_back (fVar 1)) (fC (.str "refuse")))))
  (sRet (fC .non))
  sNx)
  (sRet (fN (oCall 4 F_told_at_last) (fCons (fVar 0) (fCons (fVar 1) (fCons (fVar 4) (fCons (fVar 5) fNil)))))))))))
def F_told : List D → Sta → Option (R D) := fnF 8 b_told
def b_step_alone : FS := (sSeq (sAsg 3 (f2 oIx (fVar 2) (fC (.int 1))))
  (sSeq (sAsgG (fVar 1) (gTp 4 (gCn (gN 4) (gCn (gN 5) (gCn (gN 6) (gCn (gN 7) gNl))))))
  (sSeq (sIf (fTest (f2 oEqS (f2 oIx (fVar 2) (fC (.int 0))) (fC (.str "clock"))))
  (sRet (fTup (fCons (fTup (fCons (f2 oIx (fVar 2) (fC (.int 2))) (fCons (fVar 5) (fCons (fVar 6) (fCons (fVar 7) fNil))))) (fCons (fC .non) fNil))))
  sNx)
  (sSeq (sIf (fTest (f2 oEqS (f2 oIx (fVar 2) (fC (.int 0))) (fC (.str "restart"))))
  (sRet (fTup (fCons (fN (oCall 4 F_restarted) (fCons (fVar 0) (fCons (fVar 3) (fCons (fVar 4) (fCons (fVar 7) fNil))))) (fCons (fC .non) fNil))))
  sNx)
  (sSeq (sAsg 8 (fN (oCall 3 F_told) (fCons (fVar 0) (fCons (f2 oIx (fProp 1 F_Setup_plans (fVar 0)) (fVar 3)) (fCons (fVar 1) fNil)))))
  (sSeq (sIf (fTest (f2 oIsN (fVar 8) (fC .non)))
  (sRet (fTup (fCons (fVar 1) (fCons (fC .non) fNil))))
  sNx)
  (sSeq (sAsgG (fVar 8) (gTp 2 (gCn (gN 9) (gCn (gN 10) gNl))))
  (sSeq (sIf (fTest (f2 oNeS (fProp 0 F_Plan_on_restart (f2 oIx (fProp 1 F_Setup_plans (fVar 0)) (fVar 3))) (fC (.str "forget"))))
  (sAsg 7 (fVar 9))
  sNx)
  (sRet (fTup (fCons (fTup (fCons (fVar 4) (fCons (fVar 9) (fCons (fVar 10) (fCons (fVar 7) fNil))))) (fCons (fTup (fCons (fVar 9) (fCons (f2 oIx (fProp 1 F_Setup_marks (fVar 0)) (fVar 3)) (fCons (fVar 10) fNil)))) fNil))))))))))))
def F_step_alone : List D → Sta → Option (R D) := fnF 11 b_step_alone
def b_with_state : FS := (sRet (f2 oAdd (f2 oAdd (fSl (fVar 0) fNo (fPart (fVar 1))) (fTup (fCons (fVar 2) fNil))) (fSl (fVar 0) (fPart (f2 oAdd (fVar 1) (fC (.int 1)))) fNo)))
def F_with_state : List D → Sta → Option (R D) := fnF 3 b_with_state
def b_step : FS := (sSeq (sAsg 3 (f2 oIx (fVar 2) (fC (.int 1))))
  (sSeq (sAsgG (fN (oCall 3 F_step_alone) (fCons (fVar 0) (fCons (f2 oIx (fVar 1) (fVar 3)) (fCons (fVar 2) fNil)))) (gTp 2 (gCn (gN 4) (gCn (gN 5) gNl))))
  (sRet (fTup (fCons (fN (oCall 3 F_with_state) (fCons (fVar 1) (fCons (fVar 3) (fCons (fVar 4) fNil)))) (fCons (fVar 5) fNil))))))
def F_step : List D → Sta → Option (R D) := fnF 6 b_step
def b_run : FS := (sSeq (sAsg 2 (fN (oCall 1 F_begin) (fCons (fVar 0) fNil)))
  (sSeq (sAsg 3 (fNew fNil))
  (sSeq (sForI (iE (fVar 1)) (gTp 2 (gCn (gN 4) (gCn (gN 5) gNl)))
  (sSeq (sTry (fun c => (HK.ccL [(2, "InvalidEvent", true), (3, "UnknownMaker", false), (4, "InvalidHistory", false), (5, "InvalidLine", false)] c).bind fun b => (HK.ccL [(2, "InvalidEvent", false), (3, "UnknownMaker", true), (4, "InvalidHistory", false), (5, "InvalidLine", false)] c).map fun d => b || d) (sDrop (fN (oCall 3 F_check_event) (fCons (fVar 0) (fCons (fVar 2) (fCons (fVar 5) fNil)))))
  (sRaiseI 4 ["index"] (fCons (fVar 4) fNil)))
  (sSeq (sAsgG (fN (oCall 3 F_step) (fCons (fVar 0) (fCons (fVar 2) (fCons (fVar 5) fNil)))) (gTp 2 (gCn (gN 2) (gCn (gN 6) gNl))))
  (sIf (fTest (f2 oEqS (f2 oIx (fVar 5) (fC (.int 0))) (fC (.str "give"))))
  (sDrop (fApp (fVar 3) (fVar 6)))
  sNx))))
  (sRet (fTup (fCons (fVar 2) (fCons (fVar 3) fNil)))))))
def F_run : List D → Sta → Option (R D) := fnF 7 b_run
def b_is_number_word : FS := (sSeq (sIf (fOr (fNot (fTest (fChain oLe oLe (fC (.int 1)) (fN oLenS (fCons (fVar 0) fNil)) (fVar 1)))) (fNot (fTest (fN oAll (fCons (fLc (iS (fVar 0)) (gN 2) fYes (f2 oInS (fVar 2) (fC (.str "0123456789"))) [2]) fNil)))))
  (sRet (fC (.bl false)))
  sNx)
  (sRet (fOrV (f2 oEqS (fN oLenS (fCons (fVar 0) fNil)) (fC (.int 1))) (f2 oNeS (f2 oIxS (fVar 0) (fC (.int 0))) (fC (.str "0"))))))
def F_is_number_word : List D → Sta → Option (R D) := fnF 3 b_is_number_word
def b_wrong_word : FS := (sSeq (sForI (iE (fVar 0)) (gTp 2 (gCn (gN 3) (gCn (gN 4) gNl)))
  (sIf (fOr (fTest (f2 oGe (fVar 3) (fVar 1))) (fAnd (fTest (f2 oGt (fVar 3) (fC (.int 0)))) (fNot (fTest (fN (oCall 2 F_is_number_word) (fCons (fVar 4) (fCons (fVar 2) fNil)))))))
  (sRet (fVar 3))
  sNx))
  (sRet (fIf (fTest (f2 oLt (fN oLen (fCons (fVar 0) fNil)) (fVar 1))) (fN oLen (fCons (fVar 0) fNil)) (fC .non))))
def F_wrong_word : List D → Sta → Option (R D) := fnF 5 b_wrong_word
def b_read_history : FS := (sSeq (sAsg 2 (fNew fNil))
  (sSeq (sForI (iE (fN (oCall 1 F_rows_of) (fCons (fVar 1) fNil))) (gTp 2 (gCn (gN 3) (gCn (gN 4) gNl)))
  (sSeq (sAsg 5 (fN (oCall 3 F_wrong_word) (fCons (fVar 4) (fCons (fGetK2 [("clock", 3), ("restart", 2), ("give", 2)] (f2 oIx (fVar 4) (fC (.int 0))) (fC (.int 0))) (fCons (fC (.int (1))) fNil)))))
  (sSeq (sIf (fTest (f2 oNotN (fVar 5) (fC .non)))
  (sRaiseI 5 ["row", "word"] (fCons (fVar 3) (fCons (fVar 5) fNil)))
  sNx)
  (sDrop (fApp (fVar 2) (fN (oCall 1 F_row_read) (fCons (fVar 4) fNil)))))))
  (sSeq (sFrzX 2 (fN (oCall 2 F_run) (fCons (fVar 0) (fCons (fVar 2) fNil))))
  (sRet (fVar 2)))))
def F_read_history : List D → Sta → Option (R D) := fnF 6 b_read_history
def b_law_place : FS := (sSeq (sAsg 1 (fMake 1 7 F_Setup__init (fCons (fTup (fCons (fMake 0 4 F_Plan__init (fCons (fC (.str "trust")) (fCons (fC (.str "wrap")) (fCons (fC (.str "forget")) fNil)))) (fCons (fMake 0 4 F_Plan__init (fCons (fC (.str "hold")) (fCons (fC (.str "borrow")) (fCons (fC (.str "wait")) fNil)))) fNil))) (fCons (fTup (fCons (fC (.int 0)) (fCons (fC (.int 1)) fNil))) (fCons (fC (.int 2)) (fCons (fC (.int 1)) (fCons (fC (.int 1)) (fCons (fC (.int 1)) fNil))))))))
  (sSeq (sTryM 2 (sDrop (fN (oCall 2 F_read_history) (fCons (fVar 1) (fCons (fJoin (fC (.str "
")) (fVar 0)) fNil)))) [(HK.ccL [(2, "InvalidEvent", false), (3, "UnknownMaker", false), (4, "InvalidHistory", false), (5, "InvalidLine", true)], (sRet (fTup (fCons (fXf "row" (fVar 2)) (fCons (fXf "word" (fVar 2)) fNil))))), (HK.ccL [(2, "InvalidEvent", false), (3, "UnknownMaker", false), (4, "InvalidHistory", true), (5, "InvalidLine", false)], (sRet (fTup (fCons (fC (.str "history")) (fCons (fXf "index" (fVar 2)) fNil)))))])
  (sRet (fC .non))))
def F_law_place : List D → Sta → Option (R D) := fnF 3 b_law_place
def b_law_taken : FS := (sSeq (sIf (fTest (f2 oGt (f2 oIx (fVar 0) (fC (.int 3))) (fC (.int 0))))
  (sSeq (sAsg 2 (f2 oMod (fN oInt (fCons (f2 oIx (fVar 0) (fC (.int 3))) fNil)) (fVar 1)))
  (sSeq (sSub (f2 oDiv (f2 oIx (fVar 0) (fC (.int 3))) (fVar 1)) (fVar 0) (fC (.int 3)))
  (sRet (fVar 2))))
  sNx)
  (sSeq (sSub (f2 oAdd (f2 oIx (fVar 0) (fC (.int 1))) (fC (.int 1))) (fVar 0) (fC (.int 1)))
  (sSeq (sIf (fTest (f2 oGt (f2 oIx (fVar 0) (fC (.int 1))) (fN oLen (fCons (f2 oIx (fVar 0) (fC (.int 0))) fNil))))
  (sSeq (sSub (f2 oMod (fN oInt (fCons (f2 oAdd (f2 oMul (f2 oIx (fVar 0) (fC (.int 2))) (fC (.int 48271))) (fC (.int 11))) fNil)) (fC (.int 2147483647))) (fVar 0) (fC (.int 2)))
  (sRet (f2 oMod (fN oInt (fCons (f2 oDiv (f2 oIx (fVar 0) (fC (.int 2))) (fC (.int 7))) fNil)) (fVar 1))))
  sNx)
  (sSeq (sAsg 3 (f2 oIx (f2 oIx (fVar 0) (fC (.int 0))) (f2 oSub (f2 oIx (fVar 0) (fC (.int 1))) (fC (.int 1)))))
  (sSeq (sSub (f2 oMod (fN oInt (fCons (f2 oAdd (f2 oAdd (f2 oMul (f2 oIx (fVar 0) (fC (.int 2))) (fC (.int 48271))) (fVar 3)) (fC (.int 11))) fNil)) (fC (.int 2147483647))) (fVar 0) (fC (.int 2)))
  (sSeq (sIf (fTest (f2 oGe (fVar 3) (f2 oPow (fC (.int 10)) (fC (.int 18)))))
  (sSub (f2 oDiv (fVar 3) (fVar 1)) (fVar 0) (fC (.int 3)))
  sNx)
  (sRet (f2 oMod (fN oInt (fCons (fVar 3) fNil)) (fVar 1)))))))))
def F_law_taken : List D → Sta → Option (R D) := fnF 4 b_law_taken
def b_law : FS := (sSeq (sAsg 1 (fNew (fCons (fVar 0) (fCons (fC (.int 0)) (fCons (fC (.int 0)) (fCons (fC (.int 0)) fNil))))))
  (sSeq (sAsg 2 (fLst (fCons (fC (.str "give 0")) (fCons (fC (.str "clock 1 1")) (fCons (fC (.str "restart 0")) (fCons (fC (.str "clock 1 2")) fNil))))))
  (sSeq (sIf (fTest (f2 oNotN (fSub 0 (fN (oCall 1 F_law_place) (fCons (fVar 2) fNil))) (fC .non)))
  (sRet (fC (.bl false)))
  sNx)
  (sSeq (sAsg 3 (fLst (fCons (fTup (fCons (fC (.str "")) (fCons (fC (.int 0)) fNil))) (fCons (fTup (fCons (fC (.str "gives 0")) (fCons (fC (.int 0)) fNil))) (fCons (fTup (fCons (fC (.str "give")) (fCons (fC (.int 1)) fNil))) (fCons (fTup (fCons (fC (.str "give 0 0")) (fCons (fC (.int 2)) fNil))) (fCons (fTup (fCons (fC (.str "give x")) (fCons (fC (.int 1)) fNil))) (fCons (fTup (fCons (fC (.str "give 00")) (fCons (fC (.int 1)) fNil))) (fCons (fTup (fCons (fC (.str "give -1")) (fCons (fC (.int 1)) fNil))) fNil)))))))))
  (sSeq (sAsg 3 (f2 oAdd (fVar 3) (fLst (fCons (fTup (fCons (fC (.str "clock 0")) (fCons (fC (.int 2)) fNil))) (fCons (fTup (fCons (fC (.str "clock")) (fCons (fC (.int 1)) fNil))) (fCons (fTup (fCons (fC (.str "clock 0 1 1")) (fCons (fC (.int 3)) fNil))) (fCons (fTup (fCons (fC (.str "clock 0 10")) (fCons (fC (.int 2)) fNil))) (fCons (fTup (fCons (fC (.str "clock  0 1")) (fCons (fC (.int 1)) fNil))) fNil))))))))
  (sSeq (sAsg 3 (f2 oAdd (fVar 3) (fLst (fCons (fTup (fCons (fC (.str "restart 0 ")) (fCons (fC (.int 2)) fNil))) (fCons (fTup (fCons (fC (.str " give 0")) (fCons (fC (.int 0)) fNil))) (fCons (fTup (fCons (fC (.str "Give 0")) (fCons (fC (.int 0)) fNil))) (fCons (fTup (fCons (fC (.str "clock 0 .")) (fCons (fC (.int 2)) fNil))) (fCons (fTup (fCons (fC (.str "give 10")) (fCons (fC (.int 1)) fNil))) fNil))))))))
  (sSeq (sAsg 4 (fLst (fCons (fC (.str "give 2")) (fCons (fC (.str "restart 9")) (fCons (fC (.str "clock 0 0")) (fCons (fC (.str "clock 0 2")) (fCons (fC (.str "clock 0 3")) (fCons (fC (.str "clock 2 1")) (fCons (fC (.str "clock 0 9")) fNil)))))))))
  (sSeq (sForI (iR (fC (.int 10))) (gN 5)
  (sSeq (sAsg 6 (fN (oCall 2 F_law_taken) (fCons (fVar 1) (fCons (fC (.int 5)) fNil))))
  (sSeq (sAsgG (f2 oIx (fVar 3) (fN (oCall 2 F_law_taken) (fCons (fVar 1) (fCons (fN oLen (fCons (fVar 3) fNil)) fNil)))) (gTp 2 (gCn (gN 7) (gCn (gN 8) gNl))))
  (sSeq (sIf (fTest (f2 oNeS (fSub 0 (fN (oCall 1 F_law_place) (fCons (f2 oAdd (f2 oAdd (fSl (fVar 2) fNo (fPart (fVar 6))) (fLst (fCons (fVar 7) fNil))) (fSl (fVar 2) (fPart (fVar 6)) fNo)) fNil))) (fTup (fCons (fVar 6) (fCons (fVar 8) fNil)))))
  (sRet (fC (.bl false)))
  sNx)
  (sSeq (sIf (fTest (f2 oNeS (fSub 0 (fN (oCall 1 F_law_place) (fCons (f2 oAdd (f2 oAdd (fLst (fCons (fC (.str "give 7")) fNil)) (fSl (fVar 2) fNo (fPart (fVar 6)))) (fLst (fCons (fVar 7) fNil))) fNil))) (fTup (fCons (f2 oAdd (fVar 6) (fC (.int 1))) (fCons (fVar 8) fNil)))))
  (sRet (fC (.bl false)))
  sNx)
  (sSeq (sIf (fTest (f2 oNeS (fN (oCallU 0 1 F_law_place) (fCons (f2 oAdd (f2 oAdd (fSl (fVar 2) fNo (fPart (fVar 6))) (fLst (fCons (f2 oIx (fVar 4) (fN (oCall 2 F_law_taken) (fCons (fVar 1) (fCons (fC (.int 7)) fNil)))) fNil))) (fSl (fVar 2) (fPart (fVar 6)) fNo)) fNil)) (fTup (fCons (fC (.str "history")) (fCons (fVar 6) fNil)))))
  (sRet (fC (.bl false)))
  sNx)
  (sSeq (sIf (fTest (f2 oNeS (fSub 0 (fN (oCall 1 F_law_place) (fCons (f2 oAdd (fVar 2) (fLst (fCons (fC (.str "clock 1 0")) fNil))) fNil))) (fTup (fCons (fC (.str "history")) (fCons (fC (.int 4)) fNil)))))
  (sRet (fC (.bl false)))
  sNx)
  (sIf (fTest (f2 oNotN (fSub 0 (fN (oCall 1 F_law_place) (fCons (f2 oAdd (fVar 2) (fLst (fCons (fC (.str "clock 1 1")) (fCons (fC (.str "clock 1 0")) fNil)))) fNil))) (fC .non)))
  (sRet (fC (.bl false)))
  sNx))))))))
  (sRet (fC (.bl true)))))))))))
def F_law : List D → Sta → Option (R D) := fnF 9 b_law
/-! ### the proofs that they are kept -/
section
variable {P : Program} {w : World} {K : PySem.W.Frag} {mg : Str → Option Value} {base : Heap} {ca : Ca} {fa : Addr} {fd : FuncData}
abbrev N_is_word : List Str := ["value", "words"]
theorem sc_is_word : FnScope N_is_word ["value", "words"] (defScope (top 39)) := ⟨rfl, rfl, rfl, by decide +kernel, rfl, by decide +kernel, by decide +kernel⟩
theorem ok_is_word (Fn : L2.Fun K "_is_word" "_is_word" (top 39) fa fd) (T : Tx K w mg ca)  : FnOk P w K mg base (L2.CX P w) 1 fa fd ["value", "words"] (spD K ca 2 F_is_word) := by
  have sc := sc_is_word
  refine fn_body (k := 0) Fn sc fun cdv A outer s H E hr tk po =>
  (jb_one (js_ret (je_and (je_isTy bb_str rfl T.n_isinstance rfl T.n_str (je_var 0)) (je_one (je_cmp op_in_seq rv_in (je_var 0) (je_var 1) (by rfl))))))
abbrev N_Plan__init : List Str := ["self", "on_back", "on_full", "on_restart", "part", "word", "words"]
theorem sc_Plan__init : FnScope N_Plan__init ["self", "on_back", "on_full", "on_restart"] (defScope (inClass (top 37) 0)) := ⟨rfl, rfl, rfl, by decide +kernel, rfl, by decide +kernel, by decide +kernel⟩
theorem ok_Plan__init (Fn : L2.Fun K "__init__" "Plan.__init__" (inClass (top 37) 0) fa fd) (T : Tx K w mg ca) (D_is_word : DefOk P w K mg base ca 1 "_is_word" ["value", "words"] F_is_word) : FnOk P w K mg base (L2.CX P w) 2 fa fd ["self", "on_back", "on_full", "on_restart"] (spD K ca 4 F_Plan__init) := by
  have sc := sc_Plan__init
  refine fn_body (k := 1) Fn sc fun cdv A outer s H E hr tk po =>
  (jb_cons (js_for po rfl (ji_t (je_tup (ja_cons (je_tup (ja_cons je_str (ja_cons (je_var 1) (ja_cons (je_gtupE (zs := ["trust", "hold", "refuse"]) T.k_BACK_WORDS) ja_nil)))) (ja_cons (je_tup (ja_cons je_str (ja_cons (je_var 2) (ja_cons (je_gtupE (zs := ["wrap", "borrow", "refuse"]) T.k_FULL_WORDS) ja_nil)))) (ja_cons (je_tup (ja_cons je_str (ja_cons (je_var 3) (ja_cons (je_gtupE (zs := ["forget", "saved", "wait"]) T.k_RESTART_WORDS) ja_nil)))) ja_nil))))) (jg_tup rfl (jgs_cons (jg_name 4 sc.nd) (jgs_cons (jg_name 5 sc.nd) (jgs_cons (jg_name 6 sc.nd) jgs_nil))))
  (jb_one (js_if (jt_not (jt_val (je_call D_is_word hr (by decide) tk (ja_cons (je_var 5) (ja_cons (je_var 6) ja_nil)))))
  (jb_one js_never)
  jb_nil)))
  (jb_cons (js_fld T.c_Plan.1.cl T.a_Plan__on_back (je_var 0) (je_var 1))
  (jb_cons (js_fld T.c_Plan.1.cl T.a_Plan__on_full (je_var 0) (je_var 2))
  (jb_one (js_fld T.c_Plan.1.cl T.a_Plan__on_restart (je_var 0) (je_var 3))))))
abbrev N_is_integer : List Str := ["value"]
theorem sc_is_integer : FnScope N_is_integer ["value"] (defScope (top 1)) := ⟨rfl, rfl, rfl, by decide +kernel, rfl, by decide +kernel, by decide +kernel⟩
theorem ok_is_integer (Fn : L2.Fun K "is_integer" "is_integer" (top 1) fa fd) (T : Tx K w mg ca)  : FnOk P w K mg base (L2.CX P w) 1 fa fd ["value"] (spD K ca 1 F_is_integer) := by
  have sc := sc_is_integer
  refine fn_body (k := 0) Fn sc fun cdv A outer s H E hr tk po =>
  (jb_one (js_ret (je_and (je_isTy bb_int rfl T.n_isinstance rfl T.n_int (je_var 0)) (je_one (je_not (je_isTy bb_bool rfl T.n_isinstance rfl T.n_bool (je_var 0)))))))
abbrev N_is_between : List Str := ["value", "low", "high"]
theorem sc_is_between : FnScope N_is_between ["value", "low", "high"] (defScope (top 2)) := ⟨rfl, rfl, rfl, by decide +kernel, rfl, by decide +kernel, by decide +kernel⟩
theorem ok_is_between (Fn : L2.Fun K "is_between" "is_between" (top 2) fa fd) (T : Tx K w mg ca) (D_is_integer : DefOk P w K mg base ca 1 "is_integer" ["value"] F_is_integer) : FnOk P w K mg base (L2.CX P w) 2 fa fd ["value", "low", "high"] (spD K ca 3 F_is_between) := by
  have sc := sc_is_between
  refine fn_body (k := 1) Fn sc fun cdv A outer s H E hr tk po =>
  (jb_one (js_ret (je_and (je_call D_is_integer hr (by decide) tk (ja_cons (je_var 0) ja_nil)) (je_one (je_chain op_le rv_le op_le rv_le (je_var 1) (je_var 0) (je_var 2))))))
abbrev N_are_marks : List Str := ["marks", "many", "mark"]
theorem sc_are_marks : FnScope N_are_marks ["marks", "many"] (defScope (top 41)) := ⟨rfl, rfl, rfl, by decide +kernel, rfl, by decide +kernel, by decide +kernel⟩
theorem ok_are_marks (Fn : L2.Fun K "_are_marks" "_are_marks" (top 41) fa fd) (T : Tx K w mg ca) (D_is_between : DefOk P w K mg base ca 2 "is_between" ["value", "low", "high"] F_is_between) : FnOk P w K mg base (L2.CX P w) 3 fa fd ["marks", "many"] (spD K ca 2 F_are_marks) := by
  have sc := sc_are_marks
  refine fn_body (k := 2) Fn sc fun cdv A outer s H E hr tk po =>
  (jb_cons (js_if (jw_pt (jw_or (jt_not (jt_val (je_isTy bb_tuple rfl T.n_isinstance rfl T.n_tuple (je_var 0)))) (jw_or1 (jt_cmp (op_neD hr.units) rv_neS (je_len T.n_len rfl (je_var 0)) (je_var 1) (nomark _)))))
  (jb_one (js_ret je_bl))
  jb_nil)
  (jb_one (js_ret (je_all T.n_all rfl rfl (je_lc (own := [("mark", 2)]) rfl sc.nd (ji_t (je_var 0)) (blkOk_by (N := N_are_marks) (sc := defScope (top 41)) (by decide +kernel)) (fun _ _ _ _ _ => pg_name (i := 2) sc.nd rfl (Or.inl rfl)) gvs_name (own_name (by decide)) (fun _ _ _ _ _ => ?h1))))))
  case h1 => exact (je_call D_is_between hr (by decide) takes0 (ja_cons (je_var 2) (ja_cons je_int (ja_cons je_int ja_nil))))
abbrev N_are_plans : List Str := ["plans", "plan"]
theorem sc_are_plans : FnScope N_are_plans ["plans"] (defScope (top 40)) := ⟨rfl, rfl, rfl, by decide +kernel, rfl, by decide +kernel, by decide +kernel⟩
theorem ok_are_plans (Fn : L2.Fun K "_are_plans" "_are_plans" (top 40) fa fd) (T : Tx K w mg ca)  : FnOk P w K mg base (L2.CX P w) 1 fa fd ["plans"] (spD K ca 1 F_are_plans) := by
  have sc := sc_are_plans
  refine fn_body (k := 0) Fn sc fun cdv A outer s H E hr tk po =>
  (jb_cons (js_if (jw_pt (jw_or (jt_not (jt_val (je_isTy bb_tuple rfl T.n_isinstance rfl T.n_tuple (je_var 0)))) (jw_or1 (jt_not (jt_chain op_le rv_le op_le rv_le je_int (je_len T.n_len rfl (je_var 0)) je_int)))))
  (jb_one (js_ret je_bl))
  jb_nil)
  (jb_one (js_ret (je_all T.n_all rfl rfl (je_lc (own := [("plan", 1)]) rfl sc.nd (ji_t (je_var 0)) (blkOk_by (N := N_are_plans) (sc := defScope (top 40)) (by decide +kernel)) (fun _ _ _ _ _ => pg_name (i := 1) sc.nd rfl (Or.inl rfl)) gvs_name (own_name (by decide)) (fun _ _ _ _ _ => ?h1))))))
  case h1 => exact (je_isOwn T.c_Plan.1 rfl T.n_isinstance rfl T.c_Plan.2 (je_var 1))
abbrev N_Setup__init : List Str := ["self", "plans", "marks", "top", "limit", "back", "ahead", "part", "value", "low", "high"]
theorem sc_Setup__init : FnScope N_Setup__init ["self", "plans", "marks", "top", "limit", "back", "ahead"] (defScope (inClass (top 38) 0)) := ⟨rfl, rfl, rfl, by decide +kernel, rfl, by decide +kernel, by decide +kernel⟩
theorem ok_Setup__init (Fn : L2.Fun K "__init__" "Setup.__init__" (inClass (top 38) 0) fa fd) (T : Tx K w mg ca) (D_are_marks : DefOk P w K mg base ca 3 "_are_marks" ["marks", "many"] F_are_marks) (D_are_plans : DefOk P w K mg base ca 1 "_are_plans" ["plans"] F_are_plans) (D_is_between : DefOk P w K mg base ca 2 "is_between" ["value", "low", "high"] F_is_between) : FnOk P w K mg base (L2.CX P w) 4 fa fd ["self", "plans", "marks", "top", "limit", "back", "ahead"] (spD K ca 7 F_Setup__init) := by
  have sc := sc_Setup__init
  refine fn_body (k := 3) Fn sc fun cdv A outer s H E hr tk po =>
  (jb_cons (js_if (jt_not (jt_val (je_call D_are_plans hr (by decide) tk (ja_cons (je_var 1) ja_nil))))
  (jb_one js_never)
  jb_nil)
  (jb_cons (js_if (jt_not (jt_val (je_call D_are_marks hr (by decide) tk (ja_cons (je_var 2) (ja_cons (je_len T.n_len rfl (je_var 1)) ja_nil)))))
  (jb_one js_never)
  jb_nil)
  (jb_cons (js_for po rfl (ji_t (je_tup (ja_cons (je_tup (ja_cons je_str (ja_cons (je_var 3) (ja_cons je_int (ja_cons je_int ja_nil))))) (ja_cons (je_tup (ja_cons je_str (ja_cons (je_var 4) (ja_cons je_int (ja_cons je_int ja_nil))))) (ja_cons (je_tup (ja_cons je_str (ja_cons (je_var 5) (ja_cons je_int (ja_cons je_int ja_nil))))) (ja_cons (je_tup (ja_cons je_str (ja_cons (je_var 6) (ja_cons je_int (ja_cons je_int ja_nil))))) ja_nil)))))) (jg_tup rfl (jgs_cons (jg_name 7 sc.nd) (jgs_cons (jg_name 8 sc.nd) (jgs_cons (jg_name 9 sc.nd) (jgs_cons (jg_name 10 sc.nd) jgs_nil)))))
  (jb_one (js_if (jt_not (jt_val (je_call D_is_between hr (by decide) tk (ja_cons (je_var 8) (ja_cons (je_var 9) (ja_cons (je_var 10) ja_nil))))))
  (jb_one js_never)
  jb_nil)))
  (jb_cons (js_fld T.c_Setup.1.cl T.a_Setup__plans (je_var 0) (je_var 1))
  (jb_cons (js_fld T.c_Setup.1.cl T.a_Setup__marks (je_var 0) (je_var 2))
  (jb_cons (js_fld T.c_Setup.1.cl T.a_Setup__top (je_var 0) (je_var 3))
  (jb_cons (js_fld T.c_Setup.1.cl T.a_Setup__limit (je_var 0) (je_var 4))
  (jb_cons (js_fld T.c_Setup.1.cl T.a_Setup__back (je_var 0) (je_var 5))
  (jb_one (js_fld T.c_Setup.1.cl T.a_Setup__ahead (je_var 0) (je_var 6)))))))))))
abbrev N_row_read : List Str := ["words", "word"]
theorem sc_row_read : FnScope N_row_read ["words"] (defScope (top 31)) := ⟨rfl, rfl, rfl, by decide +kernel, rfl, by decide +kernel, by decide +kernel⟩
theorem ok_row_read (Fn : L2.Fun K "row_read" "row_read" (top 31) fa fd) (T : Tx K w mg ca)  : FnOk P w K mg base (L2.CX P w) 1 fa fd ["words"] (spD K ca 1 F_row_read) := by
  have sc := sc_row_read
  refine fn_body (k := 0) Fn sc fun cdv A outer s H E hr tk po =>
  (jb_one (js_ret (je_tup (ja_cons (je_ix (je_var 0) je_int) (ja_star (je_lc (own := [("word", 1)]) rfl sc.nd (ji_l (je_slice (je_var 0) (jo_some je_int) jo_none)) (blkOk_by (N := N_row_read) (sc := defScope (top 31)) (by decide +kernel)) (fun _ _ _ _ _ => pg_name (i := 1) sc.nd rfl (Or.inl rfl)) gvs_name (own_name (by decide)) (fun _ _ _ _ _ => ?h1)) ja_nil)))))
  case h1 => exact (je_intS T.n_int rfl (je_var 1))
abbrev N_rows_of : List Str := ["text", "row"]
theorem sc_rows_of : FnScope N_rows_of ["text"] (defScope (top 29)) := ⟨rfl, rfl, rfl, by decide +kernel, rfl, by decide +kernel, by decide +kernel⟩
theorem ok_rows_of (Fn : L2.Fun K "rows_of" "rows_of" (top 29) fa fd) (T : Tx K w mg ca)  : FnOk P w K mg base (L2.CX P w) 1 fa fd ["text"] (spD K ca 1 F_rows_of) := by
  have sc := sc_rows_of
  refine fn_body (k := 0) Fn sc fun cdv A outer s H E hr tk po =>
  (jb_cons (js_if (jt_cmp (op_eqD hr.units) rv_eqS (je_var 0) je_str (nomark _))
  (jb_one (js_ret (je_lst ja_nil)))
  jb_nil)
  (jb_one (js_ret (je_lc (own := [("row", 1)]) rfl sc.nd (ji_l (je_split (je_var 0) je_str)) (blkOk_by (N := N_rows_of) (sc := defScope (top 29)) (by decide +kernel)) (fun _ _ _ _ _ => pg_name (i := 1) sc.nd rfl (Or.inl rfl)) gvs_name (own_name (by decide)) (fun _ _ _ _ _ => ?h1)))))
  case h1 => exact (je_split (je_var 1) je_str)
abbrev N_Setup__len : List Str := ["self"]
theorem sc_Setup__len : FnScope N_Setup__len ["self"] (defScope (inClass (top 38) 7)) := ⟨rfl, rfl, rfl, by decide +kernel, rfl, by decide +kernel, by decide +kernel⟩
theorem ok_Setup__len (Fn : L2.Fun K "__len__" "Setup.__len__" (inClass (top 38) 7) fa fd) (T : Tx K w mg ca)  : FnOk P w K mg base (L2.CX P w) 1 fa fd ["self"] (spD K ca 1 F_Setup__len) := by
  have sc := sc_Setup__len
  refine fn_body (k := 0) Fn sc fun cdv A outer s H E hr tk po =>
  (jb_one (js_ret (je_len T.n_len rfl (je_fld T.c_Setup.1.cl T.a_Setup__plans (je_var 0)))))
abbrev N_begin : List Str := ["setup"]
theorem sc_begin : FnScope N_begin ["setup"] (defScope (top 14)) := ⟨rfl, rfl, rfl, by decide +kernel, rfl, by decide +kernel, by decide +kernel⟩
theorem ok_begin (Fn : L2.Fun K "begin" "begin" (top 14) fa fd) (T : Tx K w mg ca) (D_Setup__len : LenOk P w K mg base ca 1 1 F_Setup__len) : FnOk P w K mg base (L2.CX P w) 3 fa fd ["setup"] (spD K ca 1 F_begin) := by
  have sc := sc_begin
  refine fn_body (k := 2) Fn sc fun cdv A outer s H E hr tk po =>
  (jb_one (js_ret (je_op op_mulA rv_mul (je_tup (ja_cons (je_tup (ja_cons je_int (ja_cons (je_gintE T.k_NO_READING) (ja_cons je_int (ja_cons (je_gintE T.k_NO_READING) ja_nil))))) ja_nil)) (je_lenO D_Setup__len hr (by decide) T.n_len rfl (je_var 0)))))
abbrev N_Setup_ahead : List Str := ["self"]
theorem sc_Setup_ahead : FnScope N_Setup_ahead ["self"] (defScope (inClass (top 38) 6)) := ⟨rfl, rfl, rfl, by decide +kernel, rfl, by decide +kernel, by decide +kernel⟩
theorem ok_Setup_ahead (Fn : L2.Fun K "ahead" "Setup.ahead" (inClass (top 38) 6) fa fd) (T : Tx K w mg ca)  : FnOk P w K mg base (L2.CX P w) 1 fa fd ["self"] (spD K ca 1 F_Setup_ahead) := by
  have sc := sc_Setup_ahead
  refine fn_body (k := 0) Fn sc fun cdv A outer s H E hr tk po =>
  (jb_one (js_ret (je_fld T.c_Setup.1.cl T.a_Setup__ahead (je_var 0))))
abbrev N_Setup_back : List Str := ["self"]
theorem sc_Setup_back : FnScope N_Setup_back ["self"] (defScope (inClass (top 38) 5)) := ⟨rfl, rfl, rfl, by decide +kernel, rfl, by decide +kernel, by decide +kernel⟩
theorem ok_Setup_back (Fn : L2.Fun K "back" "Setup.back" (inClass (top 38) 5) fa fd) (T : Tx K w mg ca)  : FnOk P w K mg base (L2.CX P w) 1 fa fd ["self"] (spD K ca 1 F_Setup_back) := by
  have sc := sc_Setup_back
  refine fn_body (k := 0) Fn sc fun cdv A outer s H E hr tk po =>
  (jb_one (js_ret (je_fld T.c_Setup.1.cl T.a_Setup__back (je_var 0))))
abbrev N_Setup_top : List Str := ["self"]
theorem sc_Setup_top : FnScope N_Setup_top ["self"] (defScope (inClass (top 38) 3)) := ⟨rfl, rfl, rfl, by decide +kernel, rfl, by decide +kernel, by decide +kernel⟩
theorem ok_Setup_top (Fn : L2.Fun K "top" "Setup.top" (inClass (top 38) 3) fa fd) (T : Tx K w mg ca)  : FnOk P w K mg base (L2.CX P w) 1 fa fd ["self"] (spD K ca 1 F_Setup_top) := by
  have sc := sc_Setup_top
  refine fn_body (k := 0) Fn sc fun cdv A outer s H E hr tk po =>
  (jb_one (js_ret (je_fld T.c_Setup.1.cl T.a_Setup__top (je_var 0))))
abbrev N_can_jump : List Str := ["setup", "present", "reading", "low", "high"]
theorem sc_can_jump : FnScope N_can_jump ["setup", "present", "reading"] (defScope (top 18)) := ⟨rfl, rfl, rfl, by decide +kernel, rfl, by decide +kernel, by decide +kernel⟩
theorem ok_can_jump (Fn : L2.Fun K "_can_jump" "_can_jump" (top 18) fa fd) (T : Tx K w mg ca) (D_Setup_ahead : PrpOk P w K mg base ca 1 1 "ahead" F_Setup_ahead) (D_Setup_back : PrpOk P w K mg base ca 1 1 "back" F_Setup_back) (D_Setup_top : PrpOk P w K mg base ca 1 1 "top" F_Setup_top) (D_is_between : DefOk P w K mg base ca 2 "is_between" ["value", "low", "high"] F_is_between) : FnOk P w K mg base (L2.CX P w) 3 fa fd ["setup", "present", "reading"] (spD K ca 3 F_can_jump) := by
  have sc := sc_can_jump
  refine fn_body (k := 2) Fn sc fun cdv A outer s H E hr tk po =>
  (jb_cons (js_asg 3 sc.nd (je_max T.n_max rfl rfl je_int (je_op op_sub rv_sub (je_var 1) (je_prp D_Setup_back hr (by decide) (je_var 0)))))
  (jb_cons (js_asg 4 sc.nd (je_min T.n_min rfl rfl (je_prp D_Setup_top hr (by decide) (je_var 0)) (je_op op_addA rv_add (je_var 1) (je_prp D_Setup_ahead hr (by decide) (je_var 0)))))
  (jb_one (js_ret (je_and (je_call D_is_between hr (by decide) tk (ja_cons (je_var 2) (ja_cons (je_var 3) (ja_cons (je_var 4) ja_nil)))) (je_one (je_cmp (op_neD hr.units) rv_neS (je_var 2) (je_var 1) (nomark _))))))))
abbrev N_is_formed : List Str := ["event"]
theorem sc_is_formed : FnScope N_is_formed ["event"] (defScope (top 17)) := ⟨rfl, rfl, rfl, by decide +kernel, rfl, by decide +kernel, by decide +kernel⟩
theorem ok_is_formed (Fn : L2.Fun K "_is_formed" "_is_formed" (top 17) fa fd) (T : Tx K w mg ca)  : FnOk P w K mg base (L2.CX P w) 1 fa fd ["event"] (spD K ca 1 F_is_formed) := by
  have sc := sc_is_formed
  refine fn_body (k := 0) Fn sc fun cdv A outer s H E hr tk po =>
  (jb_cons (js_if (jw_pt (jw_or (jt_not (jt_val (je_isTy bb_tuple rfl T.n_isinstance rfl T.n_tuple (je_var 0)))) (jw_or (jt_cmp (op_eqD hr.units) rv_eqS (je_len T.n_len rfl (je_var 0)) je_int (nomark _)) (jw_or1 (jt_not (jt_val (je_isTy bb_str rfl T.n_isinstance rfl T.n_str (je_ix (je_var 0) je_int))))))))
  (jb_one (js_ret je_bl))
  jb_nil)
  (jb_one (js_ret (je_cmp (op_eqD hr.units) rv_eqS (je_getKE T.k_EVENT_PARTS (je_ix (je_var 0) je_int)) (je_len T.n_len rfl (je_var 0)) (nomark _)))))
abbrev N_check_event : List Str := ["setup", "standing", "event", "maker"]
theorem sc_check_event : FnScope N_check_event ["setup", "standing", "event"] (defScope (top 16)) := ⟨rfl, rfl, rfl, by decide +kernel, rfl, by decide +kernel, by decide +kernel⟩
theorem ok_check_event (Fn : L2.Fun K "check_event" "check_event" (top 16) fa fd) (T : Tx K w mg ca) (D_Setup__len : LenOk P w K mg base ca 1 1 F_Setup__len) (D_can_jump : DefOk P w K mg base ca 3 "_can_jump" ["setup", "present", "reading"] F_can_jump) (D_is_formed : DefOk P w K mg base ca 1 "_is_formed" ["event"] F_is_formed) (D_is_between : DefOk P w K mg base ca 2 "is_between" ["value", "low", "high"] F_is_between) : FnOk P w K mg base (L2N.CX P w) 4 fa fd ["setup", "standing", "event"] (spD K ca 3 F_check_event) := by
  have sc := sc_check_event
  refine fn_bodyN (k := 3) Fn sc fun cdv A outer s H E hr tk po =>
  (jb_cons (js_if (jt_not (jt_val (je_calm (je_call D_is_formed hr (by decide) takes0 (ja_cons (je_var 2) ja_nil)))))
  (jb_one (js_raise0N T.r_InvalidEvent rfl tk))
  jb_nil)
  (jb_cons (js_asg 3 sc.nd (je_ix (je_var 2) je_int))
  (jb_cons (js_if (jt_not (jt_val (je_calm (je_call D_is_between hr (by decide) takes0 (ja_cons (je_var 3) (ja_cons je_int (ja_cons (je_op op_sub rv_sub (je_lenO D_Setup__len hr (by decide) T.n_len rfl (je_var 0)) je_int) ja_nil)))))))
  (jb_one (js_raise0N T.r_UnknownMaker rfl tk))
  jb_nil)
  (jb_one (js_if (jw_pt (jw_and (jt_cmp (op_eqD hr.units) rv_eqS (je_ix (je_var 2) je_int) je_str (nomark _)) (jw_and1 (jt_not (jt_val (je_calm (je_call D_can_jump hr (by decide) takes0 (ja_cons (je_var 0) (ja_cons (je_ix (je_ix (je_var 1) (je_var 3)) je_int) (ja_cons (je_ix (je_var 2) je_int) ja_nil))))))))))
  (jb_one (js_raise0N T.r_InvalidEvent rfl tk))
  jb_nil)))))
abbrev N_Plan_on_restart : List Str := ["self"]
theorem sc_Plan_on_restart : FnScope N_Plan_on_restart ["self"] (defScope (inClass (top 37) 3)) := ⟨rfl, rfl, rfl, by decide +kernel, rfl, by decide +kernel, by decide +kernel⟩
theorem ok_Plan_on_restart (Fn : L2.Fun K "on_restart" "Plan.on_restart" (inClass (top 37) 3) fa fd) (T : Tx K w mg ca)  : FnOk P w K mg base (L2.CX P w) 1 fa fd ["self"] (spD K ca 1 F_Plan_on_restart) := by
  have sc := sc_Plan_on_restart
  refine fn_body (k := 0) Fn sc fun cdv A outer s H E hr tk po =>
  (jb_one (js_ret (je_fld T.c_Plan.1.cl T.a_Plan__on_restart (je_var 0))))
abbrev N_Setup_marks : List Str := ["self"]
theorem sc_Setup_marks : FnScope N_Setup_marks ["self"] (defScope (inClass (top 38) 2)) := ⟨rfl, rfl, rfl, by decide +kernel, rfl, by decide +kernel, by decide +kernel⟩
theorem ok_Setup_marks (Fn : L2.Fun K "marks" "Setup.marks" (inClass (top 38) 2) fa fd) (T : Tx K w mg ca)  : FnOk P w K mg base (L2.CX P w) 1 fa fd ["self"] (spD K ca 1 F_Setup_marks) := by
  have sc := sc_Setup_marks
  refine fn_body (k := 0) Fn sc fun cdv A outer s H E hr tk po =>
  (jb_one (js_ret (je_fld T.c_Setup.1.cl T.a_Setup__marks (je_var 0))))
abbrev N_Setup_plans : List Str := ["self"]
theorem sc_Setup_plans : FnScope N_Setup_plans ["self"] (defScope (inClass (top 38) 1)) := ⟨rfl, rfl, rfl, by decide +kernel, rfl, by decide +kernel, by decide +kernel⟩
theorem ok_Setup_plans (Fn : L2.Fun K "plans" "Setup.plans" (inClass (top 38) 1) fa fd) (T : Tx K w mg ca)  : FnOk P w K mg base (L2.CX P w) 1 fa fd ["self"] (spD K ca 1 F_Setup_plans) := by
  have sc := sc_Setup_plans
  refine fn_body (k := 0) Fn sc fun cdv A outer s H E hr tk po =>
  (jb_one (js_ret (je_fld T.c_Setup.1.cl T.a_Setup__plans (je_var 0))))
abbrev N_Setup_limit : List Str := ["self"]
theorem sc_Setup_limit : FnScope N_Setup_limit ["self"] (defScope (inClass (top 38) 4)) := ⟨rfl, rfl, rfl, by decide +kernel, rfl, by decide +kernel, by decide +kernel⟩
theorem ok_Setup_limit (Fn : L2.Fun K "limit" "Setup.limit" (inClass (top 38) 4) fa fd) (T : Tx K w mg ca)  : FnOk P w K mg base (L2.CX P w) 1 fa fd ["self"] (spD K ca 1 F_Setup_limit) := by
  have sc := sc_Setup_limit
  refine fn_body (k := 0) Fn sc fun cdv A outer s H E hr tk po =>
  (jb_one (js_ret (je_fld T.c_Setup.1.cl T.a_Setup__limit (je_var 0))))
abbrev N_restarted : List Str := ["setup", "maker", "reading", "saved"]
theorem sc_restarted : FnScope N_restarted ["setup", "maker", "reading", "saved"] (defScope (top 22)) := ⟨rfl, rfl, rfl, by decide +kernel, rfl, by decide +kernel, by decide +kernel⟩
theorem ok_restarted (Fn : L2.Fun K "_restarted" "_restarted" (top 22) fa fd) (T : Tx K w mg ca) (D_Plan_on_restart : PrpOk P w K mg base ca 1 0 "on_restart" F_Plan_on_restart) (D_Setup_limit : PrpOk P w K mg base ca 1 1 "limit" F_Setup_limit) (D_Setup_plans : PrpOk P w K mg base ca 1 1 "plans" F_Setup_plans) : FnOk P w K mg base (L2.CX P w) 3 fa fd ["setup", "maker", "reading", "saved"] (spD K ca 4 F_restarted) := by
  have sc := sc_restarted
  refine fn_body (k := 2) Fn sc fun cdv A outer s H E hr tk po =>
  (jb_cons (js_if (jw_pt (jw_and (jt_cmp (op_eqD hr.units) rv_eqS (je_prp D_Plan_on_restart hr (by decide) (je_ix (je_prp D_Setup_plans hr (by decide) (je_var 0)) (je_var 1))) je_str (nomark _)) (jw_and1 (jt_cmp (op_neD hr.units) rv_neS (je_var 3) (je_gintE T.k_NO_READING) (nomark _)))))
  (jb_one (js_ret (je_tup (ja_cons (je_var 2) (ja_cons (je_var 3) (ja_cons (je_prp D_Setup_limit hr (by decide) (je_var 0)) (ja_cons (je_var 3) ja_nil)))))))
  jb_nil)
  (jb_one (js_ret (je_tup (ja_cons (je_var 2) (ja_cons (je_gintE T.k_NO_READING) (ja_cons je_int (ja_cons (je_var 3) ja_nil))))))))
abbrev N_Plan_on_back : List Str := ["self"]
theorem sc_Plan_on_back : FnScope N_Plan_on_back ["self"] (defScope (inClass (top 37) 1)) := ⟨rfl, rfl, rfl, by decide +kernel, rfl, by decide +kernel, by decide +kernel⟩
theorem ok_Plan_on_back (Fn : L2.Fun K "on_back" "Plan.on_back" (inClass (top 37) 1) fa fd) (T : Tx K w mg ca)  : FnOk P w K mg base (L2.CX P w) 1 fa fd ["self"] (spD K ca 1 F_Plan_on_back) := by
  have sc := sc_Plan_on_back
  refine fn_body (k := 0) Fn sc fun cdv A outer s H E hr tk po =>
  (jb_one (js_ret (je_fld T.c_Plan.1.cl T.a_Plan__on_back (je_var 0))))
abbrev N_Plan_on_full : List Str := ["self"]
theorem sc_Plan_on_full : FnScope N_Plan_on_full ["self"] (defScope (inClass (top 37) 2)) := ⟨rfl, rfl, rfl, by decide +kernel, rfl, by decide +kernel, by decide +kernel⟩
theorem ok_Plan_on_full (Fn : L2.Fun K "on_full" "Plan.on_full" (inClass (top 37) 2) fa fd) (T : Tx K w mg ca)  : FnOk P w K mg base (L2.CX P w) 1 fa fd ["self"] (spD K ca 1 F_Plan_on_full) := by
  have sc := sc_Plan_on_full
  refine fn_body (k := 0) Fn sc fun cdv A outer s H E hr tk po =>
  (jb_one (js_ret (je_fld T.c_Plan.1.cl T.a_Plan__on_full (je_var 0))))
abbrev N_told_at_last : List Str := ["setup", "plan", "last", "counter"]
theorem sc_told_at_last : FnScope N_told_at_last ["setup", "plan", "last", "counter"] (defScope (top 24)) := ⟨rfl, rfl, rfl, by decide +kernel, rfl, by decide +kernel, by decide +kernel⟩
theorem ok_told_at_last (Fn : L2.Fun K "_told_at_last" "_told_at_last" (top 24) fa fd) (T : Tx K w mg ca) (D_Plan_on_full : PrpOk P w K mg base ca 1 0 "on_full" F_Plan_on_full) (D_Setup_limit : PrpOk P w K mg base ca 1 1 "limit" F_Setup_limit) (D_Setup_top : PrpOk P w K mg base ca 1 1 "top" F_Setup_top) : FnOk P w K mg base (L2.CX P w) 3 fa fd ["setup", "plan", "last", "counter"] (spD K ca 4 F_told_at_last) := by
  have sc := sc_told_at_last
  refine fn_body (k := 2) Fn sc fun cdv A outer s H E hr tk po =>
  (jb_cons (js_if (jt_cmp op_lt rv_lt (je_var 3) (je_prp D_Setup_limit hr (by decide) (je_var 0)) (nomark _))
  (jb_one (js_ret (je_tup (ja_cons (je_var 2) (ja_cons (je_op op_addA rv_add (je_var 3) je_int) ja_nil)))))
  jb_nil)
  (jb_cons (js_if (jt_cmp (op_eqD hr.units) rv_eqS (je_prp D_Plan_on_full hr (by decide) (je_var 1)) je_str (nomark _))
  (jb_one (js_ret (je_tup (ja_cons (je_var 2) (ja_cons je_int ja_nil)))))
  jb_nil)
  (jb_cons (js_if (jw_pt (jw_and (jt_cmp (op_eqD hr.units) rv_eqS (je_prp D_Plan_on_full hr (by decide) (je_var 1)) je_str (nomark _)) (jw_and1 (jt_cmp op_lt rv_lt (je_var 2) (je_prp D_Setup_top hr (by decide) (je_var 0)) (nomark _)))))
  (jb_one (js_ret (je_tup (ja_cons (je_op op_addA rv_add (je_var 2) je_int) (ja_cons je_int ja_nil)))))
  jb_nil)
  (jb_one (js_ret je_non)))))
abbrev N_told : List Str := ["setup", "plan", "state", "reading", "last", "counter", "saved", "waits"]
theorem sc_told : FnScope N_told ["setup", "plan", "state"] (defScope (top 23)) := ⟨rfl, rfl, rfl, by decide +kernel, rfl, by decide +kernel, by decide +kernel⟩
theorem ok_told (Fn : L2.Fun K "_told" "_told" (top 23) fa fd) (T : Tx K w mg ca) (D_Plan_on_back : PrpOk P w K mg base ca 1 0 "on_back" F_Plan_on_back) (D_Plan_on_restart : PrpOk P w K mg base ca 1 0 "on_restart" F_Plan_on_restart) (D_told_at_last : DefOk P w K mg base ca 3 "_told_at_last" ["setup", "plan", "last", "counter"] F_told_at_last) : FnOk P w K mg base (L2.CX P w) 4 fa fd ["setup", "plan", "state"] (spD K ca 3 F_told) := by
  have sc := sc_told
  refine fn_body (k := 3) Fn sc fun cdv A outer s H E hr tk po =>
  (jb_cons (js_asgG (je_var 2) (jg_tup rfl (jgs_cons (jg_name 3 sc.nd) (jgs_cons (jg_name 4 sc.nd) (jgs_cons (jg_name 5 sc.nd) (jgs_cons (jg_name 6 sc.nd) jgs_nil))))))
  (jb_cons (js_if (jt_cmp (op_eqD hr.units) rv_eqS (je_var 4) (je_gintE T.k_NO_READING) (nomark _))
  (jb_cons (js_asg 7 sc.nd (je_and (je_cmp (op_eqD hr.units) rv_eqS (je_prp D_Plan_on_restart hr (by decide) (je_var 1)) je_str (nomark _)) (je_and (je_cmp (op_neD hr.units) rv_neS (je_var 6) (je_gintE T.k_NO_READING) (nomark _)) (je_one (je_cmp op_le rv_le (je_var 3) (je_var 6) (nomark _))))))
  (jb_one (js_ret (je_if (jt_val (je_var 7)) je_non (je_tup (ja_cons (je_var 3) (ja_cons je_int ja_nil)))))))
  jb_nil)
  (jb_cons (js_if (jt_cmp op_gt rv_gt (je_var 3) (je_var 4) (nomark _))
  (jb_one (js_ret (je_tup (ja_cons (je_var 3) (ja_cons je_int ja_nil)))))
  jb_nil)
  (jb_cons (js_if (jw_pt (jw_and (jt_cmp op_lt rv_lt (je_var 3) (je_var 4) (nomark _)) (jw_and1 (jt_cmp (op_eqD hr.units) rv_eqS (je_prp D_Plan_on_back hr (by decide) (je_var 1)) je_str (nomark _)))))
  (jb_one (js_ret (je_tup (ja_cons (je_var 3) (ja_cons je_int ja_nil)))))
  jb_nil)
  (jb_cons (js_if (jw_pt (jw_and (jt_cmp op_lt rv_lt (je_var 3) (je_var 4) (nomark _)) (jw_and1 (jt_cmp (op_eqD hr.units) rv_eqS (je_prp D_Plan_on_back hr (by decide) (je_var 1)) je_str (nomark _)))))
  (jb_one (js_ret je_non))
  jb_nil)
  (jb_one (js_ret (je_call D_told_at_last hr (by decide) tk (ja_cons (je_var 0) (ja_cons (je_var 1) (ja_cons (je_var 4) (ja_cons (je_var 5) ja_nil))))))))))))
abbrev N_step_alone : List Str := ["setup", "state", "event", "maker", "reading", "last", "counter", "saved", "told", "told_reading", "told_counter"]
theorem sc_step_alone : FnScope N_step_alone ["setup", "state", "event"] (defScope (top 21)) := ⟨rfl, rfl, rfl, by decide +kernel, rfl, by decide +kernel, by decide +kernel⟩
theorem ok_step_alone (Fn : L2.Fun K "step_alone" "step_alone" (top 21) fa fd) (T : Tx K w mg ca) (D_Plan_on_restart : PrpOk P w K mg base ca 1 0 "on_restart" F_Plan_on_restart) (D_Setup_marks : PrpOk P w K mg base ca 1 1 "marks" F_Setup_marks) (D_Setup_plans : PrpOk P w K mg base ca 1 1 "plans" F_Setup_plans) (D_restarted : DefOk P w K mg base ca 3 "_restarted" ["setup", "maker", "reading", "saved"] F_restarted) (D_told : DefOk P w K mg base ca 4 "_told" ["setup", "plan", "state"] F_told) : FnOk P w K mg base (L2.CX P w) 5 fa fd ["setup", "state", "event"] (spD K ca 3 F_step_alone) := by
  have sc := sc_step_alone
  refine fn_body (k := 4) Fn sc fun cdv A outer s H E hr tk po =>
  (jb_cons (js_asg 3 sc.nd (je_ix (je_var 2) je_int))
  (jb_cons (js_asgG (je_var 1) (jg_tup rfl (jgs_cons (jg_name 4 sc.nd) (jgs_cons (jg_name 5 sc.nd) (jgs_cons (jg_name 6 sc.nd) (jgs_cons (jg_name 7 sc.nd) jgs_nil))))))
  (jb_cons (js_if (jt_cmp (op_eqD hr.units) rv_eqS (je_ix (je_var 2) je_int) je_str (nomark _))
  (jb_one (js_ret (je_tup (ja_cons (je_tup (ja_cons (je_ix (je_var 2) je_int) (ja_cons (je_var 5) (ja_cons (je_var 6) (ja_cons (je_var 7) ja_nil))))) (ja_cons je_non ja_nil)))))
  jb_nil)
  (jb_cons (js_if (jt_cmp (op_eqD hr.units) rv_eqS (je_ix (je_var 2) je_int) je_str (nomark _))
  (jb_one (js_ret (je_tup (ja_cons (je_call D_restarted hr (by decide) tk (ja_cons (je_var 0) (ja_cons (je_var 3) (ja_cons (je_var 4) (ja_cons (je_var 7) ja_nil))))) (ja_cons je_non ja_nil)))))
  jb_nil)
  (jb_cons (js_asg 8 sc.nd (je_call D_told hr (by decide) tk (ja_cons (je_var 0) (ja_cons (je_ix (je_prp D_Setup_plans hr (by decide) (je_var 0)) (je_var 3)) (ja_cons (je_var 1) ja_nil)))))
  (jb_cons (js_if (jt_cmp op_isN' rv_isN (je_var 8) je_non (nomark _))
  (jb_one (js_ret (je_tup (ja_cons (je_var 1) (ja_cons je_non ja_nil)))))
  jb_nil)
  (jb_cons (js_asgG (je_var 8) (jg_tup rfl (jgs_cons (jg_name 9 sc.nd) (jgs_cons (jg_name 10 sc.nd) jgs_nil))))
  (jb_cons (js_if (jt_cmp (op_neD hr.units) rv_neS (je_prp D_Plan_on_restart hr (by decide) (je_ix (je_prp D_Setup_plans hr (by decide) (je_var 0)) (je_var 3))) je_str (nomark _))
  (jb_one (js_asg 7 sc.nd (je_var 9)))
  jb_nil)
  (jb_one (js_ret (je_tup (ja_cons (je_tup (ja_cons (je_var 4) (ja_cons (je_var 9) (ja_cons (je_var 10) (ja_cons (je_var 7) ja_nil))))) (ja_cons (je_tup (ja_cons (je_var 9) (ja_cons (je_ix (je_prp D_Setup_marks hr (by decide) (je_var 0)) (je_var 3)) (ja_cons (je_var 10) ja_nil)))) ja_nil)))))))))))))
abbrev N_with_state : List Str := ["standing", "maker", "state"]
theorem sc_with_state : FnScope N_with_state ["standing", "maker", "state"] (defScope (top 20)) := ⟨rfl, rfl, rfl, by decide +kernel, rfl, by decide +kernel, by decide +kernel⟩
theorem ok_with_state (Fn : L2.Fun K "with_state" "with_state" (top 20) fa fd) (T : Tx K w mg ca)  : FnOk P w K mg base (L2.CX P w) 1 fa fd ["standing", "maker", "state"] (spD K ca 3 F_with_state) := by
  have sc := sc_with_state
  refine fn_body (k := 0) Fn sc fun cdv A outer s H E hr tk po =>
  (jb_one (js_ret (je_op op_addA rv_add (je_op op_addA rv_add (je_slice (je_var 0) jo_none (jo_some (je_var 1))) (je_tup (ja_cons (je_var 2) ja_nil))) (je_slice (je_var 0) (jo_some (je_op op_addA rv_add (je_var 1) je_int)) jo_none))))
abbrev N_step : List Str := ["setup", "standing", "event", "maker", "state", "number"]
theorem sc_step : FnScope N_step ["setup", "standing", "event"] (defScope (top 19)) := ⟨rfl, rfl, rfl, by decide +kernel, rfl, by decide +kernel, by decide +kernel⟩
theorem ok_step (Fn : L2.Fun K "step" "step" (top 19) fa fd) (T : Tx K w mg ca) (D_step_alone : DefOk P w K mg base ca 5 "step_alone" ["setup", "state", "event"] F_step_alone) (D_with_state : DefOk P w K mg base ca 1 "with_state" ["standing", "maker", "state"] F_with_state) : FnOk P w K mg base (L2.CX P w) 6 fa fd ["setup", "standing", "event"] (spD K ca 3 F_step) := by
  have sc := sc_step
  refine fn_body (k := 5) Fn sc fun cdv A outer s H E hr tk po =>
  (jb_cons (js_asg 3 sc.nd (je_ix (je_var 2) je_int))
  (jb_cons (js_asgG (je_call D_step_alone hr (by decide) tk (ja_cons (je_var 0) (ja_cons (je_ix (je_var 1) (je_var 3)) (ja_cons (je_var 2) ja_nil)))) (jg_tup rfl (jgs_cons (jg_name 4 sc.nd) (jgs_cons (jg_name 5 sc.nd) jgs_nil))))
  (jb_one (js_ret (je_tup (ja_cons (je_call D_with_state hr (by decide) tk (ja_cons (je_var 1) (ja_cons (je_var 3) (ja_cons (je_var 4) ja_nil)))) (ja_cons (je_var 5) ja_nil)))))))
abbrev N_run : List Str := ["setup", "events", "standing", "given", "at", "event", "number"]
theorem sc_run : FnScope N_run ["setup", "events"] (defScope (top 15)) := ⟨rfl, rfl, rfl, by decide +kernel, rfl, by decide +kernel, by decide +kernel⟩
theorem ok_run (Fn : L2.Fun K "run" "run" (top 15) fa fd) (T : Tx K w mg ca) (D_begin : DefOk P w K mg base ca 3 "begin" ["setup"] F_begin) (D_check_event : DefOkN P w K mg base ca 4 "check_event" ["setup", "standing", "event"] F_check_event) (D_step : DefOk P w K mg base ca 6 "step" ["setup", "standing", "event"] F_step) : FnOk P w K mg base (L2.CX P w) 7 fa fd ["setup", "events"] (spD K ca 2 F_run) := by
  have sc := sc_run
  refine fn_body (k := 6) Fn sc fun cdv A outer s H E hr tk po =>
  (jb_cons (js_asg 2 sc.nd (je_call D_begin hr (by decide) tk (ja_cons (je_var 0) ja_nil)))
  (jb_cons (js_asg 3 sc.nd (je_new ja_nil))
  (jb_cons (js_for po rfl (ji_e rfl T.n_enumerate (je_var 1)) (jg_tup rfl (jgs_cons (jg_name 4 sc.nd) (jgs_cons (jg_name 5 sc.nd) jgs_nil)))
  (jb_cons (js_tryN rfl rfl T.hc_2 T.hc_3 (fun hd => L2H.passesAt_of rfl hd) tk (fun W pn xe tkN po => (jb_one (js_drop (je_callN D_check_event hr (by decide) tkN (ja_cons (je_var 0) (ja_cons (je_var 2) (ja_cons (je_var 5) ja_nil)))))))
  (fun a oe pn tks hot => (jb_one (js_raiseFN (T.rh_InvalidHistory P base) (L2H.roomH_mark (hr.mono (by decide)) _) hot tks (ja_cons (je_var 4) ja_nil)))))
  (jb_cons (js_asgG (je_call D_step hr (by decide) tk (ja_cons (je_var 0) (ja_cons (je_var 2) (ja_cons (je_var 5) ja_nil)))) (jg_tup rfl (jgs_cons (jg_name 2 sc.nd) (jgs_cons (jg_name 6 sc.nd) jgs_nil))))
  (jb_one (js_if (jt_cmp (op_eqD hr.units) rv_eqS (je_ix (je_var 5) je_int) je_str (nomark _))
  (jb_one (js_drop (je_append (je_var 3) (je_var 6))))
  jb_nil)))))
  (jb_one (js_ret (je_tup (ja_cons (je_var 2) (ja_cons (je_var 3) ja_nil))))))))
abbrev N_is_number_word : List Str := ["word", "most_digits", "sign"]
theorem sc_is_number_word : FnScope N_is_number_word ["word", "most_digits"] (defScope (top 32)) := ⟨rfl, rfl, rfl, by decide +kernel, rfl, by decide +kernel, by decide +kernel⟩
theorem ok_is_number_word (Fn : L2.Fun K "_is_number_word" "_is_number_word" (top 32) fa fd) (T : Tx K w mg ca)  : FnOk P w K mg base (L2.CX P w) 1 fa fd ["word", "most_digits"] (spD K ca 2 F_is_number_word) := by
  have sc := sc_is_number_word
  refine fn_body (k := 0) Fn sc fun cdv A outer s H E hr tk po =>
  (jb_cons (js_if (jw_pt (jw_or (jt_not (jt_chain op_le rv_le op_le rv_le je_int (je_lenS T.n_len rfl (je_var 0)) (je_var 1))) (jw_or1 (jt_not (jt_val (je_all T.n_all rfl rfl (je_lc (own := [("sign", 2)]) rfl sc.nd (ji_s (je_var 0)) (blkOk_by (N := N_is_number_word) (sc := defScope (top 32)) (by decide +kernel)) (fun _ _ _ _ _ => pg_name (i := 2) sc.nd rfl (Or.inl rfl)) gvs_name (own_name (by decide)) (fun _ _ _ _ _ => ?h1))))))))
  (jb_one (js_ret je_bl))
  jb_nil)
  (jb_one (js_ret (je_or (je_cmp (op_eqD hr.units) rv_eqS (je_lenS T.n_len rfl (je_var 0)) je_int (nomark _)) (je_one (je_cmp (op_neD hr.units) rv_neS (je_ixS (je_var 0) je_int) je_str (nomark _)))))))
  case h1 => exact (je_inS (je_var 2) (je_gstr T.k_DIGITS))
abbrev N_wrong_word : List Str := ["words", "many", "most_digits", "at", "word"]
theorem sc_wrong_word : FnScope N_wrong_word ["words", "many", "most_digits"] (defScope (top 30)) := ⟨rfl, rfl, rfl, by decide +kernel, rfl, by decide +kernel, by decide +kernel⟩
theorem ok_wrong_word (Fn : L2.Fun K "wrong_word" "wrong_word" (top 30) fa fd) (T : Tx K w mg ca) (D_is_number_word : DefOk P w K mg base ca 1 "_is_number_word" ["word", "most_digits"] F_is_number_word) : FnOk P w K mg base (L2.CX P w) 2 fa fd ["words", "many", "most_digits"] (spD K ca 3 F_wrong_word) := by
  have sc := sc_wrong_word
  refine fn_body (k := 1) Fn sc fun cdv A outer s H E hr tk po =>
  (jb_cons (js_for po rfl (ji_e rfl T.n_enumerate (je_var 0)) (jg_tup rfl (jgs_cons (jg_name 3 sc.nd) (jgs_cons (jg_name 4 sc.nd) jgs_nil)))
  (jb_one (js_if (jw_pt (jw_or (jt_cmp op_ge rv_ge (je_var 3) (je_var 1) (nomark _)) (jw_or1 (jw_pt (jw_and (jt_cmp op_gt rv_gt (je_var 3) je_int (nomark _)) (jw_and1 (jt_not (jt_val (je_call D_is_number_word hr (by decide) tk (ja_cons (je_var 4) (ja_cons (je_var 2) ja_nil)))))))))))
  (jb_one (js_ret (je_var 3)))
  jb_nil)))
  (jb_one (js_ret (je_if (jt_cmp op_lt rv_lt (je_len T.n_len rfl (je_var 0)) (je_var 1) (nomark _)) (je_len T.n_len rfl (je_var 0)) je_non))))
abbrev N_read_history : List Str := ["setup", "text", "events", "at", "words", "wrong"]
theorem sc_read_history : FnScope N_read_history ["setup", "text"] (defScope (top 28)) := ⟨rfl, rfl, rfl, by decide +kernel, rfl, by decide +kernel, by decide +kernel⟩
theorem ok_read_history (Fn : L2.Fun K "read_history" "read_history" (top 28) fa fd) (T : Tx K w mg ca) (D_row_read : DefOk P w K mg base ca 1 "row_read" ["words"] F_row_read) (D_rows_of : DefOk P w K mg base ca 1 "rows_of" ["text"] F_rows_of) (D_run : DefOk P w K mg base ca 7 "run" ["setup", "events"] F_run) (D_wrong_word : DefOk P w K mg base ca 2 "wrong_word" ["words", "many", "most_digits"] F_wrong_word) : FnOk P w K mg base (L2.CX P w) 8 fa fd ["setup", "text"] (spD K ca 2 F_read_history) := by
  have sc := sc_read_history
  refine fn_body (k := 7) Fn sc fun cdv A outer s H E hr tk po =>
  (jb_cons (js_asg 2 sc.nd (je_new ja_nil))
  (jb_cons (js_for po rfl (ji_e rfl T.n_enumerate (je_call D_rows_of hr (by decide) tk (ja_cons (je_var 1) ja_nil))) (jg_tup rfl (jgs_cons (jg_name 3 sc.nd) (jgs_cons (jg_name 4 sc.nd) jgs_nil)))
  (jb_cons (js_asg 5 sc.nd (je_call D_wrong_word hr (by decide) tk (ja_cons (je_var 4) (ja_cons (je_getK2E T.k2_EVENT_PARTS (je_ix (je_var 4) je_int) je_int) (ja_cons (je_gintE T.k_HISTORY_DIGITS) ja_nil)))))
  (jb_cons (js_if (jt_cmp op_notN' rv_notN (je_var 5) je_non (nomark _))
  (jb_one (js_raiseI (T.r_InvalidLine P base) hr (by decide) rfl tk (ja_cons (je_var 3) (ja_cons (je_var 5) ja_nil))))
  jb_nil)
  (jb_one (js_drop (je_append (je_var 2) (je_call D_row_read hr (by decide) tk (ja_cons (je_var 4) ja_nil))))))))
  (jb_cons (js_frzX 2 (je_call D_run hr (by decide) tk (ja_cons (je_var 0) (ja_cons (je_var 2) ja_nil))))
  (jb_one (js_ret (je_var 2))))))
abbrev N_law_place : List Str := ["_law_rows", "_law_setup", "e"]
theorem sc_law_place : FnScope N_law_place ["_law_rows"] (defScope (top 44)) := ⟨rfl, rfl, rfl, by decide +kernel, rfl, by decide +kernel, by decide +kernel⟩
theorem ok_law_place (Fn : L2.Fun K "_law_place" "_law_place" (top 44) fa fd) (T : Tx K w mg ca) (D_Plan__init : MakOk P w K mg base ca 2 0 "Plan" ["self", "on_back", "on_full", "on_restart"] F_Plan__init) (D_Setup__init : MakOk P w K mg base ca 4 1 "Setup" ["self", "plans", "marks", "top", "limit", "back", "ahead"] F_Setup__init) (D_read_history : DefOk P w K mg base ca 8 "read_history" ["setup", "text"] F_read_history) : FnOk P w K mg base (L2.CX P w) 9 fa fd ["_law_rows"] (spD K ca 1 F_law_place) := by
  have sc := sc_law_place
  refine fn_body (k := 8) Fn sc fun cdv A outer s H E hr tk po =>
  (jb_cons (js_asg 1 sc.nd (je_mak D_Setup__init hr (by decide) tk (fun _ _ _ _ _ z => z) (ja_cons (je_tup (ja_cons (je_mak D_Plan__init hr (by decide) tk (fun _ _ _ _ _ z => z) (ja_cons je_str (ja_cons je_str (ja_cons je_str ja_nil)))) (ja_cons (je_mak D_Plan__init hr (by decide) tk (fun _ _ _ _ _ z => z) (ja_cons je_str (ja_cons je_str (ja_cons je_str ja_nil)))) ja_nil))) (ja_cons (je_tup (ja_cons je_int (ja_cons je_int ja_nil))) (ja_cons je_int (ja_cons je_int (ja_cons je_int (ja_cons je_int ja_nil))))))))
  (jb_cons (js_tryM 2 T.co rfl rfl sc.nd tk (fun W pn xe tk po => (jb_one (js_drop (je_call D_read_history hr (by decide) tk (ja_cons (je_var 1) (ja_cons (je_join je_str (je_var 0)) ja_nil))))))
  (JHs.cons T.hc_0 rfl (by decide) (fun a oe c d pn hcc hz hf => (jb_one (js_ret (je_tup (ja_cons (je_xf T.co (T.xf_0_row c hcc).1 (T.xf_0_row c hcc).2 hz hf (je_var 2)) (ja_cons (je_xf T.co (T.xf_0_word c hcc).1 (T.xf_0_word c hcc).2 hz hf (je_var 2)) ja_nil))))))
  (JHs.cons T.hc_1 rfl (by decide) (fun a oe c d pn hcc hz hf => (jb_one (js_ret (je_tup (ja_cons je_str (ja_cons (je_xf T.co (T.xf_1_index c hcc).1 (T.xf_1_index c hcc).2 hz hf (je_var 2)) ja_nil))))))
  JHs.nil)))
  (jb_one (js_ret je_non))))
abbrev N_law_taken : List Str := ["_law_row", "_law_many", "_law_found", "_law_cell"]
theorem sc_law_taken : FnScope N_law_taken ["_law_row", "_law_many"] (defScope (top 43)) := ⟨rfl, rfl, rfl, by decide +kernel, rfl, by decide +kernel, by decide +kernel⟩
theorem ok_law_taken (Fn : L2.Fun K "_law_taken" "_law_taken" (top 43) fa fd) (T : Tx K w mg ca)  : FnOk P w K mg base (L2.CX P w) 1 fa fd ["_law_row", "_law_many"] (spD K ca 2 F_law_taken) := by
  have sc := sc_law_taken
  refine fn_body (k := 0) Fn sc fun cdv A outer s H E hr tk po =>
  (jb_cons (js_if (jt_cmp op_gt rv_gt (je_ix (je_var 0) je_int) je_int (nomark _))
  (jb_cons (js_asg 2 sc.nd (je_op op_mod rv_mod (je_intc T.n_int rfl (je_ix (je_var 0) je_int)) (je_var 1)))
  (jb_cons (js_sub (je_op op_fdiv rv_div (je_ix (je_var 0) je_int) (je_var 1)) (je_var 0) je_int)
  (jb_one (js_ret (je_var 2)))))
  jb_nil)
  (jb_cons (js_sub (je_op op_addA rv_add (je_ix (je_var 0) je_int) je_int) (je_var 0) je_int)
  (jb_cons (js_if (jt_cmp op_gt rv_gt (je_ix (je_var 0) je_int) (je_len T.n_len rfl (je_ix (je_var 0) je_int)) (nomark _))
  (jb_cons (js_sub (je_op op_mod rv_mod (je_intc T.n_int rfl (je_op op_addA rv_add (je_op op_mulA rv_mul (je_ix (je_var 0) je_int) je_int) je_int)) je_int) (je_var 0) je_int)
  (jb_one (js_ret (je_op op_mod rv_mod (je_intc T.n_int rfl (je_op op_fdiv rv_div (je_ix (je_var 0) je_int) je_int)) (je_var 1)))))
  jb_nil)
  (jb_cons (js_asg 3 sc.nd (je_ix (je_ix (je_var 0) je_int) (je_op op_sub rv_sub (je_ix (je_var 0) je_int) je_int)))
  (jb_cons (js_sub (je_op op_mod rv_mod (je_intc T.n_int rfl (je_op op_addA rv_add (je_op op_addA rv_add (je_op op_mulA rv_mul (je_ix (je_var 0) je_int) je_int) (je_var 3)) je_int)) je_int) (je_var 0) je_int)
  (jb_cons (js_if (jt_cmp op_ge rv_ge (je_var 3) (je_op op_pow rv_pow je_int je_int) (nomark _))
  (jb_one (js_sub (je_op op_fdiv rv_div (je_var 3) (je_var 1)) (je_var 0) je_int))
  jb_nil)
  (jb_one (js_ret (je_op op_mod rv_mod (je_intc T.n_int rfl (je_var 3)) (je_var 1))))))))))
abbrev N_law : List Str := ["_law_script", "_law_row", "_law_good", "_law_wrong", "_law_odd", "_law_turn", "_law_k", "_law_line", "_law_word"]
theorem sc_law : FnScope N_law ["_law_script"] (defScope (top 45)) := ⟨rfl, rfl, rfl, by decide +kernel, rfl, by decide +kernel, by decide +kernel⟩
theorem ok_law (Fn : L2.Fun K "law" "law" (top 45) fa fd) (T : Tx K w mg ca) (D_law_place : DefOk P w K mg base ca 9 "_law_place" ["_law_rows"] F_law_place) (D_law_taken : DefOk P w K mg base ca 1 "_law_taken" ["_law_row", "_law_many"] F_law_taken) : FnOk P w K mg base (L2.CX P w) 10 fa fd ["_law_script"] (spD K ca 1 F_law) := by
  have sc := sc_law
  refine fn_body (k := 9) Fn sc fun cdv A outer s H E hr tk po =>
  (jb_cons (js_asg 1 sc.nd (je_new (ja_cons (je_var 0) (ja_cons je_int (ja_cons je_int (ja_cons je_int ja_nil))))))
  (jb_cons (js_asg 2 sc.nd (je_lst (ja_cons je_str (ja_cons je_str (ja_cons je_str (ja_cons je_str ja_nil))))))
  (jb_cons (js_if (jt_cmp op_notN' rv_notN (je_sub 0 (je_call D_law_place hr (by decide) tk (ja_cons (je_var 2) ja_nil))) je_non (nomark _))
  (jb_one (js_ret je_bl))
  jb_nil)
  (jb_cons (js_asg 3 sc.nd (je_lst (ja_cons (je_tup (ja_cons je_str (ja_cons je_int ja_nil))) (ja_cons (je_tup (ja_cons je_str (ja_cons je_int ja_nil))) (ja_cons (je_tup (ja_cons je_str (ja_cons je_int ja_nil))) (ja_cons (je_tup (ja_cons je_str (ja_cons je_int ja_nil))) (ja_cons (je_tup (ja_cons je_str (ja_cons je_int ja_nil))) (ja_cons (je_tup (ja_cons je_str (ja_cons je_int ja_nil))) (ja_cons (je_tup (ja_cons je_str (ja_cons je_int ja_nil))) ja_nil)))))))))
  (jb_cons (js_asg 3 sc.nd (je_op op_addA rv_add (je_var 3) (je_lst (ja_cons (je_tup (ja_cons je_str (ja_cons je_int ja_nil))) (ja_cons (je_tup (ja_cons je_str (ja_cons je_int ja_nil))) (ja_cons (je_tup (ja_cons je_str (ja_cons je_int ja_nil))) (ja_cons (je_tup (ja_cons je_str (ja_cons je_int ja_nil))) (ja_cons (je_tup (ja_cons je_str (ja_cons je_int ja_nil))) ja_nil))))))))
  (jb_cons (js_asg 3 sc.nd (je_op op_addA rv_add (je_var 3) (je_lst (ja_cons (je_tup (ja_cons je_str (ja_cons je_int ja_nil))) (ja_cons (je_tup (ja_cons je_str (ja_cons je_int ja_nil))) (ja_cons (je_tup (ja_cons je_str (ja_cons je_int ja_nil))) (ja_cons (je_tup (ja_cons je_str (ja_cons je_int ja_nil))) (ja_cons (je_tup (ja_cons je_str (ja_cons je_int ja_nil))) ja_nil))))))))
  (jb_cons (js_asg 4 sc.nd (je_lst (ja_cons je_str (ja_cons je_str (ja_cons je_str (ja_cons je_str (ja_cons je_str (ja_cons je_str (ja_cons je_str ja_nil)))))))))
  (jb_cons (js_for po rfl (ji_r rfl T.n_range je_int) (jg_name 5 sc.nd)
  (jb_cons (js_asg 6 sc.nd (je_call D_law_taken hr (by decide) tk (ja_cons (je_var 1) (ja_cons je_int ja_nil))))
  (jb_cons (js_asgG (je_ix (je_var 3) (je_call D_law_taken hr (by decide) tk (ja_cons (je_var 1) (ja_cons (je_len T.n_len rfl (je_var 3)) ja_nil)))) (jg_tup rfl (jgs_cons (jg_name 7 sc.nd) (jgs_cons (jg_name 8 sc.nd) jgs_nil))))
  (jb_cons (js_if (jt_cmp (op_neD hr.units) rv_neS (je_sub 0 (je_call D_law_place hr (by decide) tk (ja_cons (je_op op_addA rv_add (je_op op_addA rv_add (je_slice (je_var 2) jo_none (jo_some (je_var 6))) (je_lst (ja_cons (je_var 7) ja_nil))) (je_slice (je_var 2) (jo_some (je_var 6)) jo_none)) ja_nil))) (je_tup (ja_cons (je_var 6) (ja_cons (je_var 8) ja_nil))) (nomark _))
  (jb_one (js_ret je_bl))
  jb_nil)
  (jb_cons (js_if (jt_cmp (op_neD hr.units) rv_neS (je_sub 0 (je_call D_law_place hr (by decide) tk (ja_cons (je_op op_addA rv_add (je_op op_addA rv_add (je_lst (ja_cons je_str ja_nil)) (je_slice (je_var 2) jo_none (jo_some (je_var 6)))) (je_lst (ja_cons (je_var 7) ja_nil))) ja_nil))) (je_tup (ja_cons (je_op op_addA rv_add (je_var 6) je_int) (ja_cons (je_var 8) ja_nil))) (nomark _))
  (jb_one (js_ret je_bl))
  jb_nil)
  (jb_cons (js_if (jt_cmp (op_neD hr.units) rv_neS (je_callU 0 D_law_place hr (by decide) tk (ja_cons (je_op op_addA rv_add (je_op op_addA rv_add (je_slice (je_var 2) jo_none (jo_some (je_var 6))) (je_lst (ja_cons (je_ix (je_var 4) (je_call D_law_taken hr (by decide) tk (ja_cons (je_var 1) (ja_cons je_int ja_nil)))) ja_nil))) (je_slice (je_var 2) (jo_some (je_var 6)) jo_none)) ja_nil)) (je_tup (ja_cons je_str (ja_cons (je_var 6) ja_nil))) (nomark _))
  (jb_one (js_ret je_bl))
  jb_nil)
  (jb_cons (js_if (jt_cmp (op_neD hr.units) rv_neS (je_sub 0 (je_call D_law_place hr (by decide) tk (ja_cons (je_op op_addA rv_add (je_var 2) (je_lst (ja_cons je_str ja_nil))) ja_nil))) (je_tup (ja_cons je_str (ja_cons je_int ja_nil))) (nomark _))
  (jb_one (js_ret je_bl))
  jb_nil)
  (jb_one (js_if (jt_cmp op_notN' rv_notN (je_sub 0 (je_call D_law_place hr (by decide) tk (ja_cons (je_op op_addA rv_add (je_var 2) (je_lst (ja_cons je_str (ja_cons je_str ja_nil)))) ja_nil))) je_non (nomark _))
  (jb_one (js_ret je_bl))
  jb_nil)))))))))
  (jb_one (js_ret je_bl))))))))))
end
/-! ### the head's facts -/
def d_is_word : HK.FD := ⟨fun K => He.ga K "_is_word", "_is_word", "_is_word", top 39⟩
def d_Plan__init : HK.FD := ⟨fun K => He.ma K (He.ga K "Plan") "__init__", "__init__", "Plan.__init__", inClass (top 37) 0⟩
def d_is_integer : HK.FD := ⟨fun K => He.ga K "is_integer", "is_integer", "is_integer", top 1⟩
def d_is_between : HK.FD := ⟨fun K => He.ga K "is_between", "is_between", "is_between", top 2⟩
def d_are_marks : HK.FD := ⟨fun K => He.ga K "_are_marks", "_are_marks", "_are_marks", top 41⟩
def d_are_plans : HK.FD := ⟨fun K => He.ga K "_are_plans", "_are_plans", "_are_plans", top 40⟩
def d_Setup__init : HK.FD := ⟨fun K => He.ma K (He.ga K "Setup") "__init__", "__init__", "Setup.__init__", inClass (top 38) 0⟩
def d_row_read : HK.FD := ⟨fun K => He.ga K "row_read", "row_read", "row_read", top 31⟩
def d_rows_of : HK.FD := ⟨fun K => He.ga K "rows_of", "rows_of", "rows_of", top 29⟩
def d_Setup__len : HK.FD := ⟨fun K => He.ma K (He.ga K "Setup") "__len__", "__len__", "Setup.__len__", inClass (top 38) 7⟩
def d_begin : HK.FD := ⟨fun K => He.ga K "begin", "begin", "begin", top 14⟩
def d_Setup_ahead : HK.FD := ⟨HK.gtA "Setup" "ahead", "ahead", "Setup.ahead", inClass (top 38) 6⟩
def d_Setup_back : HK.FD := ⟨HK.gtA "Setup" "back", "back", "Setup.back", inClass (top 38) 5⟩
def d_Setup_top : HK.FD := ⟨HK.gtA "Setup" "top", "top", "Setup.top", inClass (top 38) 3⟩
def d_can_jump : HK.FD := ⟨fun K => He.ga K "_can_jump", "_can_jump", "_can_jump", top 18⟩
def d_is_formed : HK.FD := ⟨fun K => He.ga K "_is_formed", "_is_formed", "_is_formed", top 17⟩
def d_check_event : HK.FD := ⟨fun K => He.ga K "check_event", "check_event", "check_event", top 16⟩
def d_Plan_on_restart : HK.FD := ⟨HK.gtA "Plan" "on_restart", "on_restart", "Plan.on_restart", inClass (top 37) 3⟩
def d_Setup_marks : HK.FD := ⟨HK.gtA "Setup" "marks", "marks", "Setup.marks", inClass (top 38) 2⟩
def d_Setup_plans : HK.FD := ⟨HK.gtA "Setup" "plans", "plans", "Setup.plans", inClass (top 38) 1⟩
def d_Setup_limit : HK.FD := ⟨HK.gtA "Setup" "limit", "limit", "Setup.limit", inClass (top 38) 4⟩
def d_restarted : HK.FD := ⟨fun K => He.ga K "_restarted", "_restarted", "_restarted", top 22⟩
def d_Plan_on_back : HK.FD := ⟨HK.gtA "Plan" "on_back", "on_back", "Plan.on_back", inClass (top 37) 1⟩
def d_Plan_on_full : HK.FD := ⟨HK.gtA "Plan" "on_full", "on_full", "Plan.on_full", inClass (top 37) 2⟩
def d_told_at_last : HK.FD := ⟨fun K => He.ga K "_told_at_last", "_told_at_last", "_told_at_last", top 24⟩
def d_told : HK.FD := ⟨fun K => He.ga K "_told", "_told", "_told", top 23⟩
def d_step_alone : HK.FD := ⟨fun K => He.ga K "step_alone", "step_alone", "step_alone", top 21⟩
def d_with_state : HK.FD := ⟨fun K => He.ga K "with_state", "with_state", "with_state", top 20⟩
def d_step : HK.FD := ⟨fun K => He.ga K "step", "step", "step", top 19⟩
def d_run : HK.FD := ⟨fun K => He.ga K "run", "run", "run", top 15⟩
def d_is_number_word : HK.FD := ⟨fun K => He.ga K "_is_number_word", "_is_number_word", "_is_number_word", top 32⟩
def d_wrong_word : HK.FD := ⟨fun K => He.ga K "wrong_word", "wrong_word", "wrong_word", top 30⟩
def d_read_history : HK.FD := ⟨fun K => He.ga K "read_history", "read_history", "read_history", top 28⟩
def d_law_place : HK.FD := ⟨fun K => He.ga K "_law_place", "_law_place", "_law_place", top 44⟩
def d_law_taken : HK.FD := ⟨fun K => He.ga K "_law_taken", "_law_taken", "_law_taken", top 43⟩
def d_law : HK.FD := ⟨fun K => He.ga K "law", "law", "law", top 45⟩
def d_InvalidLine__init : HK.FD := ⟨fun K => He.ma K (He.ga K "InvalidLine") "__init__", "__init__", "InvalidLine.__init__", inClass (top 10) 0⟩
def d_InvalidHistory__init : HK.FD := ⟨fun K => He.ma K (He.ga K "InvalidHistory") "__init__", "__init__", "InvalidHistory.__init__", inClass (top 9) 0⟩
def fn : List HK.FD := [d_is_word, d_Plan__init, d_is_integer, d_is_between, d_are_marks, d_are_plans, d_Setup__init, d_row_read, d_rows_of, d_Setup__len, d_begin, d_Setup_ahead, d_Setup_back, d_Setup_top, d_can_jump, d_is_formed, d_check_event, d_Plan_on_restart, d_Setup_marks, d_Setup_plans, d_Setup_limit, d_restarted, d_Plan_on_back, d_Plan_on_full, d_told_at_last, d_told, d_step_alone, d_with_state, d_step, d_run, d_is_number_word, d_wrong_word, d_read_history, d_law_place, d_law_taken, d_law, d_InvalidLine__init, d_InvalidHistory__init]
def fa : List He.Fa := [.glo "_is_word", .glo "is_integer", .glo "is_between", .glo "_are_marks", .glo "_are_plans", .glo "row_read", .glo "rows_of", .glo "begin", .glo "_can_jump", .glo "_is_formed", .glo "check_event", .glo "_restarted", .glo "_told_at_last", .glo "_told", .glo "step_alone", .glo "with_state", .glo "step", .glo "run", .glo "_is_number_word", .glo "wrong_word", .glo "read_history", .glo "_law_place", .glo "_law_taken", .glo "law", .glo "Plan", .cls "Plan", .glo "Setup", .cls "Setup", .free "all", .free "bool", .free "enumerate", .free "int", .free "isinstance", .free "len", .free "max", .free "min", .free "range", .free "str", .free "tuple", .glo "BACK_WORDS", .str "DIGITS" "0123456789", .glo "EVENT_PARTS", .glo "FULL_WORDS", .int "HISTORY_DIGITS" (1), .int "NO_READING" (-1), .glo "RESTART_WORDS", .noat "Plan" "_on_back", .noat "Plan" "_on_full", .noat "Plan" "_on_restart", .noat "Setup" "_ahead", .noat "Setup" "_back", .noat "Setup" "_limit", .noat "Setup" "_marks", .noat "Setup" "_plans", .noat "Setup" "_top", .mkr "Plan", .mkr "Setup", .meth "Setup" "__len__", .glo "InvalidLine", .glo "InvalidEvent", .exc "InvalidEvent", .glo "UnknownMaker", .exc "UnknownMaker", .glo "InvalidHistory"]
def ex (K : PySem.W.Frag) : Bool := He.tupB K "BACK_WORDS" ((["trust", "hold", "refuse"] : List Str).map He.Dv.str) && (HK.intsB K (He.ga K "EVENT_PARTS") [("clock", 3), ("restart", 2), ("give", 2)] && (He.tupB K "FULL_WORDS" ((["wrap", "borrow", "refuse"] : List Str).map He.Dv.str) && (He.tupB K "RESTART_WORDS" ((["forget", "saved", "wait"] : List Str).map He.Dv.str) && (HK.tblB K (He.ga K "EVENT_PARTS") [("clock", 3), ("restart", 2), ("give", 2)] && (HK.propB K "Setup" "ahead" && (HK.propB K "Setup" "back" && (HK.propB K "Setup" "top" && (HK.propB K "Plan" "on_restart" && (HK.propB K "Setup" "marks" && (HK.propB K "Setup" "plans" && (HK.propB K "Setup" "limit" && (HK.propB K "Plan" "on_back" && (HK.propB K "Plan" "on_full" && (HK.clsB K "Plan" && (HK.clsB K "Setup" && (HK.initB K "InvalidLine" ["row", "word"] && (HK.initB K "InvalidHistory" ["index"] && (HK.exmL K [(2, "InvalidEvent", false), (3, "UnknownMaker", false), (4, "InvalidHistory", false), (5, "InvalidLine", true)] "InvalidLine" && (HK.xfL K [(2, "InvalidEvent", false), (3, "UnknownMaker", false), (4, "InvalidHistory", false), (5, "InvalidLine", true)] "row" && (HK.xfL K [(2, "InvalidEvent", false), (3, "UnknownMaker", false), (4, "InvalidHistory", false), (5, "InvalidLine", true)] "word" && (HK.exmL K [(2, "InvalidEvent", false), (3, "UnknownMaker", false), (4, "InvalidHistory", true), (5, "InvalidLine", false)] "InvalidHistory" && (HK.xfL K [(2, "InvalidEvent", false), (3, "UnknownMaker", false), (4, "InvalidHistory", true), (5, "InvalidLine", false)] "index" && (HK.exmL K [(2, "InvalidEvent", true), (3, "UnknownMaker", false), (4, "InvalidHistory", false), (5, "InvalidLine", false)] "InvalidEvent" && (HK.exmL K [(2, "InvalidEvent", false), (3, "UnknownMaker", true), (4, "InvalidHistory", false), (5, "InvalidLine", false)] "UnknownMaker"))))))))))))))))))))))))
def ts : List He.Tab := [(fun K => He.ga K "EVENT_PARTS", ["clock", "restart", "give"])]
def caK (K : PySem.W.Frag) (w : World) : Ca := ⟨fun n => match n with
  | 0 => He.ga K "Plan"
  | 1 => He.ga K "Setup"
  | 2 => He.ga K "InvalidEvent"
  | 3 => He.ga K "UnknownMaker"
  | 4 => He.ga K "InvalidHistory"
  | 5 => He.ga K "InvalidLine"
  | _ => 0, fun _ => none, w⟩
abbrev RwO : PySem.W.OpenRow := PySem.W.OpenLaw.row PySem.Challenge.rw_manymakers_k43_texts_rejected
abbrev hk : PySem.W.Hook := HK.hookS 5 fa ex fn ts
def ob (s : PySem.W.SharedT) : HK.Al := HK.obsGS 5 fa ex fn ts (HandSHeadRun.getT s)
theorem ob_eq (s : PySem.W.SharedT) : ob s = hk.obs s.abs := HK.obsGS_eq (HandSHeadRun.getT_eq s)
def loose : List Str := (["is_integer", "is_between", "MakerError", "InvalidPlan", "InvalidSetup", "UnknownMaker", "InvalidEvent", "InvalidHistory", "InvalidLine", "NO_READING", "EVENT_PARTS", "begin", "run", "check_event", "_is_formed", "_can_jump"] : List Str) ++ (["step", "with_state", "step_alone", "_restarted", "_told", "_told_at_last", "DIGITS", "HISTORY_DIGITS", "read_history", "rows_of", "wrong_word", "row_read", "_is_number_word", "BACK_WORDS", "FULL_WORDS", "RESTART_WORDS"] : List Str) ++ (["Plan", "Setup", "_is_word", "_are_plans", "_are_marks", "_law_taken", "_law_place"] : List Str)
section
open PySem.W HandSHeadRun HK
theorem runF1 (w : World) (os : OsState) : (endF (stepQ (denQ tabQ) RwO.prog (w.withFollow "special-get-raises" false)) 6000 RwO.prog (w.withFollow "special-get-raises" false) os).map (fun s => (looksF RwO.prog (boot_heap (w.withFollow "special-get-raises" false).params) s.abs, seenQ (PySem.W.view RwO.prog [45]) loose (importedModules RwO.prog.main.body) (fun s => xlAt (PySem.W.view RwO.prog [45]) [] s && recOk RwO.toRowW.records s) s.abs)) = some (true, openGood (PySem.W.view RwO.prog [45]) loose) := by kernel_rfl
theorem runF2 (w : World) (os : OsState) : (endF (stepQ (denQ tabQ) RwO.prog (w.withFollow "special-get-raises" false)) 6000 RwO.prog (w.withFollow "special-get-raises" false) os).map (fun s => fa.all fun f => f.ok (HK.kS 5 s)) = some true := by kernel_rfl
theorem runF4 (w : World) (os : OsState) : (endF (stepQ (denQ tabQ) RwO.prog (w.withFollow "special-get-raises" false)) 6000 RwO.prog (w.withFollow "special-get-raises" false) os).map (fun s => ex (HK.kS 5 s)) = some true := by kernel_rfl
theorem runF3 (w : World) (os : OsState) : (endF (stepQ (denQ tabQ) RwO.prog (w.withFollow "special-get-raises" false)) 6000 RwO.prog (w.withFollow "special-get-raises" false) os).map (fun s => (((fn.all fun d => d.ok (HK.kS 5 s)), fn.map fun d => d.obs (HK.kS 5 s)), ts.map fun t => He.dicW (HK.kS 5 s) (t.1 (HK.kS 5 s)))) = some ((true, fn.map HK.FD.val), ts.map fun t => some (He.keysIn (w.withFollow "special-get-raises" false).params t.2)) := by kernel_rfl
theorem runF (w : World) : HandSHeadRun.RunEq RwO (PySem.W.view RwO.prog [45]) hk ob 6000 loose (w.withFollow "special-get-raises" false) := HK.run_split (runF1 w) (runF2 w) (runF4 w) (runF3 w)
end
section
open PySem.W HandSHeadRun HK
theorem runT1 (w : World) (os : OsState) : (endF (stepQ (denQ tabQ) RwO.prog (w.withFollow "special-get-raises" true)) 6000 RwO.prog (w.withFollow "special-get-raises" true) os).map (fun s => (looksF RwO.prog (boot_heap (w.withFollow "special-get-raises" true).params) s.abs, seenQ (PySem.W.view RwO.prog [45]) loose (importedModules RwO.prog.main.body) (fun s => xlAt (PySem.W.view RwO.prog [45]) [] s && recOk RwO.toRowW.records s) s.abs)) = some (true, openGood (PySem.W.view RwO.prog [45]) loose) := by kernel_rfl
theorem runT2 (w : World) (os : OsState) : (endF (stepQ (denQ tabQ) RwO.prog (w.withFollow "special-get-raises" true)) 6000 RwO.prog (w.withFollow "special-get-raises" true) os).map (fun s => fa.all fun f => f.ok (HK.kS 5 s)) = some true := by kernel_rfl
theorem runT4 (w : World) (os : OsState) : (endF (stepQ (denQ tabQ) RwO.prog (w.withFollow "special-get-raises" true)) 6000 RwO.prog (w.withFollow "special-get-raises" true) os).map (fun s => ex (HK.kS 5 s)) = some true := by kernel_rfl
theorem runT3 (w : World) (os : OsState) : (endF (stepQ (denQ tabQ) RwO.prog (w.withFollow "special-get-raises" true)) 6000 RwO.prog (w.withFollow "special-get-raises" true) os).map (fun s => (((fn.all fun d => d.ok (HK.kS 5 s)), fn.map fun d => d.obs (HK.kS 5 s)), ts.map fun t => He.dicW (HK.kS 5 s) (t.1 (HK.kS 5 s)))) = some ((true, fn.map HK.FD.val), ts.map fun t => some (He.keysIn (w.withFollow "special-get-raises" true).params t.2)) := by kernel_rfl
theorem runT (w : World) : HandSHeadRun.RunEq RwO (PySem.W.view RwO.prog [45]) hk ob 6000 loose (w.withFollow "special-get-raises" true) := HK.run_split (runT1 w) (runT2 w) (runT4 w) (runT3 w)
end
theorem runB (b : Bool) (w : World) : HandSHeadRun.RunEq RwO (PySem.W.view RwO.prog [45]) hk ob 6000 loose (w.withFollow "special-get-raises" b) := by
  cases b
  exact runF w
  exact runT w
theorem run (w : World) : HandSHeadRun.RunEq RwO (PySem.W.view RwO.prog [45]) hk ob 6000 loose w := by
  have h := runB (w.params.followText "special-get-raises") w
  rwa [World.withFollow_self] at h
section
variable {P : Program} {w : World} {K : PySem.W.Frag} {h : Heap} {mg : Str → Option Value}
theorem tx (X : K.In h) (G : h.Ns mainGlobals mg) (c : HK.Says fa ex fn ts w K) : Tx K w mg (caK K w) := by
  obtain ⟨_, cx, _⟩ := c.b
  obtain ⟨x0, cx⟩ := He.ba cx
  obtain ⟨x1, cx⟩ := He.ba cx
  obtain ⟨x2, cx⟩ := He.ba cx
  obtain ⟨x3, cx⟩ := He.ba cx
  obtain ⟨x4, cx⟩ := He.ba cx
  obtain ⟨x5, cx⟩ := He.ba cx
  obtain ⟨x6, cx⟩ := He.ba cx
  obtain ⟨x7, cx⟩ := He.ba cx
  obtain ⟨x8, cx⟩ := He.ba cx
  obtain ⟨x9, cx⟩ := He.ba cx
  obtain ⟨x10, cx⟩ := He.ba cx
  obtain ⟨x11, cx⟩ := He.ba cx
  obtain ⟨x12, cx⟩ := He.ba cx
  obtain ⟨x13, cx⟩ := He.ba cx
  obtain ⟨x14, cx⟩ := He.ba cx
  obtain ⟨x15, cx⟩ := He.ba cx
  obtain ⟨x16, cx⟩ := He.ba cx
  obtain ⟨x17, cx⟩ := He.ba cx
  obtain ⟨x18, cx⟩ := He.ba cx
  obtain ⟨x19, cx⟩ := He.ba cx
  obtain ⟨x20, cx⟩ := He.ba cx
  obtain ⟨x21, cx⟩ := He.ba cx
  obtain ⟨x22, cx⟩ := He.ba cx
  obtain ⟨x23, cx⟩ := He.ba cx
  have x24 := cx
  constructor
  · exact He.free_ok X G (c.fact 28 (f := .free "all") rfl)
  · exact He.free_ok X G (c.fact 29 (f := .free "bool") rfl)
  · exact He.free_ok X G (c.fact 30 (f := .free "enumerate") rfl)
  · exact He.free_ok X G (c.fact 31 (f := .free "int") rfl)
  · exact He.free_ok X G (c.fact 32 (f := .free "isinstance") rfl)
  · exact He.free_ok X G (c.fact 33 (f := .free "len") rfl)
  · exact He.free_ok X G (c.fact 34 (f := .free "max") rfl)
  · exact He.free_ok X G (c.fact 35 (f := .free "min") rfl)
  · exact He.free_ok X G (c.fact 36 (f := .free "range") rfl)
  · exact He.free_ok X G (c.fact 37 (f := .free "str") rfl)
  · exact He.free_ok X G (c.fact 38 (f := .free "tuple") rfl)
  · exact ⟨_, HK.tupK_of x0, He.glo_ok X G (c.fact 39 (f := .glo "BACK_WORDS") rfl)⟩
  · exact He.str_ok X G (c.fact 40 (f := .str "DIGITS" "0123456789") rfl)
  · exact ⟨_, ⟨c.tab 0 rfl, HK.intsB_ok x1⟩, He.glo_ok X G (c.fact 41 (f := .glo "EVENT_PARTS") rfl)⟩
  · exact ⟨_, HK.tupK_of x2, He.glo_ok X G (c.fact 42 (f := .glo "FULL_WORDS") rfl)⟩
  · exact He.int_ok X G (c.fact 43 (f := .int "HISTORY_DIGITS" (1)) rfl)
  · exact He.int_ok X G (c.fact 44 (f := .int "NO_READING" (-1)) rfl)
  · exact ⟨_, HK.tupK_of x3, He.glo_ok X G (c.fact 45 (f := .glo "RESTART_WORDS") rfl)⟩
  · exact ⟨_, ⟨c.tab 0 rfl, HK.tblB_ok x4⟩, He.glo_ok X G (c.fact 41 (f := .glo "EVENT_PARTS") rfl)⟩
  · exact ⟨HK.clsB_ok x14 (He.cls_ok (c.fact 25 (f := .cls "Plan") rfl)), He.glo_ok X G (c.fact 24 (f := .glo "Plan") rfl)⟩
  · exact ⟨HK.clsB_ok x15 (He.cls_ok (c.fact 27 (f := .cls "Setup") rfl)), He.glo_ok X G (c.fact 26 (f := .glo "Setup") rfl)⟩
  · exact He.noat_ok (c.fact 46 (f := .noat "Plan" "_on_back") rfl)
  · exact He.noat_ok (c.fact 47 (f := .noat "Plan" "_on_full") rfl)
  · exact He.noat_ok (c.fact 48 (f := .noat "Plan" "_on_restart") rfl)
  · exact He.noat_ok (c.fact 49 (f := .noat "Setup" "_ahead") rfl)
  · exact He.noat_ok (c.fact 50 (f := .noat "Setup" "_back") rfl)
  · exact He.noat_ok (c.fact 51 (f := .noat "Setup" "_limit") rfl)
  · exact He.noat_ok (c.fact 52 (f := .noat "Setup" "_marks") rfl)
  · exact He.noat_ok (c.fact 53 (f := .noat "Setup" "_plans") rfl)
  · exact He.noat_ok (c.fact 54 (f := .noat "Setup" "_top") rfl)
  · rfl
  · rfl
  · intro P base; obtain ⟨fd, fn⟩ := c.def_ 36 (d := d_InvalidLine__init) rfl; exact HK.initB_ok x16 rfl (init2 fn ⟨rfl, rfl, rfl, by decide +kernel, rfl, by decide +kernel, by decide +kernel⟩ rfl) (He.glo_ok X G (c.fact 58 (f := .glo "InvalidLine") rfl)) (fn.binds (ps := ["self", "row", "word"]) fun _ _ _ _ _ _ us hl => match us, hl with | [_, _, _], _ => rfl)
  · exact HK.rao_ok (c.fact 60 (f := .exc "InvalidEvent") rfl) (He.glo_ok X G (c.fact 59 (f := .glo "InvalidEvent") rfl))
  · exact HK.rao_ok (c.fact 62 (f := .exc "UnknownMaker") rfl) (He.glo_ok X G (c.fact 61 (f := .glo "UnknownMaker") rfl))
  · intro P base; obtain ⟨fd, fn⟩ := c.def_ 37 (d := d_InvalidHistory__init) rfl; exact HK.initHB_ok x17 rfl (init1H fn ⟨rfl, rfl, rfl, by decide +kernel, rfl, by decide +kernel, by decide +kernel⟩ rfl) (He.glo_ok X G (c.fact 63 (f := .glo "InvalidHistory") rfl)) (fn.binds (ps := ["self", "index"]) fun _ _ _ _ _ _ us hl => match us, hl with | [_, _], _ => rfl)
  · exact ⟨_, (He.glo_ok X G (c.fact 58 (f := .glo "InvalidLine") rfl)), HK.exmL_ok x18 rfl⟩
  · exact HK.xfL_ok x19 rfl
  · exact HK.xfL_ok x20 rfl
  · exact ⟨_, (He.glo_ok X G (c.fact 63 (f := .glo "InvalidHistory") rfl)), HK.exmL_ok x21 rfl⟩
  · exact HK.xfL_ok x22 rfl
  · exact ⟨_, (He.glo_ok X G (c.fact 59 (f := .glo "InvalidEvent") rfl)), HK.exmL_ok x23 rfl⟩
  · exact ⟨_, (He.glo_ok X G (c.fact 61 (f := .glo "UnknownMaker") rfl)), HK.exmL_ok x24 rfl⟩
theorem all (X : K.In h) (G : h.Ns mainGlobals mg) (c : HK.Says fa ex fn ts w K) {f : Addr} (hf : mg "law" = some (.ref f)) : ∃ fd : FuncData, (∀ (s : Shared) (v : Value), BindsTo s fd ⟨[v], []⟩ [("_law_script", v)]) ∧ ∀ base : Heap, K.In base → base.Ns mainGlobals mg → FnOk P w K mg base (L2.CX P w) 10 f fd ["_law_script"] (spD K (caK K w) 1 F_law) := by
  have T := tx X G c
  obtain ⟨_, cx, _⟩ := c.b
  obtain ⟨x0, cx⟩ := He.ba cx
  obtain ⟨x1, cx⟩ := He.ba cx
  obtain ⟨x2, cx⟩ := He.ba cx
  obtain ⟨x3, cx⟩ := He.ba cx
  obtain ⟨x4, cx⟩ := He.ba cx
  obtain ⟨x5, cx⟩ := He.ba cx
  obtain ⟨x6, cx⟩ := He.ba cx
  obtain ⟨x7, cx⟩ := He.ba cx
  obtain ⟨x8, cx⟩ := He.ba cx
  obtain ⟨x9, cx⟩ := He.ba cx
  obtain ⟨x10, cx⟩ := He.ba cx
  obtain ⟨x11, cx⟩ := He.ba cx
  obtain ⟨x12, cx⟩ := He.ba cx
  obtain ⟨x13, cx⟩ := He.ba cx
  obtain ⟨x14, cx⟩ := He.ba cx
  obtain ⟨x15, cx⟩ := He.ba cx
  obtain ⟨x16, cx⟩ := He.ba cx
  obtain ⟨x17, cx⟩ := He.ba cx
  obtain ⟨x18, cx⟩ := He.ba cx
  obtain ⟨x19, cx⟩ := He.ba cx
  obtain ⟨x20, cx⟩ := He.ba cx
  obtain ⟨x21, cx⟩ := He.ba cx
  obtain ⟨x22, cx⟩ := He.ba cx
  obtain ⟨x23, cx⟩ := He.ba cx
  have x24 := cx
  obtain ⟨fd_is_word, fn_is_word⟩ := c.def_ 0 (d := d_is_word) rfl
  have bd_is_word := fn_is_word.binds (ps := ["value", "words"]) fun _ _ _ _ _ _ us hl => match us, hl with | [_, _], _ => rfl
  obtain ⟨fd_Plan__init, fn_Plan__init⟩ := c.def_ 1 (d := d_Plan__init) rfl
  have bd_Plan__init := fn_Plan__init.binds (ps := ["self", "on_back", "on_full", "on_restart"]) fun _ _ _ _ _ _ us hl => match us, hl with | [_, _, _, _], _ => rfl
  obtain ⟨fd_is_integer, fn_is_integer⟩ := c.def_ 2 (d := d_is_integer) rfl
  have bd_is_integer := fn_is_integer.binds (ps := ["value"]) fun _ _ _ _ _ _ us hl => match us, hl with | [_], _ => rfl
  obtain ⟨fd_is_between, fn_is_between⟩ := c.def_ 3 (d := d_is_between) rfl
  have bd_is_between := fn_is_between.binds (ps := ["value", "low", "high"]) fun _ _ _ _ _ _ us hl => match us, hl with | [_, _, _], _ => rfl
  obtain ⟨fd_are_marks, fn_are_marks⟩ := c.def_ 4 (d := d_are_marks) rfl
  have bd_are_marks := fn_are_marks.binds (ps := ["marks", "many"]) fun _ _ _ _ _ _ us hl => match us, hl with | [_, _], _ => rfl
  obtain ⟨fd_are_plans, fn_are_plans⟩ := c.def_ 5 (d := d_are_plans) rfl
  have bd_are_plans := fn_are_plans.binds (ps := ["plans"]) fun _ _ _ _ _ _ us hl => match us, hl with | [_], _ => rfl
  obtain ⟨fd_Setup__init, fn_Setup__init⟩ := c.def_ 6 (d := d_Setup__init) rfl
  have bd_Setup__init := fn_Setup__init.binds (ps := ["self", "plans", "marks", "top", "limit", "back", "ahead"]) fun _ _ _ _ _ _ us hl => match us, hl with | [_, _, _, _, _, _, _], _ => rfl
  obtain ⟨fd_row_read, fn_row_read⟩ := c.def_ 7 (d := d_row_read) rfl
  have bd_row_read := fn_row_read.binds (ps := ["words"]) fun _ _ _ _ _ _ us hl => match us, hl with | [_], _ => rfl
  obtain ⟨fd_rows_of, fn_rows_of⟩ := c.def_ 8 (d := d_rows_of) rfl
  have bd_rows_of := fn_rows_of.binds (ps := ["text"]) fun _ _ _ _ _ _ us hl => match us, hl with | [_], _ => rfl
  obtain ⟨fd_Setup__len, fn_Setup__len⟩ := c.def_ 9 (d := d_Setup__len) rfl
  have bd_Setup__len := fn_Setup__len.binds (ps := ["self"]) fun _ _ _ _ _ _ us hl => match us, hl with | [_], _ => rfl
  obtain ⟨fd_begin, fn_begin⟩ := c.def_ 10 (d := d_begin) rfl
  have bd_begin := fn_begin.binds (ps := ["setup"]) fun _ _ _ _ _ _ us hl => match us, hl with | [_], _ => rfl
  obtain ⟨fd_Setup_ahead, fn_Setup_ahead⟩ := c.def_ 11 (d := d_Setup_ahead) rfl
  have bd_Setup_ahead := fn_Setup_ahead.binds (ps := ["self"]) fun _ _ _ _ _ _ us hl => match us, hl with | [_], _ => rfl
  obtain ⟨fd_Setup_back, fn_Setup_back⟩ := c.def_ 12 (d := d_Setup_back) rfl
  have bd_Setup_back := fn_Setup_back.binds (ps := ["self"]) fun _ _ _ _ _ _ us hl => match us, hl with | [_], _ => rfl
  obtain ⟨fd_Setup_top, fn_Setup_top⟩ := c.def_ 13 (d := d_Setup_top) rfl
  have bd_Setup_top := fn_Setup_top.binds (ps := ["self"]) fun _ _ _ _ _ _ us hl => match us, hl with | [_], _ => rfl
  obtain ⟨fd_can_jump, fn_can_jump⟩ := c.def_ 14 (d := d_can_jump) rfl
  have bd_can_jump := fn_can_jump.binds (ps := ["setup", "present", "reading"]) fun _ _ _ _ _ _ us hl => match us, hl with | [_, _, _], _ => rfl
  obtain ⟨fd_is_formed, fn_is_formed⟩ := c.def_ 15 (d := d_is_formed) rfl
  have bd_is_formed := fn_is_formed.binds (ps := ["event"]) fun _ _ _ _ _ _ us hl => match us, hl with | [_], _ => rfl
  obtain ⟨fd_check_event, fn_check_event⟩ := c.def_ 16 (d := d_check_event) rfl
  have bd_check_event := fn_check_event.binds (ps := ["setup", "standing", "event"]) fun _ _ _ _ _ _ us hl => match us, hl with | [_, _, _], _ => rfl
  obtain ⟨fd_Plan_on_restart, fn_Plan_on_restart⟩ := c.def_ 17 (d := d_Plan_on_restart) rfl
  have bd_Plan_on_restart := fn_Plan_on_restart.binds (ps := ["self"]) fun _ _ _ _ _ _ us hl => match us, hl with | [_], _ => rfl
  obtain ⟨fd_Setup_marks, fn_Setup_marks⟩ := c.def_ 18 (d := d_Setup_marks) rfl
  have bd_Setup_marks := fn_Setup_marks.binds (ps := ["self"]) fun _ _ _ _ _ _ us hl => match us, hl with | [_], _ => rfl
  obtain ⟨fd_Setup_plans, fn_Setup_plans⟩ := c.def_ 19 (d := d_Setup_plans) rfl
  have bd_Setup_plans := fn_Setup_plans.binds (ps := ["self"]) fun _ _ _ _ _ _ us hl => match us, hl with | [_], _ => rfl
  obtain ⟨fd_Setup_limit, fn_Setup_limit⟩ := c.def_ 20 (d := d_Setup_limit) rfl
  have bd_Setup_limit := fn_Setup_limit.binds (ps := ["self"]) fun _ _ _ _ _ _ us hl => match us, hl with | [_], _ => rfl
  obtain ⟨fd_restarted, fn_restarted⟩ := c.def_ 21 (d := d_restarted) rfl
  have bd_restarted := fn_restarted.binds (ps := ["setup", "maker", "reading", "saved"]) fun _ _ _ _ _ _ us hl => match us, hl with | [_, _, _, _], _ => rfl
  obtain ⟨fd_Plan_on_back, fn_Plan_on_back⟩ := c.def_ 22 (d := d_Plan_on_back) rfl
  have bd_Plan_on_back := fn_Plan_on_back.binds (ps := ["self"]) fun _ _ _ _ _ _ us hl => match us, hl with | [_], _ => rfl
  obtain ⟨fd_Plan_on_full, fn_Plan_on_full⟩ := c.def_ 23 (d := d_Plan_on_full) rfl
  have bd_Plan_on_full := fn_Plan_on_full.binds (ps := ["self"]) fun _ _ _ _ _ _ us hl => match us, hl with | [_], _ => rfl
  obtain ⟨fd_told_at_last, fn_told_at_last⟩ := c.def_ 24 (d := d_told_at_last) rfl
  have bd_told_at_last := fn_told_at_last.binds (ps := ["setup", "plan", "last", "counter"]) fun _ _ _ _ _ _ us hl => match us, hl with | [_, _, _, _], _ => rfl
  obtain ⟨fd_told, fn_told⟩ := c.def_ 25 (d := d_told) rfl
  have bd_told := fn_told.binds (ps := ["setup", "plan", "state"]) fun _ _ _ _ _ _ us hl => match us, hl with | [_, _, _], _ => rfl
  obtain ⟨fd_step_alone, fn_step_alone⟩ := c.def_ 26 (d := d_step_alone) rfl
  have bd_step_alone := fn_step_alone.binds (ps := ["setup", "state", "event"]) fun _ _ _ _ _ _ us hl => match us, hl with | [_, _, _], _ => rfl
  obtain ⟨fd_with_state, fn_with_state⟩ := c.def_ 27 (d := d_with_state) rfl
  have bd_with_state := fn_with_state.binds (ps := ["standing", "maker", "state"]) fun _ _ _ _ _ _ us hl => match us, hl with | [_, _, _], _ => rfl
  obtain ⟨fd_step, fn_step⟩ := c.def_ 28 (d := d_step) rfl
  have bd_step := fn_step.binds (ps := ["setup", "standing", "event"]) fun _ _ _ _ _ _ us hl => match us, hl with | [_, _, _], _ => rfl
  obtain ⟨fd_run, fn_run⟩ := c.def_ 29 (d := d_run) rfl
  have bd_run := fn_run.binds (ps := ["setup", "events"]) fun _ _ _ _ _ _ us hl => match us, hl with | [_, _], _ => rfl
  obtain ⟨fd_is_number_word, fn_is_number_word⟩ := c.def_ 30 (d := d_is_number_word) rfl
  have bd_is_number_word := fn_is_number_word.binds (ps := ["word", "most_digits"]) fun _ _ _ _ _ _ us hl => match us, hl with | [_, _], _ => rfl
  obtain ⟨fd_wrong_word, fn_wrong_word⟩ := c.def_ 31 (d := d_wrong_word) rfl
  have bd_wrong_word := fn_wrong_word.binds (ps := ["words", "many", "most_digits"]) fun _ _ _ _ _ _ us hl => match us, hl with | [_, _, _], _ => rfl
  obtain ⟨fd_read_history, fn_read_history⟩ := c.def_ 32 (d := d_read_history) rfl
  have bd_read_history := fn_read_history.binds (ps := ["setup", "text"]) fun _ _ _ _ _ _ us hl => match us, hl with | [_, _], _ => rfl
  obtain ⟨fd_law_place, fn_law_place⟩ := c.def_ 33 (d := d_law_place) rfl
  have bd_law_place := fn_law_place.binds (ps := ["_law_rows"]) fun _ _ _ _ _ _ us hl => match us, hl with | [_], _ => rfl
  obtain ⟨fd_law_taken, fn_law_taken⟩ := c.def_ 34 (d := d_law_taken) rfl
  have bd_law_taken := fn_law_taken.binds (ps := ["_law_row", "_law_many"]) fun _ _ _ _ _ _ us hl => match us, hl with | [_, _], _ => rfl
  obtain ⟨fd_law, fn_law⟩ := c.def_ 35 (d := d_law) rfl
  have bd_law := fn_law.binds (ps := ["_law_script"]) fun _ _ _ _ _ _ us hl => match us, hl with | [_], _ => rfl
  have e := hf.symm.trans (He.glo_ok X G (c.fact 23 (f := .glo "law") rfl))
  cases e
  refine ⟨fd_law, fun s v => ?_, fun base _ _ => ?_⟩
  · exact HK.binds1 fn_law (fun _ _ _ _ _ _ us hl => match us, hl with | [_], _ => rfl) s v
  have o_is_word := ok_is_word (P := P) (w := w) (mg := mg) (base := base) fn_is_word T 
  have D_is_word : DefOk P w K mg base (caK K w) 1 "_is_word" ["value", "words"] F_is_word := ⟨_, _, o_is_word, He.glo_ok X G (c.fact 0 (f := .glo "_is_word") rfl), fn_is_word.kp, bd_is_word⟩
  have o_Plan__init := ok_Plan__init (P := P) (w := w) (mg := mg) (base := base) fn_Plan__init T D_is_word
  have D_Plan__init : MakOk P w K mg base (caK K w) 2 0 "Plan" ["self", "on_back", "on_full", "on_restart"] F_Plan__init := ⟨_, _, He.mkr_ok (c.fact 55 (f := .mkr "Plan") rfl), o_Plan__init, T.c_Plan.2, bd_Plan__init⟩
  have o_is_integer := ok_is_integer (P := P) (w := w) (mg := mg) (base := base) fn_is_integer T 
  have D_is_integer : DefOk P w K mg base (caK K w) 1 "is_integer" ["value"] F_is_integer := ⟨_, _, o_is_integer, He.glo_ok X G (c.fact 1 (f := .glo "is_integer") rfl), fn_is_integer.kp, bd_is_integer⟩
  have o_is_between := ok_is_between (P := P) (w := w) (mg := mg) (base := base) fn_is_between T D_is_integer
  have D_is_between : DefOk P w K mg base (caK K w) 2 "is_between" ["value", "low", "high"] F_is_between := ⟨_, _, o_is_between, He.glo_ok X G (c.fact 2 (f := .glo "is_between") rfl), fn_is_between.kp, bd_is_between⟩
  have o_are_marks := ok_are_marks (P := P) (w := w) (mg := mg) (base := base) fn_are_marks T D_is_between
  have D_are_marks : DefOk P w K mg base (caK K w) 3 "_are_marks" ["marks", "many"] F_are_marks := ⟨_, _, o_are_marks, He.glo_ok X G (c.fact 3 (f := .glo "_are_marks") rfl), fn_are_marks.kp, bd_are_marks⟩
  have o_are_plans := ok_are_plans (P := P) (w := w) (mg := mg) (base := base) fn_are_plans T 
  have D_are_plans : DefOk P w K mg base (caK K w) 1 "_are_plans" ["plans"] F_are_plans := ⟨_, _, o_are_plans, He.glo_ok X G (c.fact 4 (f := .glo "_are_plans") rfl), fn_are_plans.kp, bd_are_plans⟩
  have o_Setup__init := ok_Setup__init (P := P) (w := w) (mg := mg) (base := base) fn_Setup__init T D_are_marks D_are_plans D_is_between
  have D_Setup__init : MakOk P w K mg base (caK K w) 4 1 "Setup" ["self", "plans", "marks", "top", "limit", "back", "ahead"] F_Setup__init := ⟨_, _, He.mkr_ok (c.fact 56 (f := .mkr "Setup") rfl), o_Setup__init, T.c_Setup.2, bd_Setup__init⟩
  have o_row_read := ok_row_read (P := P) (w := w) (mg := mg) (base := base) fn_row_read T 
  have D_row_read : DefOk P w K mg base (caK K w) 1 "row_read" ["words"] F_row_read := ⟨_, _, o_row_read, He.glo_ok X G (c.fact 5 (f := .glo "row_read") rfl), fn_row_read.kp, bd_row_read⟩
  have o_rows_of := ok_rows_of (P := P) (w := w) (mg := mg) (base := base) fn_rows_of T 
  have D_rows_of : DefOk P w K mg base (caK K w) 1 "rows_of" ["text"] F_rows_of := ⟨_, _, o_rows_of, He.glo_ok X G (c.fact 6 (f := .glo "rows_of") rfl), fn_rows_of.kp, bd_rows_of⟩
  have o_Setup__len := ok_Setup__len (P := P) (w := w) (mg := mg) (base := base) fn_Setup__len T 
  have D_Setup__len : LenOk P w K mg base (caK K w) 1 1 F_Setup__len := ⟨_, _, (He.meth_ok (c.fact 57 (f := .meth "Setup" "__len__") rfl)).at_, (He.meth_ok (c.fact 57 (f := .meth "Setup" "__len__") rfl)).fn, o_Setup__len, bd_Setup__len⟩
  have o_begin := ok_begin (P := P) (w := w) (mg := mg) (base := base) fn_begin T D_Setup__len
  have D_begin : DefOk P w K mg base (caK K w) 3 "begin" ["setup"] F_begin := ⟨_, _, o_begin, He.glo_ok X G (c.fact 7 (f := .glo "begin") rfl), fn_begin.kp, bd_begin⟩
  have o_Setup_ahead := ok_Setup_ahead (P := P) (w := w) (mg := mg) (base := base) fn_Setup_ahead T 
  have D_Setup_ahead : PrpOk P w K mg base (caK K w) 1 1 "ahead" F_Setup_ahead := ⟨T.c_Setup.1.cl, _, _, _, HK.propB_ok x5, o_Setup_ahead, bd_Setup_ahead⟩
  have o_Setup_back := ok_Setup_back (P := P) (w := w) (mg := mg) (base := base) fn_Setup_back T 
  have D_Setup_back : PrpOk P w K mg base (caK K w) 1 1 "back" F_Setup_back := ⟨T.c_Setup.1.cl, _, _, _, HK.propB_ok x6, o_Setup_back, bd_Setup_back⟩
  have o_Setup_top := ok_Setup_top (P := P) (w := w) (mg := mg) (base := base) fn_Setup_top T 
  have D_Setup_top : PrpOk P w K mg base (caK K w) 1 1 "top" F_Setup_top := ⟨T.c_Setup.1.cl, _, _, _, HK.propB_ok x7, o_Setup_top, bd_Setup_top⟩
  have o_can_jump := ok_can_jump (P := P) (w := w) (mg := mg) (base := base) fn_can_jump T D_Setup_ahead D_Setup_back D_Setup_top D_is_between
  have D_can_jump : DefOk P w K mg base (caK K w) 3 "_can_jump" ["setup", "present", "reading"] F_can_jump := ⟨_, _, o_can_jump, He.glo_ok X G (c.fact 8 (f := .glo "_can_jump") rfl), fn_can_jump.kp, bd_can_jump⟩
  have o_is_formed := ok_is_formed (P := P) (w := w) (mg := mg) (base := base) fn_is_formed T 
  have D_is_formed : DefOk P w K mg base (caK K w) 1 "_is_formed" ["event"] F_is_formed := ⟨_, _, o_is_formed, He.glo_ok X G (c.fact 9 (f := .glo "_is_formed") rfl), fn_is_formed.kp, bd_is_formed⟩
  have o_check_event := ok_check_event (P := P) (w := w) (mg := mg) (base := base) fn_check_event T D_Setup__len D_can_jump D_is_formed D_is_between
  have D_check_event : DefOkN P w K mg base (caK K w) 4 "check_event" ["setup", "standing", "event"] F_check_event := ⟨_, _, o_check_event, He.glo_ok X G (c.fact 10 (f := .glo "check_event") rfl), fn_check_event.kp, bd_check_event⟩
  have o_Plan_on_restart := ok_Plan_on_restart (P := P) (w := w) (mg := mg) (base := base) fn_Plan_on_restart T 
  have D_Plan_on_restart : PrpOk P w K mg base (caK K w) 1 0 "on_restart" F_Plan_on_restart := ⟨T.c_Plan.1.cl, _, _, _, HK.propB_ok x8, o_Plan_on_restart, bd_Plan_on_restart⟩
  have o_Setup_marks := ok_Setup_marks (P := P) (w := w) (mg := mg) (base := base) fn_Setup_marks T 
  have D_Setup_marks : PrpOk P w K mg base (caK K w) 1 1 "marks" F_Setup_marks := ⟨T.c_Setup.1.cl, _, _, _, HK.propB_ok x9, o_Setup_marks, bd_Setup_marks⟩
  have o_Setup_plans := ok_Setup_plans (P := P) (w := w) (mg := mg) (base := base) fn_Setup_plans T 
  have D_Setup_plans : PrpOk P w K mg base (caK K w) 1 1 "plans" F_Setup_plans := ⟨T.c_Setup.1.cl, _, _, _, HK.propB_ok x10, o_Setup_plans, bd_Setup_plans⟩
  have o_Setup_limit := ok_Setup_limit (P := P) (w := w) (mg := mg) (base := base) fn_Setup_limit T 
  have D_Setup_limit : PrpOk P w K mg base (caK K w) 1 1 "limit" F_Setup_limit := ⟨T.c_Setup.1.cl, _, _, _, HK.propB_ok x11, o_Setup_limit, bd_Setup_limit⟩
  have o_restarted := ok_restarted (P := P) (w := w) (mg := mg) (base := base) fn_restarted T D_Plan_on_restart D_Setup_limit D_Setup_plans
  have D_restarted : DefOk P w K mg base (caK K w) 3 "_restarted" ["setup", "maker", "reading", "saved"] F_restarted := ⟨_, _, o_restarted, He.glo_ok X G (c.fact 11 (f := .glo "_restarted") rfl), fn_restarted.kp, bd_restarted⟩
  have o_Plan_on_back := ok_Plan_on_back (P := P) (w := w) (mg := mg) (base := base) fn_Plan_on_back T 
  have D_Plan_on_back : PrpOk P w K mg base (caK K w) 1 0 "on_back" F_Plan_on_back := ⟨T.c_Plan.1.cl, _, _, _, HK.propB_ok x12, o_Plan_on_back, bd_Plan_on_back⟩
  have o_Plan_on_full := ok_Plan_on_full (P := P) (w := w) (mg := mg) (base := base) fn_Plan_on_full T 
  have D_Plan_on_full : PrpOk P w K mg base (caK K w) 1 0 "on_full" F_Plan_on_full := ⟨T.c_Plan.1.cl, _, _, _, HK.propB_ok x13, o_Plan_on_full, bd_Plan_on_full⟩
  have o_told_at_last := ok_told_at_last (P := P) (w := w) (mg := mg) (base := base) fn_told_at_last T D_Plan_on_full D_Setup_limit D_Setup_top
  have D_told_at_last : DefOk P w K mg base (caK K w) 3 "_told_at_last" ["setup", "plan", "last", "counter"] F_told_at_last := ⟨_, _, o_told_at_last, He.glo_ok X G (c.fact 12 (f := .glo "_told_at_last") rfl), fn_told_at_last.kp, bd_told_at_last⟩
  have o_told := ok_told (P := P) (w := w) (mg := mg) (base := base) fn_told T D_Plan_on_back D_Plan_on_restart D_told_at_last
  have D_told : DefOk P w K mg base (caK K w) 4 "_told" ["setup", "plan", "state"] F_told := ⟨_, _, o_told, He.glo_ok X G (c.fact 13 (f := .glo "_told") rfl), fn_told.kp, bd_told⟩
  have o_step_alone := ok_step_alone (P := P) (w := w) (mg := mg) (base := base) fn_step_alone T D_Plan_on_restart D_Setup_marks D_Setup_plans D_restarted D_told
  have D_step_alone : DefOk P w K mg base (caK K w) 5 "step_alone" ["setup", "state", "event"] F_step_alone := ⟨_, _, o_step_alone, He.glo_ok X G (c.fact 14 (f := .glo "step_alone") rfl), fn_step_alone.kp, bd_step_alone⟩
  have o_with_state := ok_with_state (P := P) (w := w) (mg := mg) (base := base) fn_with_state T 
  have D_with_state : DefOk P w K mg base (caK K w) 1 "with_state" ["standing", "maker", "state"] F_with_state := ⟨_, _, o_with_state, He.glo_ok X G (c.fact 15 (f := .glo "with_state") rfl), fn_with_state.kp, bd_with_state⟩
  have o_step := ok_step (P := P) (w := w) (mg := mg) (base := base) fn_step T D_step_alone D_with_state
  have D_step : DefOk P w K mg base (caK K w) 6 "step" ["setup", "standing", "event"] F_step := ⟨_, _, o_step, He.glo_ok X G (c.fact 16 (f := .glo "step") rfl), fn_step.kp, bd_step⟩
  have o_run := ok_run (P := P) (w := w) (mg := mg) (base := base) fn_run T D_begin D_check_event D_step
  have D_run : DefOk P w K mg base (caK K w) 7 "run" ["setup", "events"] F_run := ⟨_, _, o_run, He.glo_ok X G (c.fact 17 (f := .glo "run") rfl), fn_run.kp, bd_run⟩
  have o_is_number_word := ok_is_number_word (P := P) (w := w) (mg := mg) (base := base) fn_is_number_word T 
  have D_is_number_word : DefOk P w K mg base (caK K w) 1 "_is_number_word" ["word", "most_digits"] F_is_number_word := ⟨_, _, o_is_number_word, He.glo_ok X G (c.fact 18 (f := .glo "_is_number_word") rfl), fn_is_number_word.kp, bd_is_number_word⟩
  have o_wrong_word := ok_wrong_word (P := P) (w := w) (mg := mg) (base := base) fn_wrong_word T D_is_number_word
  have D_wrong_word : DefOk P w K mg base (caK K w) 2 "wrong_word" ["words", "many", "most_digits"] F_wrong_word := ⟨_, _, o_wrong_word, He.glo_ok X G (c.fact 19 (f := .glo "wrong_word") rfl), fn_wrong_word.kp, bd_wrong_word⟩
  have o_read_history := ok_read_history (P := P) (w := w) (mg := mg) (base := base) fn_read_history T D_row_read D_rows_of D_run D_wrong_word
  have D_read_history : DefOk P w K mg base (caK K w) 8 "read_history" ["setup", "text"] F_read_history := ⟨_, _, o_read_history, He.glo_ok X G (c.fact 20 (f := .glo "read_history") rfl), fn_read_history.kp, bd_read_history⟩
  have o_law_place := ok_law_place (P := P) (w := w) (mg := mg) (base := base) fn_law_place T D_Plan__init D_Setup__init D_read_history
  have D_law_place : DefOk P w K mg base (caK K w) 9 "_law_place" ["_law_rows"] F_law_place := ⟨_, _, o_law_place, He.glo_ok X G (c.fact 21 (f := .glo "_law_place") rfl), fn_law_place.kp, bd_law_place⟩
  have o_law_taken := ok_law_taken (P := P) (w := w) (mg := mg) (base := base) fn_law_taken T 
  have D_law_taken : DefOk P w K mg base (caK K w) 1 "_law_taken" ["_law_row", "_law_many"] F_law_taken := ⟨_, _, o_law_taken, He.glo_ok X G (c.fact 22 (f := .glo "_law_taken") rfl), fn_law_taken.kp, bd_law_taken⟩
  have o_law := ok_law (P := P) (w := w) (mg := mg) (base := base) fn_law T D_law_place D_law_taken
  exact o_law
end
end Law


namespace Law
open L2 DS Len
/-! ### every case, by its meaning -/
def goodD : List D := [.str "give 0", .str "clock 1 1", .str "restart 0", .str "clock 1 2"]
def wrongs : List (PySem.Str × Int) := [("", 0), ("gives 0", 0), ("give", 1), ("give 0 0", 2), ("give x", 1), ("give 00", 1), ("give -1", 1), ("clock 0", 2), ("clock", 1), ("clock 0 1 1", 3), ("clock 0 10", 2), ("clock  0 1", 1), ("restart 0 ", 2), (" give 0", 0), ("Give 0", 0), ("clock 0 .", 2), ("give 10", 1)]
def odds : List PySem.Str := ["give 2", "restart 9", "clock 0 0", "clock 0 2", "clock 0 3", "clock 2 1", "clock 0 9"]
def okP (o : Option (R D)) (a b : Int) : Bool := match o with
  | some (.ok (.tup [.int x, .int y]) []) => decide (x = a) && decide (y = b)
  | _ => false
theorem okP_of {o : Option (R D)} {a b : Int} (h : okP o a b = true) : o = some (.ok (.tup [.int a, .int b]) []) := by
  unfold okP at h
  split at h
  · rw [Bool.and_eq_true] at h
    rw [of_decide_eq_true h.1, of_decide_eq_true h.2]
  · cases h
def okH (o : Option (R D)) (a : Int) : Bool := match o with
  | some (.ok (.tup [.str s, .int y]) []) => decide (s = "history") && decide (y = a)
  | _ => false
theorem okH_of {o : Option (R D)} {a : Int} (h : okH o a = true) : o = some (.ok (.tup [.str "history", .int a]) []) := by
  unfold okH at h
  split at h
  · rw [Bool.and_eq_true] at h
    rw [of_decide_eq_true h.1, of_decide_eq_true h.2]
  · cases h
theorem all_of {α : Type} {p : α → Bool} {l : List α} (h : l.all p = true) {x : α} (hx : x ∈ l) : p x = true := List.all_eq_true.mp h x hx
def okA (k : Nat) : Bool := wrongs.all fun w => okP (F_law_place [.lst (goodD.take k ++ [.str w.1] ++ goodD.drop k)] []) k w.2
def okB (k : Nat) : Bool := wrongs.all fun w => okP (F_law_place [.lst ([.str "give 7"] ++ goodD.take k ++ [.str w.1])] []) (k + 1) w.2
theorem casesA0 : okA 0 = true := by kernel_rfl
theorem casesA1 : okA 1 = true := by kernel_rfl
theorem casesA2 : okA 2 = true := by kernel_rfl
theorem casesA3 : okA 3 = true := by kernel_rfl
theorem casesA4 : okA 4 = true := by kernel_rfl
theorem casesB0 : okB 0 = true := by kernel_rfl
theorem casesB1 : okB 1 = true := by kernel_rfl
theorem casesB2 : okB 2 = true := by kernel_rfl
theorem casesB3 : okB 3 = true := by kernel_rfl
theorem casesB4 : okB 4 = true := by kernel_rfl
theorem casesA {k : Nat} (hk : k < 5) : okA k = true := by
  have h : k = 0 ∨ k = 1 ∨ k = 2 ∨ k = 3 ∨ k = 4 := by omega
  rcases h with rfl | rfl | rfl | rfl | rfl
  · exact casesA0
  · exact casesA1
  · exact casesA2
  · exact casesA3
  · exact casesA4
theorem casesB {k : Nat} (hk : k < 5) : okB k = true := by
  have h : k = 0 ∨ k = 1 ∨ k = 2 ∨ k = 3 ∨ k = 4 := by omega
  rcases h with rfl | rfl | rfl | rfl | rfl
  · exact casesB0
  · exact casesB1
  · exact casesB2
  · exact casesB3
  · exact casesB4
theorem placeA {k : Nat} (hk : k < 5) {w : PySem.Str × Int} (hw : w ∈ wrongs) : F_law_place [.lst (goodD.take k ++ [.str w.1] ++ goodD.drop k)] [] = some (.ok (.tup [.int k, .int w.2]) []) := by
  have h := casesA hk
  unfold okA at h
  exact okP_of (all_of h hw)
theorem placeB {k : Nat} (hk : k < 5) {w : PySem.Str × Int} (hw : w ∈ wrongs) : F_law_place [.lst ([.str "give 7"] ++ goodD.take k ++ [.str w.1])] [] = some (.ok (.tup [.int (k + 1), .int w.2]) []) := by
  have h := casesB hk
  unfold okB at h
  exact okP_of (all_of h hw)
theorem place0 : F_law_place [.lst goodD] [] = some (.ok .non []) := by kernel_rfl
theorem place4 : F_law_place [.lst (goodD ++ [.str "clock 1 0"])] [] = some (.ok (.tup [.str "history", .int 4]) []) := by kernel_rfl
theorem place6 : F_law_place [.lst (goodD ++ [.str "clock 1 1", .str "clock 1 0"])] [] = some (.ok .non []) := by kernel_rfl
def okO (k : Nat) : Bool := odds.all fun x => okH (F_law_place [.lst (goodD.take k ++ [.str x] ++ goodD.drop k)] []) k
theorem casesH0 : okO 0 = true := by kernel_rfl
theorem casesH1 : okO 1 = true := by kernel_rfl
theorem casesH2 : okO 2 = true := by kernel_rfl
theorem casesH3 : okO 3 = true := by kernel_rfl
theorem casesH4 : okO 4 = true := by kernel_rfl
theorem casesH {k : Nat} (hk : k < 5) : okO k = true := by
  have h : k = 0 ∨ k = 1 ∨ k = 2 ∨ k = 3 ∨ k = 4 := by omega
  rcases h with rfl | rfl | rfl | rfl | rfl
  · exact casesH0
  · exact casesH1
  · exact casesH2
  · exact casesH3
  · exact casesH4
theorem placeH {k : Nat} (hk : k < 5) {x : PySem.Str} (hx : x ∈ odds) : F_law_place [.lst (goodD.take k ++ [.str x] ++ goodD.drop k)] [] = some (.ok (.tup [.str "history", .int k]) []) := by
  have h := casesH hk
  unfold okO at h
  exact okH_of (all_of h hx)
end Law

namespace Law
open L2 DS Len
/-- the row that the script is taken from -/
def rowC (ns : List Int) (p s r : Int) : Cell := .lst [.fls (ns.map .int), .int p, .int s, .int r]
def RowOk (ns : List Int) (c : Cell) : Prop := ∃ p s r, 0 ≤ p ∧ 0 ≤ r ∧ c = rowC ns p s r
theorem at_in {ns : List Int} {i : Int} (h0 : 0 ≤ i) (h : i < ns.length) : ∃ x, ∃ h : i.toNat < ns.length, ns[i.toNat] = x := ⟨_, by omega, rfl⟩
theorem taken {ns : List Int} {c : Cell} (hc : RowOk ns c) (rest : Sta) {m : Int} (h0 : 0 < m) (h1 : m < 1073741824) : ∃ v c', RowOk ns c' ∧ 0 ≤ v ∧ v < m ∧ F_law_taken [.cell 0, .int m] (c :: rest) = some (.ok (.int v) (c' :: rest)) := by
  obtain ⟨p, s, r, hp, hr, rfl⟩ := hc
  have hv : ∀ x : Int, 0 ≤ x % m ∧ x % m < m := fun x => ⟨Int.emod_nonneg _ (by omega), Int.emod_lt_of_pos _ h0⟩
  have hd : ∀ x : Int, 0 ≤ x → 0 ≤ x / m := fun x hx => Int.ediv_nonneg hx (by omega)
  by_cases hr0 : 0 < r
  · refine ⟨r % m, rowC ns p s (r / m), ⟨p, s, r / m, hp, hd r hr, rfl⟩, (hv r).1, (hv r).2, ?_⟩
    simp [DS.fnF, DS.endF, DS.sSeq, DS.sIf, DS.sAsg, DS.sAsgG, DS.sSub, DS.sRet, DS.sNx, DS.sDrop, DS.sPar, DS.sPar3, DS.bndS, DS.bnd, DS.bnd0, DS.fTest, DS.fAnd, DS.fOr, DS.fNot, DS.fAndV, DS.fOrV, DS.fNotV, DS.f1, DS.f2, DS.fN, DS.fIf, DS.fVar, DS.fC, DS.fCons, DS.fNil, DS.fTup, DS.fLst, DS.fChain, DS.oIx, DS.oGt, DS.oGe, DS.oLt, DS.oLe, DS.oPow, DS.oSub, DS.oNeg, DS.oI, DS.oI2, DS.oMax, DS.oMin, DS.oMod, DS.oDiv, DS.oInt, DS.oLen, DS.oAdd, DS.oMul, DS.oTupOf, DS.seqOf, L2.atI, L2.ixN, DS.ret, DS.oEq, DS.oNe, DS.oCall, DS.gN, DS.gNl, DS.gCn, DS.gTp, F_law_taken, b_law_taken, rowC, hr0, h0, h1]
  · by_cases hl : (ns.length : Int) < p + 1
    · refine ⟨((s * 48271 + 11) % 2147483647 / 7) % m, rowC ns (p + 1) ((s * 48271 + 11) % 2147483647) r, ⟨_, _, _, by omega, hr, rfl⟩, (hv _).1, (hv _).2, ?_⟩
      simp [DS.fnF, DS.endF, DS.sSeq, DS.sIf, DS.sAsg, DS.sAsgG, DS.sSub, DS.sRet, DS.sNx, DS.sDrop, DS.sPar, DS.sPar3, DS.bndS, DS.bnd, DS.bnd0, DS.fTest, DS.fAnd, DS.fOr, DS.fNot, DS.fAndV, DS.fOrV, DS.fNotV, DS.f1, DS.f2, DS.fN, DS.fIf, DS.fVar, DS.fC, DS.fCons, DS.fNil, DS.fTup, DS.fLst, DS.fChain, DS.oIx, DS.oGt, DS.oGe, DS.oLt, DS.oLe, DS.oPow, DS.oSub, DS.oNeg, DS.oI, DS.oI2, DS.oMax, DS.oMin, DS.oMod, DS.oDiv, DS.oInt, DS.oLen, DS.oAdd, DS.oMul, DS.oTupOf, DS.seqOf, L2.atI, L2.ixN, DS.ret, DS.oEq, DS.oNe, DS.oCall, DS.gN, DS.gNl, DS.gCn, DS.gTp, F_law_taken, b_law_taken, rowC, hr0, h0, h1, hl]
    · obtain ⟨x, hx0, hx⟩ := at_in (ns := ns) (i := p) hp (by omega)
      refine ⟨x % m, rowC ns (p + 1) ((s * 48271 + x + 11) % 2147483647) (if 1000000000000000000 ≤ x then x / m else 0), ⟨_, _, _, by omega, ?_, rfl⟩, (hv _).1, (hv _).2, ?_⟩
      · split
        · exact hd x (by omega)
        · omega
      · have e : p + 1 - 1 = p := by omega
        have hr00 : r = 0 := by omega
        subst hr00
        have e2 : p < ns.length := by omega
        by_cases hx18 : (1000000000000000000 : Int) ≤ x
        · simp [DS.fnF, DS.endF, DS.sSeq, DS.sIf, DS.sAsg, DS.sAsgG, DS.sSub, DS.sRet, DS.sNx, DS.sDrop, DS.sPar, DS.sPar3, DS.bndS, DS.bnd, DS.bnd0, DS.fTest, DS.fAnd, DS.fOr, DS.fNot, DS.fAndV, DS.fOrV, DS.fNotV, DS.f1, DS.f2, DS.fN, DS.fIf, DS.fVar, DS.fC, DS.fCons, DS.fNil, DS.fTup, DS.fLst, DS.fChain, DS.oIx, DS.oGt, DS.oGe, DS.oLt, DS.oLe, DS.oPow, DS.oSub, DS.oNeg, DS.oI, DS.oI2, DS.oMax, DS.oMin, DS.oMod, DS.oDiv, DS.oInt, DS.oLen, DS.oAdd, DS.oMul, DS.oTupOf, DS.seqOf, L2.atI, L2.ixN, DS.ret, DS.oEq, DS.oNe, DS.oCall, DS.gN, DS.gNl, DS.gCn, DS.gTp, F_law_taken, b_law_taken, rowC, hr0, h0, h1, hl, hx, e, e2, hp, hx18]
        · simp [DS.fnF, DS.endF, DS.sSeq, DS.sIf, DS.sAsg, DS.sAsgG, DS.sSub, DS.sRet, DS.sNx, DS.sDrop, DS.sPar, DS.sPar3, DS.bndS, DS.bnd, DS.bnd0, DS.fTest, DS.fAnd, DS.fOr, DS.fNot, DS.fAndV, DS.fOrV, DS.fNotV, DS.f1, DS.f2, DS.fN, DS.fIf, DS.fVar, DS.fC, DS.fCons, DS.fNil, DS.fTup, DS.fLst, DS.fChain, DS.oIx, DS.oGt, DS.oGe, DS.oLt, DS.oLe, DS.oPow, DS.oSub, DS.oNeg, DS.oI, DS.oI2, DS.oMax, DS.oMin, DS.oMod, DS.oDiv, DS.oInt, DS.oLen, DS.oAdd, DS.oMul, DS.oTupOf, DS.seqOf, L2.atI, L2.ixN, DS.ret, DS.oEq, DS.oNe, DS.oCall, DS.gN, DS.gNl, DS.gCn, DS.gTp, F_law_taken, b_law_taken, rowC, hr0, h0, h1, hl, hx, e, e2, hp, hx18]

theorem pls_row {ns : List Int} {c : Cell} (hc : RowOk ns c) (n : Nat) : pls_st n [c] = true := by
  obtain ⟨p, s, r, _, _, rfl⟩ := hc
  simp [DS.fnF, DS.endF, DS.sSeq, DS.sIf, DS.sAsg, DS.sAsgG, DS.sSub, DS.sRet, DS.sNx, DS.sDrop, DS.sPar, DS.sPar3, DS.bndS, DS.bnd, DS.bnd0, DS.fTest, DS.fAnd, DS.fOr, DS.fNot, DS.fAndV, DS.fOrV, DS.fNotV, DS.f1, DS.f2, DS.fN, DS.fIf, DS.fVar, DS.fC, DS.fCons, DS.fNil, DS.fTup, DS.fLst, DS.fChain, DS.oIx, DS.oGt, DS.oGe, DS.oLt, DS.oLe, DS.oPow, DS.oSub, DS.oNeg, DS.oI, DS.oI2, DS.oMax, DS.oMin, DS.oMod, DS.oDiv, DS.oInt, DS.oLen, DS.oAdd, DS.oMul, DS.oTupOf, DS.seqOf, L2.atI, L2.ixN, DS.ret, DS.oEq, DS.oNe, DS.oCall, DS.gN, DS.gNl, DS.gCn, DS.gTp, rowC, pls_st, pls, pl, pls_int]
theorem sub_ok {n : Nat} {f : F D} {env : Evn} {st st' : Sta} {d : D} (h1 : pls_st 0 (st.take n) = true) (h2 : f (envUpto n env) (st.take n) = some (.ok d st')) (h3 : pl 0 d = true) (h4 : pls_st 0 st' = true) (h5 : st'.length = (st.take n).length) : fSub n f env st = some (.ok d (st' ++ st.drop n)) := by
  unfold fSub
  rw [if_pos h1, h2]
  unfold subR
  dsimp only
  rw [if_pos ⟨h3, h4, h5⟩]
theorem callU_ok {n m : Nat} {Fm : List D → Sta → Option (R D)} {ds : List D} {st st' : Sta} {d : D} (h0 : ds.length = m) (h1 : pls 0 ds = true) (h2 : pls_st 0 (st.take n) = true) (k : Fm ds (st.take n) = some (.ok d st')) (h3 : pl 0 d = true) (h4 : pls_st 0 st' = true) (h5 : st'.length = (st.take n).length) : oCallU n m Fm ds st = some (.ok d (st' ++ st.drop n)) := by
  unfold oCallU
  rw [if_pos ⟨h0, h1, h2⟩, k]
  unfold subR
  dsimp only
  rw [if_pos ⟨h3, h4, h5⟩]
/-- the law's slots -/
abbrev lv (z0 x2 x3 x4 x5 x6 x7 x8 : Option D) : Evn := [z0, some (.cell 0), x2, x3, x4, x5, x6, x7, x8]
def wD (w : PySem.Str × Int) : D := .tup [.str w.1, .int w.2]
def b_tn : FS := (sSeq (sAsg 6 (fN (oCall 2 F_law_taken) (fCons (fVar 1) (fCons (fC (.int 5)) fNil))))
  (sSeq (sAsgG (f2 oIx (fVar 3) (fN (oCall 2 F_law_taken) (fCons (fVar 1) (fCons (fN oLen (fCons (fVar 3) fNil)) fNil)))) (gTp 2 (gCn (gN 7) (gCn (gN 8) gNl))))
  (sSeq (sIf (fTest (f2 oNeS (fSub 0 (fN (oCall 1 F_law_place) (fCons (f2 oAdd (f2 oAdd (fSl (fVar 2) fNo (fPart (fVar 6))) (fLst (fCons (fVar 7) fNil))) (fSl (fVar 2) (fPart (fVar 6)) fNo)) fNil))) (fTup (fCons (fVar 6) (fCons (fVar 8) fNil)))))
  (sRet (fC (.bl false)))
  sNx)
  (sSeq (sIf (fTest (f2 oNeS (fSub 0 (fN (oCall 1 F_law_place) (fCons (f2 oAdd (f2 oAdd (fLst (fCons (fC (.str "give 7")) fNil)) (fSl (fVar 2) fNo (fPart (fVar 6)))) (fLst (fCons (fVar 7) fNil))) fNil))) (fTup (fCons (f2 oAdd (fVar 6) (fC (.int 1))) (fCons (fVar 8) fNil)))))
  (sRet (fC (.bl false)))
  sNx)
  (sSeq (sIf (fTest (f2 oNeS (fN (oCallU 0 1 F_law_place) (fCons (f2 oAdd (f2 oAdd (fSl (fVar 2) fNo (fPart (fVar 6))) (fLst (fCons (f2 oIx (fVar 4) (fN (oCall 2 F_law_taken) (fCons (fVar 1) (fCons (fC (.int 7)) fNil)))) fNil))) (fSl (fVar 2) (fPart (fVar 6)) fNo)) fNil)) (fTup (fCons (fC (.str "history")) (fCons (fVar 6) fNil)))))
  (sRet (fC (.bl false)))
  sNx)
  (sSeq (sIf (fTest (f2 oNeS (fSub 0 (fN (oCall 1 F_law_place) (fCons (f2 oAdd (fVar 2) (fLst (fCons (fC (.str "clock 1 0")) fNil))) fNil))) (fTup (fCons (fC (.str "history")) (fCons (fC (.int 4)) fNil)))))
  (sRet (fC (.bl false)))
  sNx)
  (sIf (fTest (f2 oNotN (fSub 0 (fN (oCall 1 F_law_place) (fCons (f2 oAdd (fVar 2) (fLst (fCons (fC (.str "clock 1 1")) (fCons (fC (.str "clock 1 0")) fNil)))) fNil))) (fC .non)))
  (sRet (fC (.bl false)))
  sNx)))))))
theorem law_eq : b_law = (sSeq (sAsg 1 (fNew (fCons (fVar 0) (fCons (fC (.int 0)) (fCons (fC (.int 0)) (fCons (fC (.int 0)) fNil))))))
  (sSeq (sAsg 2 (fLst (fCons (fC (.str "give 0")) (fCons (fC (.str "clock 1 1")) (fCons (fC (.str "restart 0")) (fCons (fC (.str "clock 1 2")) fNil))))))
  (sSeq (sIf (fTest (f2 oNotN (fSub 0 (fN (oCall 1 F_law_place) (fCons (fVar 2) fNil))) (fC .non)))
  (sRet (fC (.bl false)))
  sNx)
  (sSeq (sAsg 3 (fLst (fCons (fTup (fCons (fC (.str "")) (fCons (fC (.int 0)) fNil))) (fCons (fTup (fCons (fC (.str "gives 0")) (fCons (fC (.int 0)) fNil))) (fCons (fTup (fCons (fC (.str "give")) (fCons (fC (.int 1)) fNil))) (fCons (fTup (fCons (fC (.str "give 0 0")) (fCons (fC (.int 2)) fNil))) (fCons (fTup (fCons (fC (.str "give x")) (fCons (fC (.int 1)) fNil))) (fCons (fTup (fCons (fC (.str "give 00")) (fCons (fC (.int 1)) fNil))) (fCons (fTup (fCons (fC (.str "give -1")) (fCons (fC (.int 1)) fNil))) fNil)))))))))
  (sSeq (sAsg 3 (f2 oAdd (fVar 3) (fLst (fCons (fTup (fCons (fC (.str "clock 0")) (fCons (fC (.int 2)) fNil))) (fCons (fTup (fCons (fC (.str "clock")) (fCons (fC (.int 1)) fNil))) (fCons (fTup (fCons (fC (.str "clock 0 1 1")) (fCons (fC (.int 3)) fNil))) (fCons (fTup (fCons (fC (.str "clock 0 10")) (fCons (fC (.int 2)) fNil))) (fCons (fTup (fCons (fC (.str "clock  0 1")) (fCons (fC (.int 1)) fNil))) fNil))))))))
  (sSeq (sAsg 3 (f2 oAdd (fVar 3) (fLst (fCons (fTup (fCons (fC (.str "restart 0 ")) (fCons (fC (.int 2)) fNil))) (fCons (fTup (fCons (fC (.str " give 0")) (fCons (fC (.int 0)) fNil))) (fCons (fTup (fCons (fC (.str "Give 0")) (fCons (fC (.int 0)) fNil))) (fCons (fTup (fCons (fC (.str "clock 0 .")) (fCons (fC (.int 2)) fNil))) (fCons (fTup (fCons (fC (.str "give 10")) (fCons (fC (.int 1)) fNil))) fNil))))))))
  (sSeq (sAsg 4 (fLst (fCons (fC (.str "give 2")) (fCons (fC (.str "restart 9")) (fCons (fC (.str "clock 0 0")) (fCons (fC (.str "clock 0 2")) (fCons (fC (.str "clock 0 3")) (fCons (fC (.str "clock 2 1")) (fCons (fC (.str "clock 0 9")) fNil)))))))))
  (sSeq (sForI (iR (fC (.int 10))) (gN 5)
  b_tn)
  (sRet (fC (.bl true))))))))))) := rfl
end Law

namespace Law
open L2 DS Len
open PySem PySem.Spec PyProof.Rows
theorem k5 {k : Nat} (hk : k < 5) : k = 0 ∨ k = 1 ∨ k = 2 ∨ k = 3 ∨ k = 4 := by omega
theorem fine_his : Fine 0 (.str "history") := ⟨.str "history", rfl, by decide +kernel, Nat.le_refl _, by decide +kernel⟩
theorem neP (a b : Int) (st : Sta) : oNeS (.tup [.int a, .int b]) (.tup [.int a, .int b]) st = some (.ok (.bl false) st) :=
  neS_same (d := .tup [.int a, .int b]) (n := 1) rfl rfl (fine_tup (fineL_cons (fine_int _) (fineL_cons (fine_int _) (fineL_nil _)))) (by omega)
theorem neH (a : Int) (st : Sta) : oNeS (.tup [.str "history", .int a]) (.tup [.str "history", .int a]) st = some (.ok (.bl false) st) :=
  neS_same (d := .tup [.str "history", .int a]) (n := 1) rfl rfl (fine_tup (fineL_cons fine_his (fineL_cons (fine_int _) (fineL_nil _)))) (by omega)
abbrev odD : D := .lst (odds.map .str)
abbrev wrD : D := .lst (wrongs.map wD)
theorem wrong_at {i : Int} (h0 : 0 ≤ i) (h1 : i < 17) (st : Sta) : ∃ w ∈ wrongs, oIx wrD (.int i) st = some (.ok (wD w) st) := by
  have h : i = 0 ∨ i = 1 ∨ i = 2 ∨ i = 3 ∨ i = 4 ∨ i = 5 ∨ i = 6 ∨ i = 7 ∨ i = 8 ∨ i = 9 ∨ i = 10 ∨ i = 11 ∨ i = 12 ∨ i = 13 ∨ i = 14 ∨ i = 15 ∨ i = 16 := by omega
  have e : ∀ j : Nat, (hj : j < wrongs.length) → oIx wrD (.int j) st = some (.ok (wD wrongs[j]) st) → ∃ w ∈ wrongs, oIx wrD (.int j) st = some (.ok (wD w) st) := fun j hj q => ⟨_, List.getElem_mem hj, q⟩
  rcases h with rfl | rfl | rfl | rfl | rfl | rfl | rfl | rfl | rfl | rfl | rfl | rfl | rfl | rfl | rfl | rfl | rfl
  · exact e 0 (by decide) rfl
  · exact e 1 (by decide) rfl
  · exact e 2 (by decide) rfl
  · exact e 3 (by decide) rfl
  · exact e 4 (by decide) rfl
  · exact e 5 (by decide) rfl
  · exact e 6 (by decide) rfl
  · exact e 7 (by decide) rfl
  · exact e 8 (by decide) rfl
  · exact e 9 (by decide) rfl
  · exact e 10 (by decide) rfl
  · exact e 11 (by decide) rfl
  · exact e 12 (by decide) rfl
  · exact e 13 (by decide) rfl
  · exact e 14 (by decide) rfl
  · exact e 15 (by decide) rfl
  · exact e 16 (by decide) rfl
theorem odd_at {i : Int} (h0 : 0 ≤ i) (h1 : i < 7) (st : Sta) : ∃ x ∈ odds, oIx odD (.int i) st = some (.ok (.str x) st) := by
  have h : i = 0 ∨ i = 1 ∨ i = 2 ∨ i = 3 ∨ i = 4 ∨ i = 5 ∨ i = 6 := by omega
  have e : ∀ j : Nat, (hj : j < odds.length) → oIx odD (.int j) st = some (.ok (.str odds[j]) st) → ∃ w ∈ odds, oIx odD (.int j) st = some (.ok (.str w) st) := fun j hj q => ⟨_, List.getElem_mem hj, q⟩
  rcases h with rfl | rfl | rfl | rfl | rfl | rfl | rfl
  · exact e 0 (by decide) rfl
  · exact e 1 (by decide) rfl
  · exact e 2 (by decide) rfl
  · exact e 3 (by decide) rfl
  · exact e 4 (by decide) rfl
  · exact e 5 (by decide) rfl
  · exact e 6 (by decide) rfl
section
variable {z0 x5 : Option D} {x : Str} {y : Int}
theorem argA {k : Nat} (hk : k < 5) (st : Sta) : (f2 oAdd (f2 oAdd (fSl (fVar 2) fNo (fPart (fVar 6))) (fLst (fCons (fVar 7) fNil))) (fSl (fVar 2) (fPart (fVar 6)) fNo)) (envUpto 0 (lv z0 (some (.lst goodD)) (some wrD) (some odD) x5 (some (.int k)) (some (.str x)) (some (.int y)))) st = some (.ok (.lst (goodD.take k ++ [.str x] ++ goodD.drop k)) st) := by
  rcases k5 hk with rfl | rfl | rfl | rfl | rfl <;> rfl
theorem argB {k : Nat} (hk : k < 5) (st : Sta) : (f2 oAdd (f2 oAdd (fLst (fCons (fC (.str "give 7")) fNil)) (fSl (fVar 2) fNo (fPart (fVar 6)))) (fLst (fCons (fVar 7) fNil))) (envUpto 0 (lv z0 (some (.lst goodD)) (some wrD) (some odD) x5 (some (.int k)) (some (.str x)) (some (.int y)))) st = some (.ok (.lst ([.str "give 7"] ++ goodD.take k ++ [.str x])) st) := by
  rcases k5 hk with rfl | rfl | rfl | rfl | rfl <;> rfl
theorem slA {k : Nat} (hk : k < 5) (st : Sta) : (fSl (fVar 2) fNo (fPart (fVar 6))) (lv z0 (some (.lst goodD)) (some wrD) (some odD) x5 (some (.int k)) (some (.str x)) (some (.int y))) st = some (.ok (.lst (goodD.take k)) st) := by
  rcases k5 hk with rfl | rfl | rfl | rfl | rfl <;> rfl
theorem slB {k : Nat} (hk : k < 5) (st : Sta) : (fSl (fVar 2) (fPart (fVar 6)) fNo) (lv z0 (some (.lst goodD)) (some wrD) (some odD) x5 (some (.int k)) (some (.str x)) (some (.int y))) st = some (.ok (.lst (goodD.drop k)) st) := by
  rcases k5 hk with rfl | rfl | rfl | rfl | rfl <;> rfl
theorem addL (a b : List D) (st : Sta) (h : a.length + b.length ≤ 100) : oAdd (.lst a) (.lst b) st = some (.ok (.lst (a ++ b)) st) := by
  unfold oAdd
  dsimp only
  rw [if_pos (by omega)]
  rfl
theorem law_turn {ns : List Int} {c : Cell} (hc : RowOk ns c) (z0 x6 x7 x8 : Option D) :
    ∃ (c' : Cell) (y6 y7 y8 : Option D), RowOk ns c' ∧ b_tn (lv z0 (some (.lst goodD)) (some wrD) (some odD) x5 x6 x7 x8) [c] = some (.nx (lv z0 (some (.lst goodD)) (some wrD) (some odD) x5 y6 y7 y8), [c']) := by
  obtain ⟨v, c1, hc1, v0, v1, k1⟩ := taken hc [] (m := 5) (by omega) (by omega)
  obtain ⟨k, rfl⟩ : ∃ k : Nat, v = k := ⟨v.toNat, by omega⟩
  have hk : k < 5 := by omega
  obtain ⟨i, c2, hc2, i0, i1, k2⟩ := taken hc1 [] (m := 17) (by omega) (by omega)
  obtain ⟨w, hw, kw⟩ := wrong_at i0 i1 [c2]
  obtain ⟨j, c3, hc3, j0, j1, k3⟩ := taken hc2 [] (m := 7) (by omega) (by omega)
  obtain ⟨x, hx, kx⟩ := odd_at j0 j1 [c3]
  have p1 : (sAsg 6 (fN (oCall 2 F_law_taken) (fCons (fVar 1) (fCons (fC (.int 5)) fNil)))) (lv z0 (some (.lst goodD)) (some wrD) (some odD) x5 x6 x7 x8) [c] = some (.nx (lv z0 (some (.lst goodD)) (some wrD) (some odD) x5 (some (.int k)) x7 x8), [c1]) := asg_ok (call2 rfl rfl k1)
  have p2 : (sAsgG (f2 oIx (fVar 3) (fN (oCall 2 F_law_taken) (fCons (fVar 1) (fCons (fN oLen (fCons (fVar 3) fNil)) fNil)))) (gTp 2 (gCn (gN 7) (gCn (gN 8) gNl)))) (lv z0 (some (.lst goodD)) (some wrD) (some odD) x5 (some (.int k)) x7 x8) [c1] = some (.nx (lv z0 (some (.lst goodD)) (some wrD) (some odD) x5 (some (.int k)) (some (.str w.1)) (some (.int w.2))), [c2]) :=
    asgG_ok ((f2_ok rfl (call2 (a := .cell 0) (b := .int 17) rfl rfl k2)).trans kw) rfl
  have t3 : fTest (f2 oNeS (fSub 0 (fN (oCall 1 F_law_place) (fCons (f2 oAdd (f2 oAdd (fSl (fVar 2) fNo (fPart (fVar 6))) (fLst (fCons (fVar 7) fNil))) (fSl (fVar 2) (fPart (fVar 6)) fNo)) fNil))) (fTup (fCons (fVar 6) (fCons (fVar 8) fNil)))) (lv z0 (some (.lst goodD)) (some wrD) (some odD) x5 (some (.int k)) (some (.str w.1)) (some (.int w.2))) [c2] = some (.ok false [c2]) :=
    test_ok ((f2_ok (sub_ok (n := 0) (st' := []) rfl (call1 (argA hk []) (placeA hk hw)) rfl rfl rfl) rfl).trans (neP _ _ _))
  have t4 : fTest (f2 oNeS (fSub 0 (fN (oCall 1 F_law_place) (fCons (f2 oAdd (f2 oAdd (fLst (fCons (fC (.str "give 7")) fNil)) (fSl (fVar 2) fNo (fPart (fVar 6)))) (fLst (fCons (fVar 7) fNil))) fNil))) (fTup (fCons (f2 oAdd (fVar 6) (fC (.int 1))) (fCons (fVar 8) fNil)))) (lv z0 (some (.lst goodD)) (some wrD) (some odD) x5 (some (.int k)) (some (.str w.1)) (some (.int w.2))) [c2] = some (.ok false [c2]) :=
    test_ok ((f2_ok (sub_ok (n := 0) (st' := []) rfl (call1 (argB hk []) (placeB hk hw)) rfl rfl rfl) rfl).trans (neP _ _ _))
  have t5 : fTest (f2 oNeS (fN (oCallU 0 1 F_law_place) (fCons (f2 oAdd (f2 oAdd (fSl (fVar 2) fNo (fPart (fVar 6))) (fLst (fCons (f2 oIx (fVar 4) (fN (oCall 2 F_law_taken) (fCons (fVar 1) (fCons (fC (.int 7)) fNil)))) fNil))) (fSl (fVar 2) (fPart (fVar 6)) fNo)) fNil)) (fTup (fCons (fC (.str "history")) (fCons (fVar 6) fNil)))) (lv z0 (some (.lst goodD)) (some wrD) (some odD) x5 (some (.int k)) (some (.str w.1)) (some (.int w.2))) [c2] = some (.ok false [c3]) := by
    have a1 : f2 oIx (fVar 4) (fN (oCall 2 F_law_taken) (fCons (fVar 1) (fCons (fC (.int 7)) fNil))) (lv z0 (some (.lst goodD)) (some wrD) (some odD) x5 (some (.int k)) (some (.str w.1)) (some (.int w.2))) [c2] = some (.ok (.str x) [c3]) := (f2_ok rfl (call2 (a := .cell 0) (b := .int 7) rfl rfl k3)).trans kx
    have hl1 : (goodD.take k).length ≤ 4 := by rw [List.length_take]; exact Nat.min_le_right _ _
    have hl2 : (goodD.drop k).length ≤ 4 := by rw [List.length_drop]; exact Nat.sub_le _ _
    have a2 := (f2_ok (op := oAdd) (slA (z0 := z0) (x5 := x5) (x := w.1) (y := w.2) hk [c2]) (lst_ok (cons_ok a1 nil_ok) (by show 1 ≤ 100000; omega))).trans (addL _ _ [c3] (by show (goodD.take k).length + 1 ≤ 100; omega))
    have a3 := (f2_ok (op := oAdd) a2 (slB (z0 := z0) (x5 := x5) (x := w.1) (y := w.2) hk [c3])).trans (addL _ _ [c3] (by rw [List.length_append]; show (goodD.take k).length + 1 + (goodD.drop k).length ≤ 100; omega))
    have pl1 : ∀ l : List D, (∀ d ∈ l, pl 0 d = true) → pls 0 l = true := by
      intro l
      induction l with
      | nil => intro _; rfl
      | cons d l ih => intro h; show (pl 0 d && pls 0 l) = true; rw [h d List.mem_cons_self, ih fun d' hd => h d' (List.mem_cons_of_mem _ hd)]; rfl
    have gp : ∀ d ∈ goodD, pl 0 d = true := by
      intro d hd
      unfold goodD at hd
      simp only [List.mem_cons, List.not_mem_nil, or_false] at hd
      rcases hd with rfl | rfl | rfl | rfl <;> rfl
    have hpl : pls 0 [.lst (goodD.take k ++ [.str x] ++ goodD.drop k)] = true := by
      refine pl1 _ fun d hd => ?_
      rw [List.mem_singleton.mp hd]
      show pls 0 _ = true
      refine pl1 _ fun d hd => ?_
      rcases List.mem_append.mp hd with hd | hd
      · rcases List.mem_append.mp hd with hd | hd
        · exact gp d (List.mem_of_mem_take hd)
        · rw [List.mem_singleton.mp hd]; rfl
      · exact gp d (List.mem_of_mem_drop hd)
    have a4 : fN (oCallU 0 1 F_law_place) (fCons (f2 oAdd (f2 oAdd (fSl (fVar 2) fNo (fPart (fVar 6))) (fLst (fCons (f2 oIx (fVar 4) (fN (oCall 2 F_law_taken) (fCons (fVar 1) (fCons (fC (.int 7)) fNil)))) fNil))) (fSl (fVar 2) (fPart (fVar 6)) fNo)) fNil) (lv z0 (some (.lst goodD)) (some wrD) (some odD) x5 (some (.int k)) (some (.str w.1)) (some (.int w.2))) [c2] = some (.ok (.tup [.str "history", .int k]) [c3]) :=
      (fN_ok (cons_ok a3 nil_ok)).trans (callU_ok (n := 0) (st' := []) rfl hpl rfl (placeH hk hx) rfl rfl rfl)
    exact test_ok ((f2_ok a4 rfl).trans (neH _ _))
  have t6 : fTest (f2 oNeS (fSub 0 (fN (oCall 1 F_law_place) (fCons (f2 oAdd (fVar 2) (fLst (fCons (fC (.str "clock 1 0")) fNil))) fNil))) (fTup (fCons (fC (.str "history")) (fCons (fC (.int 4)) fNil)))) (lv z0 (some (.lst goodD)) (some wrD) (some odD) x5 (some (.int k)) (some (.str w.1)) (some (.int w.2))) [c3] = some (.ok false [c3]) :=
    test_ok ((f2_ok (sub_ok (n := 0) (st' := []) rfl (call1 (a := .lst (goodD ++ [.str "clock 1 0"])) rfl place4) rfl rfl rfl) rfl).trans (neH _ _))
  have t7 : fTest (f2 oNotN (fSub 0 (fN (oCall 1 F_law_place) (fCons (f2 oAdd (fVar 2) (fLst (fCons (fC (.str "clock 1 1")) (fCons (fC (.str "clock 1 0")) fNil)))) fNil))) (fC .non)) (lv z0 (some (.lst goodD)) (some wrD) (some odD) x5 (some (.int k)) (some (.str w.1)) (some (.int w.2))) [c3] = some (.ok false [c3]) :=
    test_ok ((f2_ok (sub_ok (n := 0) (st' := []) rfl (call1 (a := .lst (goodD ++ [.str "clock 1 1", .str "clock 1 0"])) rfl place6) rfl rfl rfl) rfl).trans rfl)
  refine ⟨c3, some (.int k), some (.str w.1), some (.int w.2), hc3, ?_⟩
  unfold b_tn
  rw [seq_nx p1, seq_nx p2, seq_nx ((if_f t3).trans rfl), seq_nx ((if_f t4).trans rfl), seq_nx ((if_f t5).trans rfl), seq_nx ((if_f t6).trans rfl)]
  exact (if_f t7).trans rfl
theorem turns {ns : List Int} (z0 : Option D) : ∀ (ds : List D) (c : Cell) (x5 x6 x7 x8 : Option D), RowOk ns c →
    ∃ (c' : Cell) (y5 y6 y7 y8 : Option D), forF (gN 5) b_tn ds (lv z0 (some (.lst goodD)) (some wrD) (some odD) x5 x6 x7 x8) [c] = some (.nx (lv z0 (some (.lst goodD)) (some wrD) (some odD) y5 y6 y7 y8), [c'])
  | [], c, x5, x6, x7, x8, _ => ⟨c, x5, x6, x7, x8, rfl⟩
  | d :: ds, c, x5, x6, x7, x8, hc => by
    obtain ⟨c1, y6, y7, y8, h1, k1⟩ := law_turn (x5 := some d) hc z0 x6 x7 x8
    obtain ⟨c2, w5, w6, w7, w8, k2⟩ := turns z0 ds c1 (some d) y6 y7 y8 h1
    exact ⟨c2, w5, w6, w7, w8, (for_cons (env1 := lv z0 (some (.lst goodD)) (some wrD) (some odD) (some d) x6 x7 x8) (st1 := [c]) rfl k1).trans k2⟩
theorem law_true (ns : List Int) : F_law [.fls (ns.map D.int)] [] = some (.ok (.bl true) []) := by
  have hc0 : RowOk ns (rowC ns 0 0 0) := ⟨0, 0, 0, by omega, by omega, rfl⟩
  have p1 : sAsg 1 (fNew (fCons (fVar 0) (fCons (fC (.int 0)) (fCons (fC (.int 0)) (fCons (fC (.int 0)) fNil))))) [some (.fls (ns.map D.int)), none, none, none, none, none, none, none, none] [] = some (.nx (lv (some (.fls (ns.map D.int))) none none none none none none none), [rowC ns 0 0 0]) := rfl
  have t2 : (fTest (f2 oNotN (fSub 0 (fN (oCall 1 F_law_place) (fCons (fVar 2) fNil))) (fC .non))) (lv (some (.fls (ns.map D.int))) (some (.lst goodD)) none none none none none none) [rowC ns 0 0 0] = some (.ok false [rowC ns 0 0 0]) :=
    test_ok ((f2_ok (sub_ok (n := 0) (st' := []) rfl (call1 (a := .lst goodD) rfl place0) rfl rfl rfl) rfl).trans rfl)
  obtain ⟨c, y5, y6, y7, y8, k⟩ := turns (some (.fls (ns.map D.int))) (rng 0 10) _ none none none none hc0
  have p9 : sForI (DS.iR (fC (.int 10))) (gN 5) b_tn (lv (some (.fls (ns.map D.int))) (some (.lst goodD)) (some wrD) (some odD) none none none none) [rowC ns 0 0 0] = some (.nx (lv (some (.fls (ns.map D.int))) (some (.lst goodD)) (some wrD) (some odD) y5 y6 y7 y8), [c]) := (forI_ok (ds := rng 0 10) rfl).trans k
  have bb : b_law [some (.fls (ns.map D.int)), none, none, none, none, none, none, none, none] [] = some (.rt (.bl true), [] ++ [c]) := by
    rw [law_eq, seq_nx p1]
    rw [seq_nx (env' := lv (some (.fls (ns.map D.int))) (some (.lst goodD)) none none none none none none) (st' := [rowC ns 0 0 0]) rfl]
    rw [seq_nx ((if_f t2).trans rfl)]
    rw [seq_nx (env' := lv (some (.fls (ns.map D.int))) (some (.lst goodD)) (some (.lst ((wrongs.take 7).map wD))) none none none none none) (st' := [rowC ns 0 0 0]) rfl]
    rw [seq_nx (env' := lv (some (.fls (ns.map D.int))) (some (.lst goodD)) (some (.lst ((wrongs.take 12).map wD))) none none none none none) (st' := [rowC ns 0 0 0]) rfl]
    rw [seq_nx (env' := lv (some (.fls (ns.map D.int))) (some (.lst goodD)) (some wrD) none none none none none) (st' := [rowC ns 0 0 0]) rfl]
    rw [seq_nx (env' := lv (some (.fls (ns.map D.int))) (some (.lst goodD)) (some wrD) (some odD) none none none none) (st' := [rowC ns 0 0 0]) rfl]
    rw [seq_nx p9]
    rfl
  refine (fn_end (m := 9) (ds := [.fls (ns.map D.int)]) rfl bb).trans ?_
  exact end_cut (st0 := []) (st1 := []) (rest := [c]) rfl (Nat.succ_pos _) rfl rfl
end
end Law

open PySem PySem.W PySem.Calls PyProof.Rows
theorem PySem.Challenge.cw_manymakers_k43_texts_rejected_of (lt : ∀ ns : List Int, ns.length ≤ 63 → Law.F_law [.fls (ns.map DS.D.int)] [] = some (.ok (.bl true) [])) : PySem.Challenge.rw_manymakers_k43_texts_rejected.Holds := by
  w_on; o_law
  refine HandSHeadRun.head_any (r := OpenLaw.row PySem.Challenge.rw_manymakers_k43_texts_rejected) (q := view (OpenLaw.row PySem.Challenge.rw_manymakers_k43_texts_rejected).prog [45]) (H := Law.hk) (ob := Law.ob) (M := 6000) (loose := Law.loose) (d := HandSHeadRun.topDef (OpenLaw.row PySem.Challenge.rw_manymakers_k43_texts_rejected).prog 45) (kwd := []) Law.ob_eq
    (by kernel_rfl) (fun s => by kernel_rfl) Law.run (by kernel_rfl) (by kernel_rfl) (by kernel_rfl) (by rfl) (by first | assumption | decide +kernel) (by decide +kernel) ⟨rfl, rfl, rfl, rfl, rfl, by decide +kernel⟩ ?hw ?hc
  case hw => w_witness2
  case hc =>
    refine L2.walk_ofE (l := PySem.Challenge.rw_manymakers_k43_texts_rejected) (n := 63) (k := 10) (x := "_law_script") (CX := L2.CX0) rfl (by decide) (by kernel_rfl) ⟨rfl, by decide, by decide⟩ ?F (fun _ _ _ _ z => z)
    intro w mg fa h Y G hmg0
    obtain ⟨K, KX, c⟩ := Y
    have hmg : mg ("law" : PySem.Str) = some (.ref fa) := by
      have e : (HandSHeadRun.topDef (OpenLaw.row PySem.Challenge.rw_manymakers_k43_texts_rejected).prog 45).name = ("law" : PySem.Str) := by kernel_rfl
      rw [← e]
      exact hmg0
    obtain ⟨fd, hb, hF⟩ := Law.all (P := (PySem.Challenge.rw_manymakers_k43_texts_rejected).prog) KX G c hmg
    exact ⟨K, fd, fun vs H Q _ => DS.spD K (Law.caK K w) 1 Law.F_law vs H Q L2.E0, KX, hb, fun H a ns hl _ hS => HK.law_sp hS (lt ns hl), fun base b1 b2 => HK.to0 (hF base b1 b2)⟩


theorem PySem.Challenge.cw_manymakers_k43_texts_rejected_holds : PySem.Challenge.rw_manymakers_k43_texts_rejected.Holds := by
  exact PySem.Challenge.cw_manymakers_k43_texts_rejected_of fun ns _ => Law.law_true ns
